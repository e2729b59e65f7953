import PyProof.Rows.All
import Wide.All
import OpenK.AllK
import Wide.FinOn
import PySem.Challenge.RW_rootfast_k04_texts_of_numbers
import HandS.Base
import HandS.Call
import HandS.List
import HandS.Comp
import HandS.Exc
import HandS.ExcOwn
import HandS.Words
import KE.KeyNested
import HandS.WideBits
import HandS.Wide
import HandS.IsInst
import HandS.Gcd
import HandS.TupAny
import HandS.Text
import HandS.More
import HandS.CallSlots
import HandS.WordsExc
import PyProof.TypeEq
import HandS.Iter
import HandS.RevRange
import HandS.Style
import PyProof.StrBlock2
import HandS.TryOnly
import HandS.Conv
import HandS.TupSets
import KE.KMathG
import HandS.DictTup
import KE.SortData
import HandS.Zip
import HandS.TupMul
import KE.DatumOrd
import KE.KTupSum
import KE.KRevSl
import KE.DataMinMax
import HandS.SortKw
import KE.GoesEnum
import KE.GoesMore
import HandS.FStr
import HandS.Flow
import HandS.Rev
import PyProof.DictMoreH
import HandS.Deep
import KE.KMathGC
import HandS.TryElse
import HandS.ExcIs
import HandS.DictComp
import KE.DataAny
import KE.GoesZip
import KE.KRevIter
import HandS.RevTup
set_option Elab.async false
set_option linter.all false
set_option maxRecDepth 100000
set_option maxHeartbeats 1000000
namespace Rf
open PySem PySem.Spec PyProof.Rows L2
/-! ### dicts whose keys are pairs of tuples of ints -/
abbrev NKey := List Int × List Int
def nk (k : NKey) : NestedKey := .tup [.tup (k.1.map .num), .tup (k.2.map .num)]
def NEnt (p : NKey × Addr × V) (q : NestedKey × Addr × Value) : Prop := q.1 = nk p.1 ∧ q.2.1 = p.2.1 ∧ RelV p.2.2 q.2.2
def NestAt (a : Addr) (L : List (NKey × Addr × V)) (h : Heap) : Prop :=
  L.length ≤ sizeLine ∧ (a == sysModules) = false ∧ ∃ xs : List (NestedKey × Addr × Value), Paired NEnt L xs ∧
    ∃ (o : Obj) (es : Array DictEntry) (ep : Nat), h.get? a = some o ∧ o.ExactDict ∧ o.data = .dict es ep ∧ (∀ w : World, es.toList = xs.map fun x => ⟨x.1.hash w, .ref x.2.1, x.2.2⟩) ∧ (xs.map (·.1)).Nodup
def nestO (a : Addr) (L : List (NKey × Addr × V)) : HO := .ext (NestAt a L)
/-- the key tuple at b -/
def KeyAt (H : Hp) (b : Addr) (k : NKey) : Prop := ∃ b1 b2 : Addr, H b = some (.tup [.ref b1, .ref b2]) ∧ H b1 = some (.tup (k.1.map V.int)) ∧ H b2 = some (.tup (k.2.map V.int))
theorem KeyAt.imp {H H' : Hp} {b : Addr} {k : NKey} (h : KeyAt H b k) (f : ∀ c xs, H c = some (.tup xs) → H' c = some (.tup xs)) : KeyAt H' b k := by
  obtain ⟨b1, b2, h1, h2, h3⟩ := h
  exact ⟨b1, b2, f _ _ h1, f _ _ h2, f _ _ h3⟩
end Rf
namespace Rf
open PySem PySem.Spec PyProof.Rows L2

/-! ### values without a heap -/
/-- a value: immediate, a tuple of values, an object of the store (by its number), a list that never changes -/
inductive D where
  | non | bl (b : Bool) | int (i : Int) | str (x : Str) | ty (n : String) | tup (xs : List D) | ref (i : Nat) | fro (xs : List D) | kt (xs : List D)
inductive O where
  | lst (xs : List D)
  | dct (kvs : List (List Key × D))
  | dcl (kvs : List (List Key × D))
  | dn (kvs : List (NKey × D))
  | dnl (kvs : List (NKey × D))
abbrev Sto := List O
abbrev Env := List (Option D)
inductive R (α : Type) where
  | val (a : α) (S : Sto)
  | exc (c : Str) (S : Sto)

/-- a list of the written part, or one that stands apart from the store -/
def Fro (K : PySem.W.Frag) (φ : Nat → Addr) (n : Nat) (H : Hp) (a : Addr) (xs : List V) : Prop :=
  (L2.Rd H a (.lst xs) ∧ ∀ i, i < n → φ i ≠ a) ∨
    ∃ (o : Obj) (its : Array Value) (n : Nat), K.lookup a = some o ∧ o.cls = .type "list" ∧ o.dict = none ∧ o.data = .seq its n ∧ its.size ≤ sizeLine ∧ Vals xs its.toList
/-- a tuple: tracked, or an object of the module -/
def KtT (K : PySem.W.Frag) (a : Addr) (xs : List V) : Prop :=
    ∃ (o : Obj) (its : Array Value) (n : Nat), K.lookup a = some o ∧ o.cls = .type "tuple" ∧ o.data = .seq its n ∧ its.size ≤ sizeLine ∧ Vals xs its.toList
def TuT (K : PySem.W.Frag) (H : Hp) (a : Addr) (xs : List V) : Prop := H a = some (.tup xs) ∨ KtT K a xs
theorem TuT.sq {K : PySem.W.Frag} {H : Hp} {a : Addr} {xs : List V} (h : TuT K H a xs) : SqT K H a xs := h.elim (fun h => .inl (.inl h)) .inr
theorem Fro.sq {K : PySem.W.Frag} {φ : Nat → Addr} {n : Nat} {H : Hp} {a : Addr} {xs : List V} (h : Fro K φ n H a xs) : SqL K H a xs := h.elim (fun h => .inl h.1) .inr

mutual
inductive Rel (K : PySem.W.Frag) (φ : Nat → Addr) (n : Nat) (H : Hp) : V → D → Prop
  | non : Rel K φ n H .non .non
  | bl (b : Bool) : Rel K φ n H (.bl b) (.bl b)
  | int (i : Int) : Rel K φ n H (.int i) (.int i)
  | str (x : Str) : Rel K φ n H (.str x) (.str x)
  | ty (x : String) : Rel K φ n H (.ty x) (.ty x)
  | tup {a : Addr} {xs : List V} {ds : List D} : H a = some (.tup xs) → Rels K φ n H xs ds → Rel K φ n H (.ref a) (.tup ds)
  | kt {a : Addr} {xs : List V} {ds : List D} : KtT K a xs → Rels K φ n H xs ds → Rel K φ n H (.ref a) (.kt ds)
  | fro {a : Addr} {xs : List V} {ds : List D} : Fro K φ n H a xs → Rels K φ n H xs ds → Rel K φ n H (.ref a) (.fro ds)
  | ref {i : Nat} : i < n → Rel K φ n H (.ref (φ i)) (.ref i)
inductive Rels (K : PySem.W.Frag) (φ : Nat → Addr) (n : Nat) (H : Hp) : List V → List D → Prop
  | nil : Rels K φ n H [] []
  | cons {v : V} {vs : List V} {d : D} {ds : List D} : Rel K φ n H v d → Rels K φ n H vs ds → Rels K φ n H (v :: vs) (d :: ds)
end

/-- an object of the store -/
inductive RelO (K : PySem.W.Frag) (φ : Nat → Addr) (n : Nat) (H : Hp) : HO → O → Prop
  | lst {xs : List V} {ds : List D} : Rels K φ n H xs ds → RelO K φ n H (.lst xs) (.lst ds)
  | dct {ks : List (List Key × V)} {kvs : List (List Key × D)} : ks.map (·.1) = kvs.map (·.1) → Rels K φ n H (ks.map (·.2)) (kvs.map (·.2)) → RelO K φ n H (.dT ks) (.dct kvs)
  | dcl {ob : Obj} {ks : List (List Key × V)} {kvs : List (List Key × D)} : ks.map (·.1) = kvs.map (·.1) → Rels K φ n H (ks.map (·.2)) (kvs.map (·.2)) → RelO K φ n H (.frz ob (.dT ks)) (.dcl kvs)
  | dn {a : Addr} {L : List (NKey × Addr × V)} {kvs : List (NKey × D)} : L.map (·.1) = kvs.map (·.1) → (∀ p ∈ L, KeyAt H p.2.1 p.1) → Rels K φ n H (L.map (·.2.2)) (kvs.map (·.2)) → RelO K φ n H (nestO a L) (.dn kvs)
  | dnl {ob : Obj} {a : Addr} {L : List (NKey × Addr × V)} {kvs : List (NKey × D)} : L.map (·.1) = kvs.map (·.1) → (∀ p ∈ L, KeyAt H p.2.1 p.1) → Rels K φ n H (L.map (·.2.2)) (kvs.map (·.2)) → RelO K φ n H (.frz ob (nestO a L)) (.dnl kvs)
structure Ok (K : PySem.W.Frag) (φ : Nat → Addr) (S : Sto) (H : Hp) : Prop where
  obj : ∀ i o, S[i]? = some o → ∃ ho, H (φ i) = some ho ∧ RelO K φ S.length H ho o
  inj : ∀ i j, i < S.length → j < S.length → φ i = φ j → i = j
/-- the store grows, its objects may change; all else that is tracked stands -/
structure Ext (φ : Nat → Addr) (n : Nat) (H : Hp) (φ' : Nat → Addr) (n' : Nat) (H' : Hp) : Prop where
  le : n ≤ n'
  same : ∀ i, i < n → φ' i = φ i
  keep : ∀ a o, H a = some o → (∀ i, i < n → φ i ≠ a) → H' a = some o
  new : ∀ i, n ≤ i → i < n' → H (φ' i) = none
  dom : ∀ a, H a ≠ none → H' a ≠ none
  frz : ∀ a ob u, H a = some (.frz ob u) → H' a = some (.frz ob u)
theorem Ext.refl (φ : Nat → Addr) (n : Nat) (H : Hp) : Ext φ n H φ n H := ⟨Nat.le_refl _, fun _ _ => rfl, fun _ _ h _ => h, fun i h1 h2 => absurd h2 (by omega), fun _ h => h, fun _ _ _ h => h⟩
theorem Ext.trans {φ φ1 φ2 : Nat → Addr} {n n1 n2 : Nat} {H H1 H2 : Hp} (a : Ext φ n H φ1 n1 H1) (b : Ext φ1 n1 H1 φ2 n2 H2) : Ext φ n H φ2 n2 H2 where
  le := Nat.le_trans a.le b.le
  same := fun i h => (b.same i (Nat.lt_of_lt_of_le h a.le)).trans (a.same i h)
  keep := fun x o h hn => b.keep x o (a.keep x o h hn) fun i hi z => by
    by_cases hlt : i < n
    · exact hn i hlt ((a.same i hlt).symm.trans z)
    · have := a.new i (by omega) hi
      rw [z, h] at this
      cases this
  new := fun i h1 h2 => by
    by_cases hlt : i < n1
    · rw [b.same i hlt]
      exact a.new i h1 hlt
    · have q := b.new i (by omega) h2
      cases e : H (φ2 i) with
      | none => rfl
      | some o => exact absurd q (a.dom _ (by rw [e]; simp))
  dom := fun x h => b.dom x (a.dom x h)
  frz := fun x ob u h => b.frz x ob u (a.frz x ob u h)

section
variable {K : PySem.W.Frag} {φ φ' : Nat → Addr} {S : Sto} {n' : Nat} {H H' : Hp}
theorem Ok.notup (k : Ok K φ S H) {a : Addr} {o : HO} (h : H a = some o) (ho : ∀ xs, o ≠ .lst xs) (hd : ∀ ks, o ≠ .dT ks) (hf : ∀ ob u, o ≠ .frz ob u) (he : ∀ ψ, o ≠ .ext ψ) : ∀ i, i < S.length → φ i ≠ a := fun i hi z => by
  obtain ⟨ho', e, r⟩ := k.obj i S[i] (List.getElem?_eq_getElem hi)
  rw [z, h] at e
  cases e
  generalize S[i] = x at r
  cases r with
  | lst _ => exact ho _ rfl
  | dct _ _ => exact hd _ rfl
  | dcl _ _ => exact hf _ _ rfl
  | dn _ _ _ => exact he _ rfl
  | dnl _ _ _ => exact hf _ _ rfl
theorem Ok.rdH (k : Ok K φ S H) (e : Ext φ S.length H φ' n' H') {a : Addr} {xs : List V} (h : H a = some (.tup xs)) : H' a = some (.tup xs) :=
  e.keep _ _ h (k.notup h (fun _ z => nomatch z) (fun _ z => nomatch z) (fun _ _ z => nomatch z) fun _ z => nomatch z)
theorem Ok.rdT (k : Ok K φ S H) (e : Ext φ S.length H φ' n' H') {a : Addr} {xs : List V} (h : TuT K H a xs) : TuT K H' a xs := by
  rcases h with h | h
  · exact .inl (e.keep _ _ h (k.notup h (fun _ z => nomatch z) (fun _ z => nomatch z) (fun _ _ z => nomatch z) fun _ z => nomatch z))
  · exact .inr h
theorem Ok.rdF (k : Ok K φ S H) (e : Ext φ S.length H φ' n' H') {a : Addr} {xs : List V} (h : Fro K φ S.length H a xs) : Fro K φ' n' H' a xs := by
  rcases h with ⟨h, hn⟩ | h
  · have hs : H a ≠ none := by
      rcases h with h | ⟨o, h⟩ <;> rw [h] <;> simp
    refine .inl ⟨?_, fun i hi z => ?_⟩
    · rcases h with h | ⟨o, h⟩
      · exact .inl (e.keep _ _ h hn)
      · exact .inr ⟨o, e.keep _ _ h hn⟩
    · by_cases hlt : i < S.length
      · exact hn i hlt ((e.same i hlt).symm.trans z)
      · have q := e.new i (by omega) hi
        rw [z] at q
        exact hs q
  · exact .inr h
mutual
theorem Rel.mono (k : Ok K φ S H) (e : Ext φ S.length H φ' n' H') : ∀ {v : V} {d : D}, Rel K φ S.length H v d → Rel K φ' n' H' v d
  | _, _, .non => .non
  | _, _, .bl b => .bl b
  | _, _, .int i => .int i
  | _, _, .str x => .str x
  | _, _, .ty x => .ty x
  | _, _, .tup h r => .tup (k.rdH e h) (Rels.mono k e r)
  | _, _, .kt h r => .kt h (Rels.mono k e r)
  | _, _, .fro h r => .fro (k.rdF e h) (Rels.mono k e r)
  | _, _, .ref (i := i) h => by
    rw [← e.same i h]
    exact .ref (Nat.lt_of_lt_of_le h e.le)
theorem Rels.mono (k : Ok K φ S H) (e : Ext φ S.length H φ' n' H') : ∀ {v : List V} {d : List D}, Rels K φ S.length H v d → Rels K φ' n' H' v d
  | _, _, .nil => .nil
  | _, _, .cons r t => .cons (Rel.mono k e r) (Rels.mono k e t)
end
end

/-! ### relations of the slots -/
structure RelE (K : PySem.W.Frag) (φ : Nat → Addr) (n : Nat) (H : Hp) (ρ : Env) (σ : L2.St) : Prop where
  len : ρ.length = σ.length
  at_ : ∀ (i : Nat) (d : D), ρ[i]? = some (some d) → ∃ v, σ[i]? = some (some v) ∧ Rel K φ n H v d
theorem RelE.mono {K : PySem.W.Frag} {φ φ' : Nat → Addr} {S : Sto} {n' : Nat} {H H' : Hp} {ρ : Env} {σ : L2.St} (k : Ok K φ S H) (e : Ext φ S.length H φ' n' H') (r : RelE K φ S.length H ρ σ) : RelE K φ' n' H' ρ σ :=
  ⟨r.len, fun i d h => by obtain ⟨v, q, z⟩ := r.at_ i d h; exact ⟨v, q, z.mono k e⟩⟩
theorem RelE.set {K : PySem.W.Frag} {φ : Nat → Addr} {n : Nat} {H : Hp} {ρ : Env} {σ : L2.St} (r : RelE K φ n H ρ σ) (i : Nat) {v : V} {d : D} (h : Rel K φ n H v d) : RelE K φ n H (ρ.set i (some d)) (σ.set i (some v)) := by
  refine ⟨by simp [r.len], fun j e hj => ?_⟩
  by_cases c : i = j
  · subst c
    by_cases hl : i < ρ.length
    · rw [List.getElem?_set_self hl] at hj
      cases hj
      exact ⟨v, List.getElem?_set_self (by rw [← r.len]; exact hl), h⟩
    · rw [List.getElem?_eq_none (by simp; omega)] at hj
      cases hj
  · rw [List.getElem?_set_ne c] at hj
    obtain ⟨w, q, z⟩ := r.at_ j e hj
    exact ⟨w, by rw [List.getElem?_set_ne c]; exact q, z⟩
theorem RelE.unset {K : PySem.W.Frag} {φ : Nat → Addr} {n : Nat} {H : Hp} {ρ : Env} {σ : L2.St} (r : RelE K φ n H ρ σ) (i : Nat) {v : Option V} : RelE K φ n H (ρ.set i none) (σ.set i v) := by
  refine ⟨by simp [r.len], fun j e hj => ?_⟩
  by_cases c : i = j
  · subst c
    by_cases hl : i < ρ.length
    · rw [List.getElem?_set_self hl] at hj
      cases hj
    · rw [List.getElem?_eq_none (by simp; omega)] at hj
      cases hj
  · rw [List.getElem?_set_ne c] at hj
    obtain ⟨w, q, z⟩ := r.at_ j e hj
    exact ⟨w, by rw [List.getElem?_set_ne c]; exact q, z⟩

/-! ### readings -/
abbrev RelT (β α : Type) := (Nat → Addr) → Nat → Hp → β → α → Prop
class Mono (K : PySem.W.Frag) {β α : Type} (rel : RelT β α) : Prop where
  mono : ∀ {φ : Nat → Addr} {S : Sto} {H : Hp} {φ' : Nat → Addr} {n' : Nat} {H' : Hp} {b : β} {a : α}, Ok K φ S H → Ext φ S.length H φ' n' H' → rel φ S.length H b a → rel φ' n' H' b a
instance {K : PySem.W.Frag} : Mono K (Rel K) := ⟨fun k e r => r.mono k e⟩
instance {K : PySem.W.Frag} : Mono K (Rels K) := ⟨fun k e r => r.mono k e⟩
def RelB {α : Type} : RelT α α := fun _ _ _ b a => b = a
instance {K : PySem.W.Frag} {α : Type} : Mono K (RelB (α := α)) := ⟨fun _ _ r => r⟩

variable (K : PySem.W.Frag) (ec : Str → Value)
section
variable {α β γ δ : Type}
def KV (rel : RelT β α) (W : WX) (φ : Nat → Addr) (n : Nat) (σ : L2.St) (H : Hp) (Q : β → Hp → Prop) : R α → Prop
  | .val a S' => ∀ φ' H' b, Ext φ n H φ' S'.length H' → Ok K φ' S' H' → rel φ' S'.length H' b a → Q b H'
  | .exc c S' => ∀ φ' H', Ext φ n H φ' S'.length H' → Ok K φ' S' H' → W (ec c) none σ H'
variable {K ec}
theorem KV.ext {rel : RelT β α} {W : WX} {φ φ1 : Nat → Addr} {n n1 : Nat} {σ : L2.St} {H H1 : Hp} {Q : β → Hp → Prop} {r : R α} (e : Ext φ n H φ1 n1 H1) (h : KV K ec rel W φ n σ H Q r) : KV K ec rel W φ1 n1 σ H1 Q r := by
  cases r with
  | val a S' => exact fun φ' H' b e' => h φ' H' b (e.trans e')
  | exc c S' => exact fun φ' H' e' => h φ' H' (e.trans e')
theorem KV.imp {rel : RelT β α} {W : WX} {φ : Nat → Addr} {n : Nat} {σ : L2.St} {H : Hp} {Q Q' : β → Hp → Prop} {r : R α} (hq : ∀ b H, Q b H → Q' b H) (h : KV K ec rel W φ n σ H Q r) : KV K ec rel W φ n σ H Q' r := by
  cases r with
  | val a S' => exact fun φ' H' b e o r => hq _ _ (h φ' H' b e o r)
  | exc c S' => exact h
abbrev M (α : Type) := Env → Sto → Option (R α)
def mB (m : M γ) (k : γ → M α) : M α := fun ρ S => match m ρ S with
  | none => none
  | some (.exc c S1) => some (.exc c S1)
  | some (.val a S1) => k a ρ S1
def mRet (a : α) : M α := fun _ S => some (.val a S)
variable (K ec)
/-- a reading by m -/
def rd (rel : RelT β α) (W : WX) (m : M α) : L2.St → Hp → (β → Hp → Prop) → Prop := fun σ H Q =>
  ∃ (φ : Nat → Addr) (S : Sto) (ρ : Env), Ok K φ S H ∧ RelE K φ S.length H ρ σ ∧ ∃ r, m ρ S = some r ∧ KV K ec rel W φ S.length σ H Q r
variable {K ec}
/-- the state between two evaluations: C is what is carried -/
structure Cf (K : PySem.W.Frag) (ec : Str → Value) (rel : RelT β α) (W : WX) (C : (Nat → Addr) → Nat → Hp → Prop) (φ : Nat → Addr) (S : Sto) (ρ : Env) (σ : L2.St) (H : Hp) (Q : β → Hp → Prop) (k : Sto → Option (R α)) : Prop where
  ok : Ok K φ S H
  env : RelE K φ S.length H ρ σ
  car : C φ S.length H
  run : ∃ r, k S = some r ∧ KV K ec rel W φ S.length σ H Q r
def MonoC (K : PySem.W.Frag) (C : (Nat → Addr) → Nat → Hp → Prop) : Prop := ∀ (φ : Nat → Addr) (S : Sto) (H : Hp) (φ' : Nat → Addr) (n' : Nat) (H' : Hp), Ok K φ S H → Ext φ S.length H φ' n' H' → C φ S.length H → C φ' n' H'
theorem monoC_true : MonoC K fun _ _ _ => True := fun _ _ _ _ _ _ _ _ _ => trivial
theorem monoC_rel {rel : RelT β α} [Mono K rel] {b : β} {a : α} : MonoC K fun φ n H => rel φ n H b a := fun _ _ _ _ _ _ k e r => Mono.mono k e r
/-- one evaluation ahead -/
theorem Cf.bind {rel : RelT β α} {rel1 : RelT δ γ} {W : WX} {C : (Nat → Addr) → Nat → Hp → Prop} (hC : MonoC K C) {φ : Nat → Addr} {S : Sto} {ρ : Env} {σ : L2.St} {H : Hp} {Q : β → Hp → Prop} {m : M γ} {k : γ → M α} (c : Cf K ec rel W C φ S ρ σ H Q (mB m k ρ)) :
    rd K ec rel1 W m σ H fun x H1 => ∃ (φ1 : Nat → Addr) (S1 : Sto) (a : γ), rel1 φ1 S1.length H1 x a ∧ Cf K ec rel W C φ1 S1 ρ σ H1 Q (k a ρ) := by
  obtain ⟨r, e, q⟩ := c.run
  unfold mB at e
  split at e
  · cases e
  · rename_i c1 S1 e1
    cases e
    exact ⟨φ, S, ρ, c.ok, c.env, _, e1, q⟩
  · rename_i a S1 e1
    refine ⟨φ, S, ρ, c.ok, c.env, _, e1, fun φ' H' b ex ok r1 => ⟨φ', S1, a, r1, ok, c.env.mono c.ok ex, hC _ _ _ _ _ _ c.ok ex c.car, r, e, q.ext ex⟩⟩
theorem Cf.start {rel : RelT β α} {W : WX} {σ : L2.St} {H : Hp} {Q : β → Hp → Prop} {m : M α} (h : rd K ec rel W m σ H Q) : ∃ (φ : Nat → Addr) (S : Sto) (ρ : Env), Cf K ec rel W (fun _ _ _ => True) φ S ρ σ H Q (m ρ) := by
  obtain ⟨φ, S, ρ, ok, env, r, e, q⟩ := h
  exact ⟨φ, S, ρ, ok, env, trivial, r, e, q⟩
theorem Cf.carry {rel : RelT β α} {W : WX} {C C' : (Nat → Addr) → Nat → Hp → Prop} {φ : Nat → Addr} {S : Sto} {ρ : Env} {σ : L2.St} {H : Hp} {Q : β → Hp → Prop} {k : Sto → Option (R α)} (c : Cf K ec rel W C φ S ρ σ H Q k) (h : C' φ S.length H) : Cf K ec rel W C' φ S ρ σ H Q k := ⟨c.ok, c.env, h, c.run⟩
/-- the end of an evaluation -/
theorem Cf.done {rel : RelT β α} {W : WX} {C : (Nat → Addr) → Nat → Hp → Prop} {φ : Nat → Addr} {S S' : Sto} {ρ : Env} {σ : L2.St} {H : Hp} {Q : β → Hp → Prop} {k : Sto → Option (R α)} {a : α} {b : β} (c : Cf K ec rel W C φ S ρ σ H Q k)
    (hk : k S = some (.val a S')) {φ' : Nat → Addr} {H' : Hp} (ex : Ext φ S.length H φ' S'.length H') (ok : Ok K φ' S' H') (hr : rel φ' S'.length H' b a) : Q b H' := by
  obtain ⟨r, e, q⟩ := c.run
  rw [hk] at e
  cases e
  exact q φ' H' b ex ok hr
theorem Cf.ret {rel : RelT β α} {W : WX} {C : (Nat → Addr) → Nat → Hp → Prop} {φ : Nat → Addr} {S : Sto} {ρ : Env} {σ : L2.St} {H : Hp} {Q : β → Hp → Prop} {k : Sto → Option (R α)} {a : α} {b : β} (c : Cf K ec rel W C φ S ρ σ H Q k)
    (hk : k S = some (.val a S)) (hr : rel φ S.length H b a) : Q b H := c.done hk (Ext.refl _ _ _) c.ok hr
end

/-! a new object -/
section
variable {K : PySem.W.Frag} {φ : Nat → Addr} {S : Sto} {H : Hp}
theorem ext_imm {p : Addr} {ho : HO} (hp : H p = none) : Ext φ S.length H φ S.length (upd H p ho) := by
  refine ⟨Nat.le_refl _, fun _ _ => rfl, fun a o h _ => ?_, fun i h1 h2 => absurd h2 (by omega), fun a h => ?_, fun a ob u h => ?_⟩
  · rw [upd_ne (ne_of_none h hp)]; exact h
  · by_cases c : a = p
    · rw [c, upd_same]; simp
    · rw [upd_ne c]; exact h
  · rw [upd_ne (ne_of_none h hp)]; exact h
theorem RelO.mono {φ' : Nat → Addr} {n' : Nat} {H' : Hp} (k : Ok K φ S H) (e : Ext φ S.length H φ' n' H') {ho : HO} {o : O} (r : RelO K φ S.length H ho o) : RelO K φ' n' H' ho o := by
  cases r with
  | lst r => exact .lst (r.mono k e)
  | dct h r => exact .dct h (r.mono k e)
  | dcl h r => exact .dcl h (r.mono k e)
  | dn h g r => exact .dn h (fun p hp => (g p hp).imp fun _ _ q => k.rdH e q) (r.mono k e)
  | dnl h g r => exact .dnl h (fun p hp => (g p hp).imp fun _ _ q => k.rdH e q) (r.mono k e)
/-- a tuple or the like is laid -/
theorem Ok.imm (k : Ok K φ S H) {p : Addr} {ho : HO} (hp : H p = none) : Ok K φ S (upd H p ho) := by
  have ex : Ext φ S.length H φ S.length (upd H p ho) := ext_imm hp
  refine ⟨fun i o h => ?_, k.inj⟩
  obtain ⟨h1, e, r⟩ := k.obj i o h
  exact ⟨h1, by rw [upd_ne (ne_of_none e hp)]; exact e, r.mono k ex⟩
/-- where the new object stands -/
def nxt (φ : Nat → Addr) (n : Nat) (p : Addr) : Nat → Addr := fun i => if i = n then p else φ i
theorem nxt_old {n i : Nat} {p : Addr} (h : i < n) : nxt φ n p i = φ i := by unfold nxt; rw [if_neg (by omega)]
theorem nxt_new {n : Nat} {p : Addr} : nxt φ n p n = p := by unfold nxt; rw [if_pos rfl]
theorem ext_new {p : Addr} {ho : HO} (hp : H p = none) : Ext φ S.length H (nxt φ S.length p) (S.length + 1) (upd H p ho) := by
  refine ⟨Nat.le_succ _, fun i h => nxt_old h, fun a o h _ => ?_, fun i h1 h2 => ?_, fun a h => ?_, fun a ob u h => ?_⟩
  · rw [upd_ne (ne_of_none h hp)]; exact h
  · obtain rfl : i = S.length := by omega
    rw [nxt_new]; exact hp
  · by_cases c : a = p
    · rw [c, upd_same]; simp
    · rw [upd_ne c]; exact h
  · rw [upd_ne (ne_of_none h hp)]; exact h
theorem Ok.new (k : Ok K φ S H) {p : Addr} {ho : HO} {o : O} (hp : H p = none) (r : RelO K φ S.length H ho o) : Ok K (nxt φ S.length p) (S ++ [o]) (upd H p ho) := by
  have ex : Ext φ S.length H (nxt φ S.length p) (S.length + 1) (upd H p ho) := ext_new hp
  have hne : ∀ i, i < S.length → φ i ≠ p := fun i hi z => by
    obtain ⟨h1, e, _⟩ := k.obj i S[i] (List.getElem?_eq_getElem hi)
    rw [z, hp] at e
    cases e
  refine ⟨fun i o' h => ?_, fun i j hi hj z => ?_⟩
  · rw [List.length_append, List.length_singleton]
    by_cases hi : i < S.length
    · rw [List.getElem?_append_left hi] at h
      obtain ⟨h1, e, r1⟩ := k.obj i o' h
      exact ⟨h1, by rw [nxt_old hi, upd_ne (ne_of_none e hp)]; exact e, r1.mono k ex⟩
    · have hl : i < (S ++ [o]).length := by
        by_cases c : i < (S ++ [o]).length
        · exact c
        · rw [List.getElem?_eq_none (by omega)] at h; cases h
      rw [List.length_append, List.length_singleton] at hl
      obtain rfl : i = S.length := by omega
      rw [List.getElem?_append_right (Nat.le_refl _), Nat.sub_self] at h
      cases h
      exact ⟨ho, by rw [nxt_new]; exact upd_same, r.mono k ex⟩
  · rw [List.length_append, List.length_singleton] at hi hj
    by_cases h1 : i < S.length
    · by_cases h2 : j < S.length
      · rw [nxt_old h1, nxt_old h2] at z
        exact k.inj i j h1 h2 z
      · obtain rfl : j = S.length := by omega
        rw [nxt_old h1, nxt_new] at z
        exact absurd z (hne i h1)
    · obtain rfl : i = S.length := by omega
      by_cases h2 : j < S.length
      · rw [nxt_old h2, nxt_new] at z
        exact absurd z.symm (hne j h2)
      · omega
/-- an object of the store changes -/
theorem Ok.ne (k : Ok K φ S H) {i j : Nat} (hi : i < S.length) (hj : j < S.length) (h : i ≠ j) : φ i ≠ φ j := fun z => h (k.inj i j hi hj z)
theorem ext_put (k : Ok K φ S H) {i : Nat} {ho : HO} (hi : i < S.length) (nf : ∀ ob u, H (φ i) ≠ some (.frz ob u)) : Ext φ S.length H φ S.length (upd H (φ i) ho) := by
  refine ⟨Nat.le_refl _, fun _ _ => rfl, fun a o h hn => ?_, fun i h1 h2 => absurd h2 (by omega), fun a h => ?_, fun a ob u h => ?_⟩
  · rw [upd_ne (fun z => hn i hi z.symm)]; exact h
  · by_cases c : a = φ i
    · rw [c, upd_same]; simp
    · rw [upd_ne c]; exact h
  · rw [upd_ne (fun z => nf ob u (by rw [← z]; exact h))]; exact h
theorem nfL {H : Hp} {a : Addr} {us : List V} (h : H a = some (.lst us)) : ∀ ob u, H a ≠ some (.frz ob u) := fun ob u z => by rw [h] at z; cases z
theorem Ok.put (k : Ok K φ S H) {i : Nat} {ho : HO} {o : O} (hi : i < S.length) (nf : ∀ ob u, H (φ i) ≠ some (.frz ob u)) (r : RelO K φ S.length H ho o) : Ok K φ (S.set i o) (upd H (φ i) ho) := by
  have ex : Ext φ S.length H φ S.length (upd H (φ i) ho) := ext_put k hi nf
  refine ⟨fun j o' h => ?_, fun a b ha hb z => k.inj a b (by simpa using ha) (by simpa using hb) z⟩
  rw [List.length_set]
  by_cases c : i = j
  · subst c
    rw [List.getElem?_set_self hi] at h
    cases h
    exact ⟨ho, upd_same, r.mono k ex⟩
  · rw [List.getElem?_set_ne c] at h
    have hj : j < S.length := by
      by_cases q : j < S.length
      · exact q
      · rw [List.getElem?_eq_none (by omega)] at h; cases h
    obtain ⟨h1, e, r1⟩ := k.obj j o' h
    exact ⟨h1, by rw [upd_ne (k.ne hj hi (Ne.symm c))]; exact e, r1.mono k ex⟩
end
end Rf
namespace Rf
open PySem PySem.Spec PyProof.Rows L2

variable {X : Cx} {ec : Str → Value} {W : WX}
def XE (X : Cx) (ec : Str → Value) (W : WX) (e : Expr) (m : M D) : Prop := PE X e (rd X.K ec (Rel X.K) W m)
def XT (X : Cx) (ec : Str → Value) (W : WX) (e : Expr) (m : M Bool) : Prop := PT X e (rd X.K ec RelB W m)
def XA (X : Cx) (ec : Str → Value) (W : WX) (es : List Expr) (m : M (List D)) : Prop := PA X es (rd X.K ec (Rels X.K) W m)

theorem imE {e : Expr} {t t' : TE} (h : PE X e t) (i : ∀ σ H Q, t' σ H Q → t σ H Q) : PE X e t' := ⟨fun pins s σ H Q I q => h.run pins s σ H Q I (i σ H Q q)⟩
theorem imT {e : Expr} {t t' : TT} (h : PT X e t) (i : ∀ σ H Q, t' σ H Q → t σ H Q) : PT X e t' := ⟨fun pins s σ H Q I q => h.run pins s σ H Q I (i σ H Q q)⟩
theorem imA {e : List Expr} {t t' : TA} (h : PA X e t) (i : ∀ σ H Q, t' σ H Q → t σ H Q) : PA X e t' := ⟨fun pos pins s σ H Q I q => h.run pos pins s σ H Q I (i σ H Q q)⟩
theorem rd_imp {K : PySem.W.Frag} {α β : Type} {rel : RelT β α} {m : M α} {σ : L2.St} {H : Hp} {Q Q' : β → Hp → Prop} (h : rd K ec rel W m σ H Q) (hq : ∀ b H, Q b H → Q' b H) : rd K ec rel W m σ H Q' := by
  obtain ⟨φ, S, ρ, ok, env, r, e, q⟩ := h
  exact ⟨φ, S, ρ, ok, env, r, e, q.imp hq⟩

/-! ### names, constants -/
def mVar (i : Nat) : M D := fun ρ S => match ρ[i]? with
  | some (some d) => some (.val d S)
  | _ => none
theorem x_var (i : Nat) {x : Str} {pos : Pos} (hN : X.N[i]? = some x := by rfl) (hv : Vis X.env.scope x := by first | exact Or.inl rfl | exact Or.inr (Or.inl rfl) | exact Or.inr (Or.inr rfl)) (hd : (x == ("__debug__" : Str)) = false := by decide)
    (hcd : (x == ("__classdict__" : Str)) = false := by decide) : XE X ec W (.Name x pos) (mVar i) := imE (pe_var hN hv hd hcd) fun σ H Q h => by
  obtain ⟨φ, S, ρ, ok, env, r, e, q⟩ := h
  unfold mVar at e
  split at e
  · rename_i d hd
    cases e
    obtain ⟨v, hv, rv⟩ := env.at_ i d hd
    exact ⟨v, hv, q φ H v (Ext.refl _ _ _) ok rv⟩
  · cases e
theorem rd_ret {K : PySem.W.Frag} {α β : Type} {rel : RelT β α} {a : α} {b : β} (hr : ∀ φ n H, rel φ n H b a) {σ : L2.St} {H : Hp} {Q : β → Hp → Prop} (h : rd K ec rel W (mRet a) σ H Q) : Q b H := by
  obtain ⟨φ, S, ρ, ok, env, r, e, q⟩ := h
  cases e
  exact q φ H b (Ext.refl _ _ _) ok (hr _ _ _)
theorem x_int {i : Int} {j} {pos : Pos} : XE X ec W (.Constant (.int i) j pos) (mRet (.int i)) := imE pe_int fun _ _ _ h => rd_ret (fun _ _ _ => .int i) h
theorem x_bl {b : Bool} {j} {pos : Pos} : XE X ec W (.Constant (.bool b) j pos) (mRet (.bl b)) := imE pe_bl fun _ _ _ h => rd_ret (fun _ _ _ => .bl b) h
theorem x_non {j} {pos : Pos} : XE X ec W (.Constant .none j pos) (mRet .non) := imE pe_non fun _ _ _ h => rd_ret (fun _ _ _ => .non) h
theorem x_str {x : Str} {j} {pos : Pos} : XE X ec W (.Constant (.str x) j pos) (mRet (.str x)) := imE pe_str fun _ _ _ h => rd_ret (fun _ _ _ => .str x) h
/-- a built-in class as a value -/
theorem x_ty {x : Str} {n : String} {pos : Pos} (hm : X.mg x = none) (hv : bootBuiltins x = some (.type n)) (hg : Gl X x := by rfl) (hn : x ≠ "__name__" := by decide) (hd : (x == ("__debug__" : Str)) = false := by decide) : XE X ec W (.Name x pos) (mRet (.ty n)) :=
  imE (pe_bltn (v := .ty n) (u := .type n) hg hm hv rfl hn hd) fun _ _ _ h => rd_ret (fun _ _ _ => .ty n) h
/-- a constant of the module -/
theorem x_glob {x : Str} {v : V} {d : D} {u : Value} {pos : Pos} (hm : X.mg x = some u) (r : RelV v u) (hr : ∀ φ n H, Rel X.K φ n H v d) (hg : Gl X x := by rfl) (hd : (x == ("__debug__" : Str)) = false := by decide) : XE X ec W (.Name x pos) (mRet d) :=
  imE (pe_glob hg hm r hd) fun _ _ _ h => rd_ret hr h

/-! ### operators -/
abbrev G2 := D → D → Sto → Option (D × Sto)
def OpS (X : Cx) (f : Value → Value → Sem Value) (g : G2) : Prop := ∃ r : R2, OpR X f r ∧ ∀ (φ : Nat → Addr) (S : Sto) (H : Hp) (x y : V) (a b c : D) (S' : Sto), Ok X.K φ S H → Rel X.K φ S.length H x a → Rel X.K φ S.length H y b → g a b S = some (c, S') →
  ∀ Q : VK, (∀ φ' H' v, Ext φ S.length H φ' S'.length H' → Ok X.K φ' S' H' → Rel X.K φ' S'.length H' v c → Q v H') → r x y H Q
def mOp (g : G2) (ma mb : M D) : M D := mB ma fun a => mB mb fun b _ S => match g a b S with
  | some (c, S') => some (.val c S')
  | none => none
theorem rd_op {f : Value → Value → Sem Value} {g : G2} {ma mb : M D} {σ : L2.St} {H : Hp} {Q : VK} {r : R2} (hr : ∀ (φ : Nat → Addr) (S : Sto) (H : Hp) (x y : V) (a b c : D) (S' : Sto), Ok X.K φ S H → Rel X.K φ S.length H x a → Rel X.K φ S.length H y b → g a b S = some (c, S') →
  ∀ Q : VK, (∀ φ' H' v, Ext φ S.length H φ' S'.length H' → Ok X.K φ' S' H' → Rel X.K φ' S'.length H' v c → Q v H') → r x y H Q) (h : rd X.K ec (Rel X.K) W (mOp g ma mb) σ H Q) : tOp r (rd X.K ec (Rel X.K) W ma) (rd X.K ec (Rel X.K) W mb) σ H Q := by
  obtain ⟨φ, S, ρ, c⟩ := Cf.start h
  refine rd_imp (c.bind (rel1 := Rel X.K) monoC_true) fun x H1 ⟨φ1, S1, a, ra, c1⟩ => ?_
  refine rd_imp ((c1.carry ra).bind (rel1 := Rel X.K) monoC_rel) fun y H2 ⟨φ2, S2, b, rb, c2⟩ => ?_
  obtain ⟨r', e, q⟩ := c2.run
  cases hg : g a b S2 with
  | none => rw [hg] at e; cases e
  | some p =>
    obtain ⟨z, S'⟩ := p
    rw [hg] at e
    cases e
    exact hr φ2 S2 H2 x y a b z S' c2.ok c2.car rb hg Q q
theorem x_bin {op : Operator} {g : G2} {a b : Expr} {ma mb : M D} {pos : Pos} (ho : OpS X (binaryOp op) g) (ha : XE X ec W a ma) (hb : XE X ec W b mb) : XE X ec W (.BinOp a op b pos) (mOp g ma mb) := by
  obtain ⟨r, hr, i⟩ := ho
  exact imE (pe_op hr ha hb) fun σ H Q h => rd_op (f := binaryOp op) i h
theorem x_cmp {op : CmpOp} {g : G2} {a b : Expr} {ma mb : M D} {pos : Pos} (ho : OpS X (compareOp op) g) (ha : XE X ec W a ma) (hb : XE X ec W b mb) (hm : behindInMarks op b = false := by first | exact nomark _ | rfl) : XE X ec W (.Compare a [op] [b] pos) (mOp g ma mb) := by
  obtain ⟨r, hr, i⟩ := ho
  exact imE (pe_cmpR hr ha hb hm) fun σ H Q h => rd_op (f := compareOp op) i h
theorem OpS.or {f : Value → Value → Sem Value} {g g' : G2} (h : OpS X f g) (h' : OpS X f g') : OpS X f (fun a b S => match g a b S with | some z => some z | none => g' a b S) := by
  obtain ⟨r, hr, i⟩ := h
  obtain ⟨r', hr', i'⟩ := h'
  refine ⟨_, OpR.or hr hr', fun φ S H x y a b c S' ok ra rb e Q q => ?_⟩
  dsimp only at e
  cases e1 : g a b S with
  | some z =>
    rw [e1] at e
    cases e
    exact .inl (i φ S H x y a b c S' ok ra rb e1 Q q)
  | none =>
    rw [e1] at e
    exact .inr (i' φ S H x y a b c S' ok ra rb e Q q)
/-- another name for the same -/
theorem OpS.to {f : Value → Value → Sem Value} {g g' : G2} (h : OpS X f g) (e : ∀ a b S, g' a b S = g a b S) : OpS X f g' := by
  obtain ⟨r, hr, i⟩ := h
  exact ⟨r, hr, fun φ S H x y a b c S' ok ra rb e1 Q q => i φ S H x y a b c S' ok ra rb (by rw [← e]; exact e1) Q q⟩

/-- ints to a value -/
def gI (C : Int → Int → Bool) (g : Int → Int → D) : G2 := fun a b S => match a, b with
  | .int i, .int j => if C i j then some (g i j, S) else none
  | _, _ => none
theorem opS_I {f : Value → Value → Sem Value} {C : Int → Int → Prop} {c : Int → Int → Bool} {g : Int → Int → V} {g' : Int → Int → D} (ho : OpR X f (rI C g)) (hc : ∀ i j, c i j = true → C i j) (hg : ∀ i j φ n H, Rel X.K φ n H (g i j) (g' i j)) : OpS X f (gI c g') := by
  refine ⟨_, ho, fun φ S H x y a b d S' ok ra rb e Q q => ?_⟩
  unfold gI at e
  split at e
  · split at e
    · rename_i i j h
      cases e
      cases ra
      cases rb
      exact ⟨i, j, rfl, rfl, hc _ _ h, q φ H _ (Ext.refl _ _ _) ok (hg _ _ _ _ _)⟩
    · cases e
  · cases e
theorem opS_I0 {f : Value → Value → Sem Value} {g : Int → Int → V} {g' : Int → Int → D} (ho : OpR X f (rI0 g)) (hg : ∀ i j φ n H, Rel X.K φ n H (g i j) (g' i j)) : OpS X f (gI (fun _ _ => true) g') := by
  refine ⟨_, ho, fun φ S H x y a b d S' ok ra rb e Q q => ?_⟩
  unfold gI at e
  split at e
  · cases e
    cases ra
    cases rb
    exact ⟨_, _, rfl, rfl, q φ H _ (Ext.refl _ _ _) ok (hg _ _ _ _ _)⟩
  · cases e
/-- texts -/
def gS (C : Str → Str → Bool) (g : Str → Str → D) : G2 := fun a b S => match a, b with
  | .str i, .str j => if C i j then some (g i j, S) else none
  | _, _ => none
theorem opS_add_str : OpS X (binaryOp .Add) (gS (fun i j => decide (i.length + j.length ≤ 1000000)) fun i j => .str (i ++ j)) := by
  refine ⟨_, op_add_str, fun φ S H x y a b d S' ok ra rb e Q q => ?_⟩
  unfold gS at e
  split at e
  · split at e
    · rename_i i j h
      cases e
      cases ra
      cases rb
      exact ⟨i, j, rfl, rfl, Nat.le_trans (of_decide_eq_true h) (by decide), q φ H _ (Ext.refl _ _ _) ok (.str _)⟩
    · cases e
  · cases e
theorem Rels.len {K : PySem.W.Frag} {φ : Nat → Addr} {n : Nat} {H : Hp} : ∀ {xs : List V} {ds : List D}, Rels K φ n H xs ds → xs.length = ds.length
  | _, _, .nil => rfl
  | _, _, .cons _ t => by rw [List.length_cons, List.length_cons, Rels.len t]
theorem Rels.app {K : PySem.W.Frag} {φ : Nat → Addr} {n : Nat} {H : Hp} : ∀ {xs ys : List V} {ds es : List D}, Rels K φ n H xs ds → Rels K φ n H ys es → Rels K φ n H (xs ++ ys) (ds ++ es)
  | _, _, _, _, .nil, s => s
  | _, _, _, _, .cons r t, s => .cons r (Rels.app t s)
theorem Rels.get {K : PySem.W.Frag} {φ : Nat → Addr} {n : Nat} {H : Hp} : ∀ {xs : List V} {ds : List D} (i : Nat) {d : D}, Rels K φ n H xs ds → ds[i]? = some d → ∃ v, xs[i]? = some v ∧ Rel K φ n H v d
  | _, _, _, _, .nil, e => by simp at e
  | _, _, 0, _, .cons r _, e => by simp at e; subst e; exact ⟨_, rfl, r⟩
  | _, _, i + 1, _, .cons _ t, e => by
    obtain ⟨v, h, r⟩ := Rels.get i t (by simpa using e)
    exact ⟨v, by simpa using h, r⟩
theorem Rels.drop {K : PySem.W.Frag} {φ : Nat → Addr} {n : Nat} {H : Hp} : ∀ {xs : List V} {ds : List D} (i : Nat), Rels K φ n H xs ds → Rels K φ n H (xs.drop i) (ds.drop i)
  | _, _, 0, r => r
  | _, _, _ + 1, .nil => .nil
  | _, _, i + 1, .cons _ t => Rels.drop i t
theorem Rels.take {K : PySem.W.Frag} {φ : Nat → Addr} {n : Nat} {H : Hp} : ∀ {xs : List V} {ds : List D} (i : Nat), Rels K φ n H xs ds → Rels K φ n H (xs.take i) (ds.take i)
  | _, _, 0, _ => .nil
  | _, _, _ + 1, .nil => .nil
  | _, _, i + 1, .cons r t => .cons r (Rels.take i t)
theorem Rels.nil_iff {K : PySem.W.Frag} {φ : Nat → Addr} {n : Nat} {H : Hp} {xs : List V} {ds : List D} (r : Rels K φ n H xs ds) : xs = [] ↔ ds = [] := by
  cases r <;> simp
def gT (C : List D → List D → Bool) (g : List D → List D → D) : G2 := fun a b S => match a, b with
  | .tup xs, .tup ys => if C xs ys then some (g xs ys, S) else none
  | _, _ => none
theorem szl {n : Nat} (h : n ≤ 1000000) : n ≤ sizeLine := Nat.le_trans h (by decide)
theorem opS_cat_tup : OpS X (binaryOp .Add) (gT (fun xs ys => decide (xs.length + ys.length ≤ 1000000)) fun xs ys => .tup (xs ++ ys)) := by
  refine ⟨_, op_catA, fun φ S H x y a b d S' ok ra rb e Q q => ?_⟩
  unfold gT at e
  split at e
  · split at e
    · rename_i xs ys h
      cases e
      cases ra with
      | tup h1 r1 =>
        cases rb with
        | tup h2 r2 =>
          refine ⟨_, _, _, _, rfl, rfl, .inl (.inl h1), .inl (.inl h2), ?_, fun z => ?_, fun z z2 => ?_, fun z z2 p hp => ?_⟩
          · rw [r1.len, r2.len]; exact szl (of_decide_eq_true h)
          · have e0 := r1.nil_iff.mp z
            subst e0
            exact q φ H _ (Ext.refl _ _ _) ok (.tup h2 r2)
          · have e0 := r2.nil_iff.mp z2
            subst e0
            refine q φ H _ (Ext.refl _ _ _) ok (.tup h1 ?_)
            rw [List.append_nil]; exact r1
          · exact q φ _ _ (ext_imm hp) (ok.imm hp) (.tup upd_same ((r1.app r2).mono ok (ext_imm hp)))
    · cases e
  · cases e
/-- two lists joined into a new one -/
def gCat : G2 := fun a b S => match a, b with
  | .ref i, .ref j => match S[i]?, S[j]? with
    | some (.lst xs), some (.lst ys) => if xs.length + ys.length ≤ 1000000 then some (.ref S.length, S ++ [.lst (xs ++ ys)]) else none
    | _, _ => none
  | _, _ => none
theorem Ok.lst {K : PySem.W.Frag} {φ : Nat → Addr} {S : Sto} {H : Hp} (ok : Ok K φ S H) {i : Nat} {ds : List D} (h : S[i]? = some (.lst ds)) : ∃ xs, H (φ i) = some (.lst xs) ∧ Rels K φ S.length H xs ds := by
  obtain ⟨ho, e, r⟩ := ok.obj i _ h
  cases r with
  | lst r => exact ⟨_, e, r⟩
theorem opS_cat_lst : OpS X (binaryOp .Add) gCat := by
  refine ⟨_, op_cat, fun φ S H x y a b d S' ok ra rb e Q q => ?_⟩
  unfold gCat at e
  split at e
  · split at e
    · split at e
      · rename_i i j xs ys hi hj h
        cases e
        cases ra
        cases rb
        obtain ⟨us, h1, r1⟩ := ok.lst hi
        obtain ⟨ws, h2, r2⟩ := ok.lst hj
        refine ⟨_, _, us, ws, rfl, rfl, h1, h2, by rw [r1.len, r2.len]; exact szl h, fun p hp => ?_⟩
        have ex := ext_new (S := S) (φ := φ) (H := H) (ho := .lst (us ++ ws)) hp
        refine q (nxt φ S.length p) _ _ (by rw [List.length_append, List.length_singleton]; exact ex) (ok.new hp (.lst (r1.app r2))) ?_
        rw [List.length_append, List.length_singleton]
        have := @Rel.ref X.K (nxt φ S.length p) (S.length + 1) (upd H p (.lst (us ++ ws))) S.length (Nat.lt_succ_self _)
        rw [nxt_new] at this
        exact this
      · cases e
    · cases e
  · cases e

/-! the operators -/
def mulOk (i j : Int) : Bool := decide (i.natAbs < 2 ^ 63) || decide (j.natAbs < 2 ^ 63) || decide (i.natAbs.log2 + j.natAbs.log2 < 1000000)
def CMulA (i j : Int) : Prop := CMul i j ∨ CMulW i j
theorem op_mulA : OpR X (binaryOp .Mult) (rI CMulA fun i j => .int (i * j)) := opI fun _ _ _ _ _ _ _ hc q => mul_int q (hc.elim CMul.ok CMulW.ok)
theorem mulOk_of {i j : Int} (h : mulOk i j = true) : CMulA i j := by
  unfold mulOk at h
  rw [Bool.or_eq_true, Bool.or_eq_true] at h
  rcases h with (h | h) | h
  · have := of_decide_eq_true h
    exact .inl (.inl ⟨by omega, by omega⟩)
  · have := of_decide_eq_true h
    exact .inl (.inr ⟨by omega, by omega⟩)
  · exact .inr (of_decide_eq_true (p := i.natAbs.log2 + j.natAbs.log2 < 1000000) h)
def divOk (_ j : Int) : Bool := decide (j ≠ 0) && decide (j.natAbs.log2 < 9000)
def orG (g g' : G2) : G2 := fun a b S => match g a b S with
  | some z => some z
  | none => g' a b S
def gAdd : G2 := orG (gI (fun _ _ => true) fun i j => .int (i + j)) (orG (gS (fun i j => decide (i.length + j.length ≤ 1000000)) fun i j => .str (i ++ j)) (orG (gT (fun xs ys => decide (xs.length + ys.length ≤ 1000000)) fun xs ys => .tup (xs ++ ys)) gCat))
theorem opS_add : OpS X (binaryOp .Add) gAdd := (opS_I0 op_add fun _ _ _ _ _ => .int _).or (opS_add_str.or (opS_cat_tup.or opS_cat_lst))
abbrev gSub : G2 := gI (fun _ _ => true) fun i j => .int (i - j)
theorem opS_sub : OpS X (binaryOp .Sub) gSub := opS_I0 op_sub fun _ _ _ _ _ => .int _
abbrev gMul : G2 := gI mulOk fun i j => .int (i * j)
theorem opS_mul : OpS X (binaryOp .Mult) gMul := opS_I op_mulA (fun _ _ h => mulOk_of h) fun _ _ _ _ _ => .int _
def CDivA (i j : Int) : Prop := j ≠ 0 ∧ j.natAbs.log2 < 9000
theorem op_fdivA : OpR X (binaryOp .FloorDiv) (rI CDivA fun i j => .int (i.fdiv j)) := opI fun i j _ _ _ _ _ hc q => floordiv_int hc.1 q (.inl (PyProof.noPylong_of_log2 hc.2))
abbrev gDiv : G2 := gI divOk fun i j => .int (i.fdiv j)
theorem opS_div : OpS X (binaryOp .FloorDiv) gDiv := opS_I op_fdivA (fun i j h => by
  unfold divOk at h
  rw [Bool.and_eq_true] at h
  exact ⟨of_decide_eq_true h.1, of_decide_eq_true h.2⟩) fun _ _ _ _ _ => .int _
abbrev gMod : G2 := gI (fun _ j => decide (j ≠ 0)) fun i j => .int (i.fmod j)
theorem opS_mod : OpS X (binaryOp .Mod) gMod := opS_I op_modN (fun _ _ h => of_decide_eq_true h) fun _ _ _ _ _ => .int _
abbrev gPow : G2 := gI (fun i j => decide (0 ≤ j) && decide (j ≤ 1000000) && decide (i.natAbs < 2 ^ 64)) fun i j => .int (i ^ j.toNat)
theorem opS_pow : OpS X (binaryOp .Pow) gPow := opS_I op_pow (fun i j h => by
  rw [Bool.and_eq_true, Bool.and_eq_true] at h
  exact ⟨of_decide_eq_true h.1.1, of_decide_eq_true h.1.2, of_decide_eq_true h.2⟩) fun _ _ _ _ _ => .int _
abbrev gLt : G2 := gI (fun _ _ => true) fun i j => .bl (decide (i < j))
theorem opS_lt : OpS X (compareOp .Lt) gLt := opS_I0 op_lt fun _ _ _ _ _ => .bl _
abbrev gLe : G2 := gI (fun _ _ => true) fun i j => .bl (decide (i ≤ j))
abbrev gGt : G2 := gI (fun _ _ => true) fun i j => .bl (decide (j < i))
theorem opS_gt : OpS X (compareOp .Gt) gGt := opS_I0 op_gt fun _ _ _ _ _ => .bl _
abbrev gGe : G2 := gI (fun _ _ => true) fun i j => .bl (decide (j ≤ i))
theorem opS_ge : OpS X (compareOp .GtE) gGe := opS_I0 op_ge fun _ _ _ _ _ => .bl _
end Rf
namespace Rf
open PySem PySem.Spec PyProof.Rows L2

variable {X : Cx} {ec : Str → Value} {W : WX}
/-! ### one value to another -/
abbrev G1 := D → Sto → Option (D × Sto)
def mUn (g : G1) (ma : M D) : M D := mB ma fun a _ S => match g a S with
  | some (c, S') => some (.val c S')
  | none => none
def gNeg : G1 := fun a S => match a with
  | .int i => some (.int (-i), S)
  | _ => none
theorem x_neg {a : Expr} {ma : M D} {pos : Pos} (ha : XE X ec W a ma) : XE X ec W (.UnaryOp .USub a pos) (mUn gNeg ma) := imE (pe_un un_neg ha) fun σ H Q h => by
  obtain ⟨φ, S, ρ, c⟩ := Cf.start h
  refine rd_imp (c.bind (rel1 := Rel X.K) monoC_true) fun x H1 ⟨φ1, S1, a, ra, c1⟩ => ?_
  obtain ⟨r', e, q⟩ := c1.run
  cases a <;> first | cases e | skip
  cases ra
  exact ⟨_, rfl, q φ1 H1 _ (Ext.refl _ _ _) c1.ok (.int _)⟩
def gNot : G1 := fun a S => match a with
  | .bl i => some (.bl (!i), S)
  | _ => none
theorem x_not {a : Expr} {ma : M D} {pos : Pos} (ha : XE X ec W a ma) : XE X ec W (.UnaryOp .Not a pos) (mUn gNot ma) := imE (pe_not ha) fun σ H Q h => by
  obtain ⟨φ, S, ρ, c⟩ := Cf.start h
  refine rd_imp (c.bind (rel1 := Rel X.K) monoC_true) fun x H1 ⟨φ1, S1, a, ra, c1⟩ => ?_
  obtain ⟨r', e, q⟩ := c1.run
  cases a <;> first | cases e | skip
  cases ra
  exact ⟨_, rfl, q φ1 H1 _ (Ext.refl _ _ _) c1.ok (.bl _)⟩

/-! ### and, or: values, all but the last True or False -/
theorem x_one {op} {a : Expr} {ma : M D} {pos : Pos} (ha : XE X ec W a ma) : XE X ec W (.BoolOp op [a] pos) ma := pe_one ha
def mAndV (ma mb : M D) : M D := mB ma fun a => match a with
  | .bl true => mb
  | .bl false => mRet (.bl false)
  | _ => fun _ _ => none
def mOrV (ma mb : M D) : M D := mB ma fun a => match a with
  | .bl true => mRet (.bl true)
  | .bl false => mb
  | _ => fun _ _ => none
/-- what is left of an evaluation is a reading -/
theorem Cf.rest {K : PySem.W.Frag} {α β : Type} {rel : RelT β α} {C : (Nat → Addr) → Nat → Hp → Prop} {φ : Nat → Addr} {S : Sto} {ρ : Env} {σ : L2.St} {H : Hp} {Q : β → Hp → Prop} {m : M α} (c : Cf K ec rel W C φ S ρ σ H Q (m ρ)) : rd K ec rel W m σ H Q :=
  let ⟨r, e, q⟩ := c.run
  ⟨φ, S, ρ, c.ok, c.env, r, e, q⟩
theorem x_andV {a b : Expr} {rest : List Expr} {ma mb : M D} {pos : Pos} (ha : XE X ec W a ma) (hb : XE X ec W (.BoolOp .And (b :: rest) pos) mb) : XE X ec W (.BoolOp .And (a :: b :: rest) pos) (mAndV ma mb) := imE (pe_and ha hb) fun σ H Q h => by
  obtain ⟨φ, S, ρ, c⟩ := Cf.start h
  refine rd_imp (c.bind (rel1 := Rel X.K) monoC_true) fun x H1 ⟨φ1, S1, a, ra, c1⟩ => ?_
  cases a with
  | bl k =>
    cases ra
    refine ⟨k, rfl, ?_⟩
    cases k with
    | true => exact iteT c1.rest
    | false => exact iteF (c1.ret rfl (.bl false))
  | _ => obtain ⟨_, e, _⟩ := c1.run; cases e
/-! ### tests -/
def mT (m : M D) : M Bool := mB m fun a => match a with
  | .bl c => mRet c
  | _ => fun _ _ => none
theorem x_test {a : Expr} {ma : M D} (ha : XE X ec W a ma) (he : ∀ whole, isTrue a X.env whole = (do let v ← whole; standAt a.pos; holding [v] (truthy v)) := by intro _; rfl) : XT X ec W a (mT ma) := imT (pt_val ha he) fun σ H Q h => by
  obtain ⟨φ, S, ρ, c⟩ := Cf.start h
  refine rd_imp (c.bind (rel1 := Rel X.K) monoC_true) fun x H1 ⟨φ1, S1, a, ra, c1⟩ => ?_
  obtain ⟨r', e, q⟩ := c1.run
  cases a <;> first | cases e | skip
  cases ra
  exact ⟨_, rfl, q φ1 H1 _ (Ext.refl _ _ _) c1.ok rfl⟩
theorem xt_cmp {op : CmpOp} {g : G2} {a b : Expr} {ma mb : M D} {pos : Pos} (ho : OpS X (compareOp op) g) (ha : XE X ec W a ma) (hb : XE X ec W b mb) (hm : behindInMarks op b = false := by first | exact nomark _ | rfl) : XT X ec W (.Compare a [op] [b] pos) (mT (mOp g ma mb)) := by
  obtain ⟨r, hr, i⟩ := ho
  refine imT (pt_cmpR hr ha hb hm) fun σ H Q h => ?_
  refine rd_op (f := compareOp op) (ec := ec) (W := W) i ?_
  obtain ⟨φ, S, ρ, c⟩ := Cf.start h
  refine rd_imp (c.bind (rel1 := Rel X.K) monoC_true) fun x H1 ⟨φ1, S1, a, ra, c1⟩ => ?_
  obtain ⟨r', e, q⟩ := c1.run
  cases a <;> first | cases e | skip
  cases ra
  exact ⟨_, rfl, q φ1 H1 _ (Ext.refl _ _ _) c1.ok rfl⟩
/-- the truth of any value -/
def truD : D → Sto → Option Bool := fun a S => match a with
  | .non => some false
  | .bl c => some c
  | .int i => some (i != 0)
  | .str y => if y.length ≤ 1000000 then some ((y.length : Int) != 0) else none
  | .tup xs => some (!xs.isEmpty)
  | .fro xs => some (!xs.isEmpty)
  | .ref i => match S[i]? with
    | some (.lst xs) => some (!xs.isEmpty)
    | _ => none
  | _ => none
def mTru (m : M D) : M Bool := mB m fun a _ S => match truD a S with
  | some c => some (.val c S)
  | none => none
theorem Rels.empty {K : PySem.W.Frag} {φ : Nat → Addr} {n : Nat} {H : Hp} {xs : List V} {ds : List D} (r : Rels K φ n H xs ds) : xs.isEmpty = ds.isEmpty := by cases r <;> rfl
theorem x_truth {a : Expr} {ma : M D} (ha : XE X ec W a ma) (he : ∀ whole, isTrue a X.env whole = (do let v ← whole; standAt a.pos; holding [v] (truthy v)) := by intro _; rfl) : XT X ec W a (mTru ma) := imT (pt_truth ha he) fun σ H Q h => by
  obtain ⟨φ, S, ρ, c⟩ := Cf.start h
  refine rd_imp (c.bind (rel1 := Rel X.K) monoC_true) fun x H1 ⟨φ1, S1, a, ra, c1⟩ => ?_
  obtain ⟨r', e, q⟩ := c1.run
  cases hc : truD a S1 with
  | none => rw [hc] at e; cases e
  | some k =>
    rw [hc] at e
    cases e
    refine ⟨k, ?_, q φ1 H1 _ (Ext.refl _ _ _) c1.ok rfl⟩
    cases ra with
    | non => cases hc; rfl
    | bl b => cases hc; rfl
    | int i => cases hc; rfl
    | str y =>
      unfold truD at hc
      dsimp only at hc
      split at hc
      · cases hc; exact ⟨szl (by assumption), rfl⟩
      · cases hc
    | ty _ => cases hc
    | tup h r => cases hc; exact .inr (.inl ⟨_, .inl (.inl h), by rw [r.empty]⟩)
    | kt _ _ => cases hc
    | fro h r => cases hc; exact .inl ⟨_, h.sq, by rw [r.empty]⟩
    | ref hi =>
      unfold truD at hc
      dsimp only at hc
      split at hc
      · rename_i xs hx
        cases hc
        obtain ⟨us, h1, r1⟩ := c1.ok.lst hx
        exact .inl ⟨us, SqL.of h1, by rw [r1.empty]⟩
      · cases hc
def mNotB (m : M Bool) : M Bool := mB m fun c => mRet (!c)
theorem xt_not {a : Expr} {ma : M Bool} {pos : Pos} (ha : XT X ec W a ma) : XT X ec W (.UnaryOp .Not a pos) (mNotB ma) := imT (pt_not ha) fun σ H Q h => by
  obtain ⟨φ, S, ρ, c⟩ := Cf.start h
  refine rd_imp (c.bind (rel1 := RelB) monoC_true) fun x H1 ⟨φ1, S1, a, ra, c1⟩ => ?_
  cases ra
  exact c1.ret rfl rfl
def XW (X : Cx) (ec : Str → Value) (W : WX) (e : Expr) (m : M Bool) : Prop := PW X e (rd X.K ec RelB W m)
theorem imW {e : Expr} {t t' : TT} (h : PW X e t) (i : ∀ σ H Q, t' σ H Q → t σ H Q) : PW X e t' := ⟨fun wh pins s σ H Q I q => h.run wh pins s σ H Q I (i σ H Q q)⟩
theorem XW.xt {e : Expr} {m : M Bool} (h : XW X ec W e m) : XT X ec W e m := PW.pt h
def mAnd (ma mb : M Bool) : M Bool := mB ma fun c => match c with
  | true => mb
  | false => mRet false
def mOr (ma mb : M Bool) : M Bool := mB ma fun c => match c with
  | true => mRet true
  | false => mb
theorem xw_and1 {a : Expr} {ma : M Bool} {pos : Pos} (ha : XT X ec W a ma) : XW X ec W (.BoolOp .And [a] pos) ma := pw_and1 ha
theorem xw_or1 {a : Expr} {ma : M Bool} {pos : Pos} (ha : XT X ec W a ma) : XW X ec W (.BoolOp .Or [a] pos) ma := pw_or1 ha
theorem xw_and {a b : Expr} {rest : List Expr} {ma mb : M Bool} {pos : Pos} (ha : XT X ec W a ma) (hb : XW X ec W (.BoolOp .And (b :: rest) pos) mb) : XW X ec W (.BoolOp .And (a :: b :: rest) pos) (mAnd ma mb) := imW (pw_and ha hb) fun σ H Q h => by
  obtain ⟨φ, S, ρ, c⟩ := Cf.start h
  refine rd_imp (c.bind (rel1 := RelB) monoC_true) fun x H1 ⟨φ1, S1, k, ra, c1⟩ => ?_
  cases ra
  cases x with
  | true => exact iteT c1.rest
  | false => exact iteF (c1.ret rfl rfl)
theorem xw_or {a b : Expr} {rest : List Expr} {ma mb : M Bool} {pos : Pos} (ha : XT X ec W a ma) (hb : XW X ec W (.BoolOp .Or (b :: rest) pos) mb) : XW X ec W (.BoolOp .Or (a :: b :: rest) pos) (mOr ma mb) := imW (pw_or ha hb) fun σ H Q h => by
  obtain ⟨φ, S, ρ, c⟩ := Cf.start h
  refine rd_imp (c.bind (rel1 := RelB) monoC_true) fun x H1 ⟨φ1, S1, k, ra, c1⟩ => ?_
  cases ra
  cases x with
  | true => exact iteT (c1.ret rfl rfl)
  | false => exact iteF c1.rest
def mIf {α : Type} (mc : M Bool) (ma mb : M α) : M α := mB mc fun c => match c with
  | true => ma
  | false => mb
theorem x_ife {c a b : Expr} {mc : M Bool} {ma mb : M D} {pos : Pos} (hc : XT X ec W c mc) (ha : XE X ec W a ma) (hb : XE X ec W b mb) : XE X ec W (.IfExp c a b pos) (mIf mc ma mb) := imE (pe_ifExp hc ha hb) fun σ H Q h => by
  obtain ⟨φ, S, ρ, c⟩ := Cf.start h
  refine rd_imp (c.bind (rel1 := RelB) monoC_true) fun x H1 ⟨φ1, S1, k, ra, c1⟩ => ?_
  cases ra
  cases x with
  | true => exact iteT c1.rest
  | false => exact iteF c1.rest

/-! ### argument lists, displays -/
def mNil : M (List D) := mRet []
def mCons (ma : M D) (mr : M (List D)) : M (List D) := mB ma fun a => mB mr fun as => mRet (a :: as)
theorem xa_nil : XA X ec W [] mNil := imA pa_nil fun σ H Q h => rd_ret (fun _ _ _ => .nil) h
theorem xa_cons {e : Expr} {es : List Expr} {ma : M D} {mr : M (List D)} (ha : XE X ec W e ma) (hr : XA X ec W es mr) (hs : starEach (e :: es) X.env = (false, eval e X.env) :: starEach es X.env := by rfl) : XA X ec W (e :: es) (mCons ma mr) := imA (pa_cons ha hr hs) fun σ H Q h => by
  obtain ⟨φ, S, ρ, c⟩ := Cf.start h
  refine rd_imp (c.bind (rel1 := Rel X.K) monoC_true) fun x H1 ⟨φ1, S1, a, ra, c1⟩ => ?_
  refine rd_imp ((c1.carry ra).bind (rel1 := Rels X.K) monoC_rel) fun xs H2 ⟨φ2, S2, as, rs, c2⟩ => ?_
  exact c2.ret rfl (.cons c2.car rs)
def mTup (ms : M (List D)) : M D := mB ms fun ds => if ds.length ≤ 1000 then mRet (.tup ds) else fun _ _ => none
theorem x_tup {es : List Expr} {ms : M (List D)} {k} {pos : Pos} (h : XA X ec W es ms) : XE X ec W (.Tuple es k pos) (mTup ms) := imE (pe_tup h) fun σ H Q h => by
  obtain ⟨φ, S, ρ, c⟩ := Cf.start h
  refine rd_imp (c.bind (rel1 := Rels X.K) monoC_true) fun x H1 ⟨φ1, S1, ds, ra, c1⟩ => ?_
  obtain ⟨r', e, q⟩ := c1.run
  by_cases hl : ds.length ≤ 1000
  · simp only [if_pos hl] at e
    cases e
    refine ⟨by rw [ra.len]; exact szl (by omega), fun p hp => ?_⟩
    exact q φ1 _ _ (ext_imm hp) (c1.ok.imm hp) (.tup upd_same (ra.mono c1.ok (ext_imm hp)))
  · simp only [if_neg hl] at e
    cases e
/-- a new list -/
def mNew (ds : List D) : M D := fun _ S => some (.val (.ref S.length) (S ++ [.lst ds]))
theorem Cf.new {K : PySem.W.Frag} {C : (Nat → Addr) → Nat → Hp → Prop} {φ : Nat → Addr} {S : Sto} {ρ : Env} {σ : L2.St} {H : Hp} {Q : VK} {k : Sto → Option (R D)} {ds : List D} {xs : List V} (c : Cf K ec (Rel K) W C φ S ρ σ H Q k) (hk : k S = some (.val (.ref S.length) (S ++ [.lst ds])))
    (r : Rels K φ S.length H xs ds) {p : Addr} (hp : H p = none) : Q (.ref p) (upd H p (.lst xs)) := by
  have ex := ext_new (S := S) (φ := φ) (H := H) (ho := .lst xs) hp
  refine c.done hk (φ' := nxt φ S.length p) (by rw [List.length_append, List.length_singleton]; exact ex) (c.ok.new hp (.lst r)) ?_
  rw [List.length_append, List.length_singleton]
  have := @Rel.ref K (nxt φ S.length p) (S.length + 1) (upd H p (.lst xs)) S.length (Nat.lt_succ_self _)
  rw [nxt_new] at this
  exact this
def mLst (ms : M (List D)) : M D := mB ms fun ds => if ds.length ≤ 1000 then mNew ds else fun _ _ => none
theorem x_lst {es : List Expr} {ms : M (List D)} {pos : Pos} (h : XA X ec W es ms) : XE X ec W (.List es pos) (mLst ms) := imE (pe_lst h) fun σ H Q h => by
  obtain ⟨φ, S, ρ, c⟩ := Cf.start h
  refine rd_imp (c.bind (rel1 := Rels X.K) monoC_true) fun x H1 ⟨φ1, S1, ds, ra, c1⟩ => ?_
  by_cases hl : ds.length ≤ 1000
  · refine ⟨by rw [ra.len]; exact szl (by omega), fun p hp => c1.new ?_ ra hp⟩
    simp only [if_pos hl]
    rfl
  · obtain ⟨r', e, q⟩ := c1.run
    simp only [if_neg hl] at e
    cases e

/-! ### subscripts -/
/-- the items that a sequence has -/
def itemsOf (S : Sto) : D → Option (List D)
  | .tup xs => some xs
  | .kt xs => some xs
  | .fro xs => some xs
  | .ref i => match S[i]? with
    | some (.lst xs) => some xs
    | _ => none
  | _ => none
theorem items_rel {φ : Nat → Addr} {S : Sto} {H : Hp} {v : V} {d : D} {ds : List D} (ok : Ok X.K φ S H) (r : Rel X.K φ S.length H v d) (h : itemsOf S d = some ds) : ∃ p xs, v = .ref p ∧ (SqL X.K H p xs ∨ TuT X.K H p xs) ∧ Rels X.K φ S.length H xs ds := by
  cases r with
  | tup h1 r1 => cases h; exact ⟨_, _, rfl, .inr (.inl h1), r1⟩
  | kt h1 r1 => cases h; exact ⟨_, _, rfl, .inr (.inr h1), r1⟩
  | fro h1 r1 => cases h; exact ⟨_, _, rfl, .inl h1.sq, r1⟩
  | ref hi =>
    unfold itemsOf at h
    dsimp only at h
    split at h
    · rename_i xs hx
      cases h
      obtain ⟨us, h1, r1⟩ := ok.lst hx
      exact ⟨_, us, rfl, .inl (SqL.of h1), r1⟩
    · cases h
  | non => cases h
  | bl _ => cases h
  | int _ => cases h
  | str _ => cases h
  | ty _ => cases h
theorem atI_rels {K : PySem.W.Frag} {φ : Nat → Addr} {n : Nat} {H : Hp} {xs : List V} {ds : List D} {i : Int} {d : D} (r : Rels K φ n H xs ds) (h : atI ds i = some d) : ∃ v, atI xs i = some v ∧ Rel K φ n H v d := by
  unfold atI at h ⊢
  rw [r.len]
  cases e : ixN ds.length i with
  | none => rw [e] at h; cases h
  | some j =>
    rw [e] at h
    exact r.get j h
def gIx : G2 := fun a b S => match b with
  | .int i => match a with
    | .str z => if z.length ≤ 1000000 then (atI z.cps.toList i).map fun c => (.str ⟨#[c]⟩, S) else none
    | a => (itemsOf S a).bind fun xs => (atI xs i).map fun d => (d, S)
  | _ => none
theorem x_ix {a b : Expr} {ma mb : M D} {pos : Pos} (ha : XE X ec W a ma) (hb : XE X ec W b mb) (hs : PlainIx b := by exact fun _ _ => rfl) : XE X ec W (.Subscript a b pos) (mOp gIx ma mb) :=
  imE (pe_ix ix_seq ha hb hs) fun σ H Q h => rd_op (f := fun _ _ => getItem .none .none) (fun φ S H x y a b c S' ok ra rb e Q q => by
    have seq : ∀ {i : Int} {xs : List D} {d : D}, itemsOf S a = some xs → atI xs i = some d → y = .int i → (c, S') = (d, S) → rIx X.K x y H Q := fun {i xs d} h1 h2 h3 h4 => by
      cases h4
      obtain ⟨p, us, e1, h5, r5⟩ := items_rel ok ra h1
      obtain ⟨v, h6, r6⟩ := atI_rels r5 h2
      have qq := q φ H v (Ext.refl _ _ _) ok r6
      rcases h5 with h5 | h5
      · exact .inl ⟨p, us, i, v, e1, h3, h5, h6, qq⟩
      · exact .inr (.inl ⟨p, us, i, v, e1, h3, h5.sq, h6, qq⟩)
    cases rb with
    | int i =>
      unfold gIx at e
      dsimp only at e
      split at e
      · rename_i z
        split at e
        · rename_i hz
          cases h2 : atI z.cps.toList i with
          | none => rw [h2] at e; cases e
          | some cc =>
            rw [h2] at e
            cases e
            cases ra
            exact .inr (.inr ⟨z, i, cc, rfl, rfl, szl hz, h2, q φ H _ (Ext.refl _ _ _) ok (.str _)⟩)
        · cases e
      · cases h1 : itemsOf S a with
        | none => rw [h1] at e; cases e
        | some xs =>
          rw [h1] at e
          cases h2 : atI xs i with
          | none => simp only [Option.bind_some, h2] at e; cases e
          | some d =>
            simp only [Option.bind_some, h2] at e
            cases e
            exact seq h1 h2 rfl rfl
    | _ => cases e) h

/-! ### calls of built-ins -/
abbrev GN := List D → Sto → Option (D × Sto)
def CallS (X : Cx) (f : Value) (g : GN) : Prop := ∃ r : List V → Hp → VK → Prop, CallR X f r ∧ ∀ (φ : Nat → Addr) (S : Sto) (H : Hp) (xs : List V) (as : List D) (c : D) (S' : Sto), Ok X.K φ S H → Rels X.K φ S.length H xs as → g as S = some (c, S') →
  ∀ Q : VK, (∀ φ' H' v, Ext φ S.length H φ' S'.length H' → Ok X.K φ' S' H' → Rel X.K φ' S'.length H' v c → Q v H') → r xs H Q
def mBi (g : GN) (ms : M (List D)) : M D := mB ms fun as _ S => match g as S with
  | some (c, S') => some (.val c S')
  | none => none
theorem rd_bi {g : GN} {ms : M (List D)} {σ : L2.St} {H : Hp} {Q : VK} {r : List V → Hp → VK → Prop} (hr : ∀ (φ : Nat → Addr) (S : Sto) (H : Hp) (xs : List V) (as : List D) (c : D) (S' : Sto), Ok X.K φ S H → Rels X.K φ S.length H xs as → g as S = some (c, S') →
  ∀ Q : VK, (∀ φ' H' v, Ext φ S.length H φ' S'.length H' → Ok X.K φ' S' H' → Rel X.K φ' S'.length H' v c → Q v H') → r xs H Q) (h : rd X.K ec (Rel X.K) W (mBi g ms) σ H Q) : tCB r (rd X.K ec (Rels X.K) W ms) σ H Q := by
  obtain ⟨φ, S, ρ, c⟩ := Cf.start h
  refine rd_imp (c.bind (rel1 := Rels X.K) monoC_true) fun xs H1 ⟨φ1, S1, as, ra, c1⟩ => ?_
  obtain ⟨r', e, q⟩ := c1.run
  cases hg : g as S1 with
  | none => rw [hg] at e; cases e
  | some p =>
    obtain ⟨z, S'⟩ := p
    rw [hg] at e
    cases e
    exact hr φ1 S1 H1 xs as z S' c1.ok ra hg Q q
section
variable {x : Str} {p pos : Pos} {e : Expr} {es : List Expr} {id T : String} {g : GN} {ms : M (List D)}
theorem x_biB (hc : CallS X (.builtin id) g) (hm : X.mg x = none) (hv : bootBuiltins x = some (.builtin id)) (ha : XA X ec W (e :: es) ms) (hg : Gl X x := by rfl) (hn : x ≠ "__name__" := by decide) (hdb : (x == ("__debug__" : Str)) = false := by decide)
    (he : starEach (e :: es) X.env = (false, eval e X.env) :: starEach es X.env := by rfl) (hpl : (backTo pos (starEach es X.env)).any (·.1) = false := by rfl) : XE X ec W (.Call (.Name x p) (e :: es) [] pos) (mBi g ms) := by
  obtain ⟨r, hr, i⟩ := hc
  exact imE (pe_callB hr hg hm hv ha hn hdb he hpl) fun σ H Q h => rd_bi i h
theorem x_biT (hc : CallS X (.type T) g) (hm : X.mg x = none) (hv : bootBuiltins x = some (.type T)) (ha : XA X ec W (e :: es) ms) (hg : Gl X x := by rfl) (hn : x ≠ "__name__" := by decide) (hdb : (x == ("__debug__" : Str)) = false := by decide)
    (he : starEach (e :: es) X.env = (false, eval e X.env) :: starEach es X.env := by rfl) (hpl : (backTo pos (starEach es X.env)).any (·.1) = false := by rfl) : XE X ec W (.Call (.Name x p) (e :: es) [] pos) (mBi g ms) := by
  obtain ⟨r, hr, i⟩ := hc
  exact imE (pe_callTy hr hg hm hv ha hn hdb he hpl) fun σ H Q h => rd_bi i h
theorem x_biF (hc : CallS X (.builtin id) g) (hm : X.mg x = some (.builtin id)) (ha : XA X ec W (e :: es) ms) (hg : Gl X x := by rfl) (hdb : (x == ("__debug__" : Str)) = false := by decide)
    (he : starEach (e :: es) X.env = (false, eval e X.env) :: starEach es X.env := by rfl) (hpl : (backTo pos (starEach es X.env)).any (·.1) = false := by rfl) : XE X ec W (.Call (.Name x p) (e :: es) [] pos) (mBi g ms) := by
  obtain ⟨r, hr, i⟩ := hc
  exact imE (pe_callBfun hr hg hm ha hdb he hpl) fun σ H Q h => rd_bi i h
end
theorem CallS.or {f : Value} {g g' : GN} (h : CallS X f g) (h' : CallS X f g') : CallS X f (fun a S => match g a S with | some z => some z | none => g' a S) := by
  obtain ⟨r, hr, i⟩ := h
  obtain ⟨r', hr', i'⟩ := h'
  refine ⟨_, CallR.or hr hr', fun φ S H xs as c S' ok ra e Q q => ?_⟩
  dsimp only at e
  cases e1 : g as S with
  | some z =>
    rw [e1] at e
    cases e
    exact .inl (i φ S H xs as c S' ok ra e1 Q q)
  | none =>
    rw [e1] at e
    exact .inr (i' φ S H xs as c S' ok ra e Q q)
def gAbs : GN := fun as S => match as with
  | [.int i] => some (.int (if i < 0 then -i else i), S)
  | _ => none
theorem callS_abs : CallS X (.builtin "abs") gAbs := ⟨_, call_abs, fun φ S H xs as c S' ok ra e Q q => by
  unfold gAbs at e
  split at e
  · cases e
    cases ra with
    | cons r t => cases r; cases t; exact ⟨_, rfl, q φ H _ (Ext.refl _ _ _) ok (.int _)⟩
  · cases e⟩
def gGcd : GN := fun as S => match as with
  | [.int i, .int j] => some (.int ((Nat.gcd i.natAbs j.natAbs : Nat) : Int), S)
  | _ => none
theorem callS_gcd : CallS X (.builtin "math.gcd") gGcd := ⟨_, cr_gcd, fun φ S H xs as c S' ok ra e Q q => by
  unfold gGcd at e
  split at e
  · cases e
    cases ra with
    | cons r t =>
      cases r
      cases t with
      | cons r t => cases r; cases t; exact ⟨_, _, rfl, q φ H _ (Ext.refl _ _ _) ok (.int _)⟩
  · cases e⟩
def gInt : GN := fun as S => match as with
  | [.int i] => some (.int i, S)
  | [.bl k] => some (.int (if k then 1 else 0), S)
  | _ => none
theorem callS_int : CallS X (.type "int") gInt := ⟨_, call_int1, fun φ S H xs as c S' ok ra e Q q => by
  unfold gInt at e
  split at e
  · cases e
    cases ra with
    | cons r t => cases r; cases t; exact .inl ⟨_, rfl, q φ H _ (Ext.refl _ _ _) ok (.int _)⟩
  · cases e
    cases ra with
    | cons r t => cases r; cases t; exact .inr ⟨_, rfl, q φ H _ (Ext.refl _ _ _) ok (.int _)⟩
  · cases e⟩
def gLen : GN := fun as S => match as with
  | [a] => (itemsOf S a).map fun xs => (.int xs.length, S)
  | _ => none
theorem callS_len : CallS X (.builtin "len") gLen := ⟨_, call_len_seq, fun φ S H xs as c S' ok ra e Q q => by
  unfold gLen at e
  split at e
  · rename_i a
    cases h1 : itemsOf S a with
    | none => rw [h1] at e; cases e
    | some ds =>
      rw [h1] at e
      cases e
      cases ra with
      | cons r t =>
        cases t
        obtain ⟨p, us, e1, h5, r5⟩ := items_rel ok r h1
        subst e1
        refine ⟨p, us, rfl, (h5.imp id TuT.sq), q φ H _ (Ext.refl _ _ _) ok ?_⟩
        rw [r5.len]
        exact .int _
  · cases e⟩
/-- the type's name -/
def tyD (S : Sto) : D → Option String
  | .non => some "NoneType"
  | .bl _ => some "bool"
  | .int _ => some "int"
  | .str _ => some "str"
  | .tup _ => some "tuple"
  | .kt _ => some "tuple"
  | .fro _ => some "list"
  | .ref i => match S[i]? with
    | some (.lst _) => some "list"
    | some (.dct _) => some "dict"
    | some (.dcl _) => none
    | some (.dn _) => none
    | some (.dnl _) => none
    | none => none
  | .ty _ => none
theorem ty_rel {φ : Nat → Addr} {S : Sto} {H : Hp} {v : V} {d : D} {n : String} (ok : Ok X.K φ S H) (r : Rel X.K φ S.length H v d) (h : tyD S d = some n) : TyX X.K H v (.type n) := by
  cases r with
  | non => cases h; exact .base .non
  | bl b => cases h; exact .base (.bl b)
  | int b => cases h; exact .base (.int b)
  | str b => cases h; exact .base (.str b)
  | ty b => cases h
  | tup h1 r1 =>
    cases h
    exact .base (.tup h1)
  | kt h1 r1 =>
    cases h
    obtain ⟨o, its, n, h1, h2, _⟩ := h1
    exact .kTuple h1 h2
  | fro h1 r1 =>
    cases h
    rcases h1.sq with (h1 | ⟨o, h1⟩) | ⟨o, its, n, h1, h2, _⟩
    · exact .base (.lst h1)
    · exact .base (.frz h1)
    · exact .kList h1 h2
  | @ref i hi =>
    unfold tyD at h
    dsimp only at h
    obtain ⟨ho, e, ro⟩ := ok.obj i _ (List.getElem?_eq_getElem hi)
    rw [List.getElem?_eq_getElem hi] at h
    generalize S[i] = o at h ro
    cases ro with
    | lst _ => cases h; exact .base (.lst e)
    | dct _ _ => cases h; exact .base (.dT e)
    | dcl _ _ => cases h
    | dn _ _ _ => cases h
    | dnl _ _ _ => cases h
/-- isinstance(x, T) -/
def gIsi : GN := fun as S => match as with
  | [a, .ty T] => (tyD S a).bind fun n => (kitB n T).map fun b => (.bl b, S)
  | _ => none
theorem callS_isi : CallS X (.builtin "isinstance") gIsi := ⟨_, call_isi, fun φ S H xs as c S' ok ra e Q q => by
  unfold gIsi at e
  split at e
  · rename_i a T
    cases h1 : tyD S a with
    | none => rw [h1] at e; cases e
    | some n =>
      rw [h1] at e
      cases h2 : kitB n T with
      | none => simp only [Option.bind_some, h2] at e; cases e
      | some b =>
        simp only [Option.bind_some, h2] at e
        cases e
        cases ra with
        | cons r t =>
          cases t with
          | cons r2 t2 =>
            cases r2
            cases t2
            exact ⟨_, _, _, _, b, rfl, .ty T, ty_rel ok r h1, kit_ty h2, q φ H _ (Ext.refl _ _ _) ok (.bl b)⟩
  · cases e⟩
/-- tuple(x), list(x) of a list or a tuple -/
def isKt : D → Bool
  | .kt _ => true
  | _ => false
theorem rel_new {K : PySem.W.Frag} {φ : Nat → Addr} {S : Sto} {H : Hp} {p : Addr} {o : O} : Rel K (nxt φ S.length p) (S ++ [o]).length H (.ref p) (.ref S.length) := by
  rw [List.length_append, List.length_singleton]
  have := @Rel.ref K (nxt φ S.length p) (S.length + 1) H S.length (Nat.lt_succ_self _)
  rw [nxt_new] at this
  exact this
theorem ext_new' {φ : Nat → Addr} {S : Sto} {H : Hp} {p : Addr} {ho : HO} {o : O} (hp : H p = none) : Ext φ S.length H (nxt φ S.length p) (S ++ [o]).length (upd H p ho) := by
  rw [List.length_append, List.length_singleton]
  exact ext_new hp
/-! ### calls of defs -/
/-- a def's promise: F of the values -/
def spF (K : PySem.W.Frag) (ec : Str → Value) (n : Nat) (F : List D → Sto → Option (R D)) : Sp := fun vs H Q E => ∃ (φ : Nat → Addr) (S : Sto) (ds : List D), Ok K φ S H ∧ Rels K φ S.length H vs ds ∧ vs.length = n ∧ ∃ r, F ds S = some r ∧ KV K ec (Rel K) (fun cls d _ H => E cls d H) φ S.length [] H Q r
def mCall (F : List D → Sto → Option (R D)) (ms : M (List D)) : M D := mB ms fun as _ S => F as S
theorem x_call {x : Str} {p pos : Pos} {e : Expr} {es : List Expr} {ms : M (List D)} {k n : Nat} {f : Addr} {fd : FuncData} {ps : List Str} {F : List D → Sto → Option (R D)} (tk : Takes X W)
    (G : FnOk X.prog X.w X.K X.mg X.base (L2.CX X.prog X.w) k f fd ps (spF X.K ec n F)) (hr : Room k X.A) (hm : X.mg x = some (.ref f)) (hk : PySem.W.keepIn X.K (.ref f) = true) (hb : Binds X.K fd ps [])
    (ha : XA X ec W (e :: es) ms) (hl : ps.length = n := by rfl) (hn : (e :: es).length = n := by rfl) (hg : Gl X x := by rfl) (hdb : (x == ("__debug__" : Str)) = false := by decide) (he : starEach (e :: es) X.env = (false, eval e X.env) :: starEach es X.env := by rfl) (hpl : (backTo pos (starEach es X.env)).any (·.1) = false := by rfl)
    (hms : ∀ ρ S ds S', ms ρ S = some (.val ds S') → ds.length = n) : XE X ec W (.Call (.Name x p) (e :: es) [] pos) (mCall F ms) := by
  refine imE (pe_callSD (E := fun σ cls d H => W cls d σ H) (dvs := []) G hr hg hm hk hb .nil (fun σ => passAt tk σ) ha hdb he hpl) fun σ H Q h => ?_
  obtain ⟨φ, S, ρ, c⟩ := Cf.start h
  obtain ⟨r0, e0, q0⟩ := c.run
  unfold mCall mB at e0
  refine ⟨φ, S, ρ, c.ok, c.env, ?_⟩
  cases h1 : ms ρ S with
  | none => rw [h1] at e0; cases e0
  | some z =>
    rw [h1] at e0
    refine ⟨z, rfl, ?_⟩
    cases z with
    | exc c' S1 => cases e0; exact q0
    | val as S1 =>
      have e0 : F as S1 = some r0 := e0
      intro φ' H' b ex ok rb
      refine ⟨φ', S1, as, ok, by rw [List.append_nil]; exact rb, by rw [List.append_nil, rb.len]; exact hms ρ S as S1 h1, r0, e0, ?_⟩
      cases r0 with
      | val a S2 => exact fun φ2 H2 b2 ex2 => q0 φ2 H2 b2 (ex.trans ex2)
      | exc c2 S2 => exact fun φ2 H2 ex2 => q0 φ2 H2 (ex.trans ex2)
theorem mNil_len {ρ : Env} {S S' : Sto} {ds : List D} (h : mNil ρ S = some (.val ds S')) : ds.length = 0 := by cases h; rfl
theorem mCons_len {n : Nat} {ma : M D} {mr : M (List D)} (hr : ∀ ρ S ds S', mr ρ S = some (.val ds S') → ds.length = n) : ∀ ρ S ds S', mCons ma mr ρ S = some (.val ds S') → ds.length = n + 1 := fun ρ S ds S' h => by
  unfold mCons mB at h
  split at h
  · cases h
  · cases h
  · dsimp only at h
    split at h
    · cases h
    · cases h
    · rename_i e1
      cases h
      rw [List.length_cons, hr _ _ _ _ e1]
end Rf
namespace Rf
open PySem PySem.Spec PyProof.Rows L2

variable {X : Cx} {ec : Str → Value} {W : WX}
/-! ### statements -/
inductive RS where
  | nx (ρ : Env) (S : Sto) | ret (d : D) (S : Sto) | brk (ρ : Env) (S : Sto) | cnt (ρ : Env) (S : Sto) | exc (c : Str) (ρ : Env) (S : Sto)
abbrev MS := Env → Sto → Option RS
section
variable (K : PySem.W.Frag) (ec : Str → Value)
def KS (W : WX) (φ : Nat → Addr) (n : Nat) (H : Hp) (D : Ends) : RS → Prop
  | .nx ρ S' => ∀ φ' H' σ', Ext φ n H φ' S'.length H' → Ok K φ' S' H' → RelE K φ' S'.length H' ρ σ' → D.nx σ' H'
  | .brk ρ S' => ∀ φ' H' σ', Ext φ n H φ' S'.length H' → Ok K φ' S' H' → RelE K φ' S'.length H' ρ σ' → D.bk σ' H'
  | .cnt ρ S' => ∀ φ' H' σ', Ext φ n H φ' S'.length H' → Ok K φ' S' H' → RelE K φ' S'.length H' ρ σ' → D.ct σ' H'
  | .ret d S' => ∀ φ' H' v, Ext φ n H φ' S'.length H' → Ok K φ' S' H' → Rel K φ' S'.length H' v d → D.rt v H'
  | .exc c ρ S' => ∀ φ' H' σ', Ext φ n H φ' S'.length H' → Ok K φ' S' H' → RelE K φ' S'.length H' ρ σ' → W (ec c) none σ' H'
def rdS (W : WX) (m : MS) : TS := fun D σ H => ∃ (φ : Nat → Addr) (S : Sto) (ρ : Env), Ok K φ S H ∧ RelE K φ S.length H ρ σ ∧ ∃ r, m ρ S = some r ∧ KS K ec W φ S.length H D r
end
section
variable {K : PySem.W.Frag}
theorem KS.ext {φ φ1 : Nat → Addr} {n n1 : Nat} {H H1 : Hp} {D : Ends} {r : RS} (e : Ext φ n H φ1 n1 H1) (h : KS K ec W φ n H D r) : KS K ec W φ1 n1 H1 D r := by
  cases r with
  | nx ρ S' => exact fun φ' H' σ' e' => h φ' H' σ' (e.trans e')
  | brk ρ S' => exact fun φ' H' σ' e' => h φ' H' σ' (e.trans e')
  | cnt ρ S' => exact fun φ' H' σ' e' => h φ' H' σ' (e.trans e')
  | ret d S' => exact fun φ' H' v e' => h φ' H' v (e.trans e')
  | exc c ρ S' => exact fun φ' H' σ' e' => h φ' H' σ' (e.trans e')
structure Cs (K : PySem.W.Frag) (ec : Str → Value) (W : WX) (C : (Nat → Addr) → Nat → Hp → Prop) (φ : Nat → Addr) (S : Sto) (ρ : Env) (σ : L2.St) (H : Hp) (D : Ends) (k : Sto → Option RS) : Prop where
  ok : Ok K φ S H
  env : RelE K φ S.length H ρ σ
  car : C φ S.length H
  run : ∃ r, k S = some r ∧ KS K ec W φ S.length H D r
def sB {α : Type} (m : M α) (k : α → MS) : MS := fun ρ S => match m ρ S with
  | none => none
  | some (.exc c S1) => some (.exc c ρ S1)
  | some (.val a S1) => k a ρ S1
variable {C : (Nat → Addr) → Nat → Hp → Prop} {φ : Nat → Addr} {S : Sto} {ρ : Env} {σ : L2.St} {H : Hp} {D : Ends}
theorem Cs.start {m : MS} (h : rdS K ec W m D σ H) : ∃ (φ : Nat → Addr) (S : Sto) (ρ : Env), Cs K ec W (fun _ _ _ => True) φ S ρ σ H D (m ρ) := by
  obtain ⟨φ, S, ρ, ok, env, r, e, q⟩ := h
  exact ⟨φ, S, ρ, ok, env, trivial, r, e, q⟩
theorem Cs.bind {γ δ : Type} {rel1 : RelT δ γ} (hC : MonoC K C) {m : M γ} {k : γ → MS} (c : Cs K ec W C φ S ρ σ H D (sB m k ρ)) :
    rd K ec rel1 W m σ H fun x H1 => ∃ (φ1 : Nat → Addr) (S1 : Sto) (a : γ), rel1 φ1 S1.length H1 x a ∧ Ext φ S.length H φ1 S1.length H1 ∧ Cs K ec W C φ1 S1 ρ σ H1 D (k a ρ) := by
  obtain ⟨r, e, q⟩ := c.run
  unfold sB at e
  split at e
  · cases e
  · rename_i c1 S1 e1
    cases e
    exact ⟨φ, S, ρ, c.ok, c.env, _, e1, fun φ' H' ex ok => q φ' H' σ ex ok (c.env.mono c.ok ex)⟩
  · rename_i a S1 e1
    exact ⟨φ, S, ρ, c.ok, c.env, _, e1, fun φ' H' b ex ok r1 => ⟨φ', S1, a, r1, ex, ok, c.env.mono c.ok ex, hC _ _ _ _ _ _ c.ok ex c.car, r, e, q.ext ex⟩⟩
theorem Cs.carry {C' : (Nat → Addr) → Nat → Hp → Prop} {k : Sto → Option RS} (c : Cs K ec W C φ S ρ σ H D k) (h : C' φ S.length H) : Cs K ec W C' φ S ρ σ H D k := ⟨c.ok, c.env, h, c.run⟩
theorem Cs.rest {m : MS} (c : Cs K ec W C φ S ρ σ H D (m ρ)) : rdS K ec W m D σ H :=
  let ⟨r, e, q⟩ := c.run
  ⟨φ, S, ρ, c.ok, c.env, r, e, q⟩
end
def XS (X : Cx) (ec : Str → Value) (W : WX) (st : Stmt) (m : MS) : Prop := PS X st (rdS X.K ec W m)
def XSs (X : Cx) (ec : Str → Value) (W : WX) (st : List Stmt) (m : MS) : Prop := PSs X st (rdS X.K ec W m)
theorem imS {st : Stmt} {t t' : TS} (h : PS X st t) (i : ∀ D σ H, t' D σ H → t D σ H) : PS X st t' := ⟨fun pins s σ H D I q => h.run pins s σ H D I (i D σ H q)⟩
theorem imSs {st : List Stmt} {t t' : TS} (h : PSs X st t) (i : ∀ D σ H, t' D σ H → t D σ H) : PSs X st t' := ⟨fun pins s σ H D I q => h.run pins s σ H D I (i D σ H q)⟩

def sNil : MS := fun ρ S => some (.nx ρ S)
def sSeq (a b : MS) : MS := fun ρ S => match a ρ S with
  | some (.nx ρ' S') => b ρ' S'
  | r => r
theorem xs_nil : XSs X ec W [] sNil := imSs pss_nil fun D σ H h => by
  obtain ⟨φ, S, ρ, ok, env, r, e, q⟩ := h
  cases e
  exact q φ H σ (Ext.refl _ _ _) ok env
theorem xs_one {st : Stmt} {m : MS} (h : XS X ec W st m) : XSs X ec W [st] m := pss_one h
theorem xs_cons {st : Stmt} {rest : List Stmt} {a b : MS} (h1 : XS X ec W st a) (h2 : XSs X ec W rest b) : XSs X ec W (st :: rest) (sSeq a b) := imSs (pss_cons h1 h2) fun D σ H h => by
  obtain ⟨φ, S, ρ, ok, env, r, e, q⟩ := h
  unfold sSeq at e
  split at e
  · rename_i ρ' S' e1
    exact ⟨φ, S, ρ, ok, env, _, e1, fun φ' H' σ' ex ok' env' => ⟨φ', S', ρ', ok', env', r, e, q.ext ex⟩⟩
  · rename_i r1 hne
    refine ⟨φ, S, ρ, ok, env, r, e, ?_⟩
    cases r with
    | nx ρ' S' => exact absurd e (hne ρ' S')
    | _ => exact q
def sEx (m : M D) : MS := sB m fun _ ρ S => some (.nx ρ S)
theorem x_ex {e : Expr} {m : M D} {pos : Pos} (h : XE X ec W e m) (hs : swapsWith e none pos.line X.env = pure false := by rfl) : XS X ec W (.Expr e pos) (sEx m) := imS (ps_expr h hs) fun D σ H h => by
  obtain ⟨φ, S, ρ, c⟩ := Cs.start h
  refine rd_imp (c.bind (rel1 := Rel X.K) monoC_true) fun x H1 ⟨φ1, S1, a, ra, ex, c1⟩ => ?_
  obtain ⟨r, e, q⟩ := c1.run
  cases e
  exact q φ1 H1 σ (Ext.refl _ _ _) c1.ok c1.env
def sRet (m : M D) : MS := sB m fun d _ S => some (.ret d S)
theorem x_ret {e : Expr} {m : M D} {pos : Pos} (h : XE X ec W e m) : XS X ec W (.Return (some e) pos) (sRet m) := imS (ps_ret h) fun D σ H h => by
  obtain ⟨φ, S, ρ, c⟩ := Cs.start h
  refine rd_imp (c.bind (rel1 := Rel X.K) monoC_true) fun x H1 ⟨φ1, S1, a, ra, ex, c1⟩ => ?_
  obtain ⟨r, e, q⟩ := c1.run
  cases e
  exact q φ1 H1 x (Ext.refl _ _ _) c1.ok ra
def sRetN : MS := fun _ S => some (.ret .non S)
def sIf (c : M Bool) (a b : MS) : MS := sB c fun k => match k with
  | true => a
  | false => b
theorem x_if {c : Expr} {a b : List Stmt} {mc : M Bool} {ma mb : MS} {pos : Pos} (hc : XT X ec W c mc) (ha : XSs X ec W a ma) (hb : XSs X ec W b mb) : XS X ec W (.If c a b pos) (sIf mc ma mb) := imS (ps_if hc ha hb) fun D σ H h => by
  obtain ⟨φ, S, ρ, c⟩ := Cs.start h
  refine rd_imp (c.bind (rel1 := RelB) monoC_true) fun x H1 ⟨φ1, S1, a, ra, ex, c1⟩ => ?_
  cases ra
  cases x with
  | true => exact iteT c1.rest
  | false => exact iteF c1.rest
def sSet (i : Nat) (m : M D) : MS := sB m fun d ρ S => some (.nx (ρ.set i (some d)) S)
theorem x_set {x : Str} {e : Expr} {m : M D} {pos pos' : Pos} (i : Nat) (hN : X.N.Nodup) (h : XE X ec W e m) (hi : X.N[i]? = some x := by rfl) (hx : Loc X.env.scope x := by first | exact Or.inl rfl | exact Or.inr rfl) (hs : swapsWith e (some (.Name x pos')) pos.line X.env = pure false := by rfl) (hf : X.fn x = true ∨ X.env.scope.names.lookup x = some .local := by first | exact .inl rfl | exact .inr rfl | assumption) :
    XS X ec W (.Assign [.Name x pos'] e pos) (sSet i m) := imS (ps_set hN hi hx h hs hf) fun D σ H h => by
  obtain ⟨φ, S, ρ, c⟩ := Cs.start h
  refine rd_imp (c.bind (rel1 := Rel X.K) monoC_true) fun x H1 ⟨φ1, S1, a, ra, ex, c1⟩ => ?_
  obtain ⟨r, e, q⟩ := c1.run
  cases e
  exact q φ1 H1 _ (Ext.refl _ _ _) c1.ok (c1.env.set i ra)

/-! ### targets -/
abbrev Tgt := D → Env → Sto → Option Env
abbrev Tgts := List D → Env → Sto → Option Env
def TgS (K : PySem.W.Frag) (g : TG) (t : Tgt) (vs : List Nat) : Prop := ∀ (φ : Nat → Addr) (S : Sto) (H : Hp) (σ : L2.St) (ρ : Env) (v : V) (d : D) (ρ' : Env), Ok K φ S H → RelE K φ S.length H ρ σ → Rel K φ S.length H v d → t d ρ S = some ρ' →
  ∀ Q : L2.St → Hp → Prop, (∀ σ', RelE K φ S.length H ρ' σ' → wipe σ' vs = wipe σ vs → Q σ' H) → g v σ H Q
def TgsS (K : PySem.W.Frag) (g : TGs) (t : Tgts) (vs : List Nat) : Prop := ∀ (φ : Nat → Addr) (S : Sto) (H : Hp) (σ : L2.St) (ρ : Env) (v : List V) (d : List D) (ρ' : Env), Ok K φ S H → RelE K φ S.length H ρ σ → Rels K φ S.length H v d → t d ρ S = some ρ' →
  ∀ Q : L2.St → Hp → Prop, (∀ σ', RelE K φ S.length H ρ' σ' → wipe σ' vs = wipe σ vs → Q σ' H) → g v σ H Q
theorem wipe_set {v : Option V} : ∀ {σ : L2.St} {vs : List Nat} {i : Nat}, i ∈ vs → wipe (σ.set i v) vs = wipe σ vs
  | σ, w :: vs, i, h => by
    unfold wipe
    by_cases c : i ∈ vs
    · rw [wipe_set c]
    · have e : i = w := by
        rcases List.mem_cons.mp h with h | h
        · exact h
        · exact absurd h c
      subst e
      have z : ∀ (vs : List Nat) (σ : L2.St), i ∉ vs → wipe (σ.set i v) vs = (wipe σ vs).set i v := by
        intro vs
        induction vs with
        | nil => intro σ _; rfl
        | cons a l ih =>
          intro σ hn
          unfold wipe
          rw [ih σ fun q => hn (List.mem_cons_of_mem _ q)]
          exact List.set_comm _ _ (fun q => hn (by rw [q]; exact List.mem_cons_self))
      rw [z vs σ c, List.set_set]
def tN (i : Nat) : Tgt := fun d ρ _ => some (ρ.set i (some d))
theorem tgs_name {K : PySem.W.Frag} {i : Nat} {vs : List Nat} (h : i ∈ vs := by decide) : TgS K (gName i) (tN i) vs := fun φ S H σ ρ v d ρ' ok env r e Q q => by
  cases e
  exact q _ (env.set i r) (wipe_set h)
def tNil' : Tgts := fun ds ρ _ => match ds with
  | [] => some ρ
  | _ => none
def tCons' (t : Tgt) (ts : Tgts) : Tgts := fun ds ρ S => match ds with
  | d :: ds => (t d ρ S).bind fun ρ1 => ts ds ρ1 S
  | [] => none
theorem tgs_nil {K : PySem.W.Frag} {vs : List Nat} : TgsS K gNil tNil' vs := fun φ S H σ ρ v d ρ' ok env r e Q q => by
  cases r with
  | nil => cases e; exact ⟨rfl, q σ env rfl⟩
  | cons _ _ => cases e
theorem tgs_cons {K : PySem.W.Frag} {vs : List Nat} {g : TG} {gs : TGs} {t : Tgt} {ts : Tgts} (h : TgS K g t vs) (h' : TgsS K gs ts vs) : TgsS K (gCons g gs) (tCons' t ts) vs := fun φ S H σ ρ v d ρ' ok env r e Q q => by
  cases r with
  | nil => cases e
  | cons r rs =>
    rename_i v vs' d ds
    unfold tCons' at e
    dsimp only at e
    cases e1 : t d ρ S with
    | none => rw [e1] at e; cases e
    | some ρ1 =>
      rw [e1] at e
      refine ⟨_, _, rfl, h φ S H σ ρ v d ρ1 ok env r e1 _ fun σ1 env1 w1 => h' φ S H σ1 ρ1 _ ds ρ' ok env1 rs e _ fun σ2 env2 w2 => q σ2 env2 (w2.trans w1)⟩
def tTp (n : Nat) (ts : Tgts) : Tgt := fun d ρ S => match d with
  | .tup ds => if ds.length = n then ts ds ρ S else none
  | .kt ds => if ds.length = n then ts ds ρ S else none
  | _ => none
theorem tgs_tup {K : PySem.W.Frag} {vs : List Nat} {gs : TGs} {ts : Tgts} {n : Nat} (h : TgsS K gs ts vs) : TgS K (gTup K n gs) (tTp n ts) vs := fun φ S H σ ρ v d ρ' ok env r e Q q => by
  cases r with
  | tup h1 r1 =>
    rename_i a xs ds
    unfold tTp at e
    dsimp only at e
    split at e
    · rename_i hl
      exact ⟨a, xs, rfl, .inl (.inl h1), by rw [r1.len]; exact hl, h φ S H σ ρ xs ds ρ' ok env r1 e Q q⟩
    · cases e
  | kt h1 r1 =>
    rename_i a xs ds
    unfold tTp at e
    dsimp only at e
    split at e
    · rename_i hl
      exact ⟨a, xs, rfl, .inr h1, by rw [r1.len]; exact hl, h φ S H σ ρ xs ds ρ' ok env r1 e Q q⟩
    · cases e
  | _ => cases e
def sAsg (t : Tgt) (m : M D) : MS := sB m fun d ρ S => (t d ρ S).map fun ρ' => .nx ρ' S
theorem x_asg {tg e : Expr} {m : M D} {pos : Pos} {g : TG} {t : Tgt} {vs : List Nat} (h : XE X ec W e m) (hg : PG X tg g) (ht : TgS X.K g t vs) (hs : swapsWithSole [tg] e pos.line X.env = pure false := by rfl) (hw : swappedStores [tg] e X.env = pure none := by rfl)
    (h1 : (assignEach [tg] X.env).map (·.2) = [assign tg X.env] := by rfl) : XS X ec W (.Assign [tg] e pos) (sAsg t m) := imS (ps_asg h hg hs hw h1) fun D σ H h => by
  obtain ⟨φ, S, ρ, c⟩ := Cs.start h
  refine rd_imp (c.bind (rel1 := Rel X.K) monoC_true) fun x H1 ⟨φ1, S1, a, ra, ex, c1⟩ => ?_
  obtain ⟨r, e, q⟩ := c1.run
  cases e1 : t a ρ S1 with
  | none => rw [e1] at e; cases e
  | some ρ' =>
    rw [e1] at e
    cases e
    exact ht φ1 S1 H1 σ ρ x a ρ' c1.ok c1.env ra e1 _ fun σ' env' _ => q φ1 H1 σ' (Ext.refl _ _ _) c1.ok env'
/-- a, b = x, y -/
def sPar (i j : Nat) (ms : M (List D)) : MS := sB ms fun ds ρ S => match ds with
  | [a, b] => some (.nx ((ρ.set i (some a)).set j (some b)) S)
  | _ => none
theorem x_par {i j : Nat} {x y : Str} {a b : Expr} {ms : M (List D)} {px py pt : Pos} {kt k2 pt2} {pos : Pos} (hc : X.calm = true) (hN : X.N.Nodup) (ha : XA X ec W [a, b] ms) (hi : X.N[i]? = some x := by rfl) (hj : X.N[j]? = some y := by rfl) (hij : i ≠ j := by decide)
    (hx : X.env.scope.names.lookup x = some .local := by rfl) (hy : X.env.scope.names.lookup y = some .local := by rfl)
    (hw : swappedStores [.Tuple [.Name x px, .Name y py] kt pt] (.Tuple [a, b] k2 pt2) X.env = pure (some [x, y]) := by rfl) : XS X ec W (.Assign [.Tuple [.Name x px, .Name y py] kt pt] (.Tuple [a, b] k2 pt2) pos) (sPar i j ms) :=
  imS (ps_par hc hN hi hj hij hx hy ha hw) fun D σ H h => by
  obtain ⟨φ, S, ρ, c⟩ := Cs.start h
  refine rd_imp (c.bind (rel1 := Rels X.K) monoC_true) fun xs H1 ⟨φ1, S1, as, ra, ex, c1⟩ => ?_
  obtain ⟨r, e, q⟩ := c1.run
  cases ra with
  | nil => cases e
  | cons r1 t1 =>
    cases t1 with
    | nil => cases e
    | cons r2 t2 =>
      cases t2 with
      | nil => cases e; exact ⟨_, _, rfl, q φ1 H1 _ (Ext.refl _ _ _) c1.ok ((c1.env.set i r1).set j r2)⟩
      | cons _ _ => cases e

/-! ### while -/
def loopW (c : M Bool) (b : MS) : Nat → MS
  | 0 => fun _ _ => none
  | n + 1 => fun ρ S => match c ρ S with
    | none => none
    | some (.exc x S1) => some (.exc x ρ S1)
    | some (.val false S1) => some (.nx ρ S1)
    | some (.val true S1) => match b ρ S1 with
      | some (.nx ρ' S') => loopW c b n ρ' S'
      | some (.cnt ρ' S') => loopW c b n ρ' S'
      | some (.brk ρ' S') => some (.nx ρ' S')
      | r => r
@[irreducible] def fuel : Nat := 2 ^ 3000000
theorem lt_fuel {n k : Nat} (h : n < 2 ^ k) (hk : k ≤ 3000000) : n < fuel := by
  unfold fuel
  exact Nat.lt_of_lt_of_le h (Nat.pow_le_pow_right (by decide) hk)
def sWhile (c : M Bool) (b : MS) : MS := loopW c b fuel
theorem x_while {c : Expr} {body : List Stmt} {mc : M Bool} {mb : MS} {pos : Pos} (hp : PassesOwn (model X.prog X.w) X.A X.env X.xe) (hc : XT X ec W c mc) (hb : XSs X ec W body mb) : XS X ec W (.While c body [] pos) (sWhile mc mb) := imS (ps_while hp hc hb) fun D σ H h => by
  obtain ⟨φ, S, ρ, ok, env, r, e, q⟩ := h
  refine ⟨fun m σ H => ∃ φ S ρ r, Ok X.K φ S H ∧ RelE X.K φ S.length H ρ σ ∧ loopW mc mb m ρ S = some r ∧ KS X.K ec W φ S.length H D r, ⟨fuel, φ, S, ρ, r, ok, env, e, q⟩, fun m σ H h => ?_⟩
  obtain ⟨φ, S, ρ, r, ok, env, e, q⟩ := h
  cases m with
  | zero => cases e
  | succ m =>
    unfold loopW at e
    split at e
    · cases e
    · rename_i x S1 e1
      cases e
      exact ⟨φ, S, ρ, ok, env, _, e1, fun φ' H' ex ok' => q φ' H' σ ex ok' (env.mono ok ex)⟩
    · rename_i S1 e1
      cases e
      refine ⟨φ, S, ρ, ok, env, _, e1, fun φ' H' b ex ok' rb => ?_⟩
      cases rb
      exact iteF (q φ' H' σ ex ok' (env.mono ok ex))
    · rename_i S1 e1
      refine ⟨φ, S, ρ, ok, env, _, e1, fun φ' H' b ex ok' rb => ?_⟩
      cases rb
      refine iteT ⟨fun σ H => ∃ φ S ρ r, Ok X.K φ S H ∧ RelE X.K φ S.length H ρ σ ∧ loopW mc mb m ρ S = some r ∧ KS X.K ec W φ S.length H D r, fun σ' H' h => ⟨m, Nat.lt_succ_self _, h⟩, φ', S1, ρ, ok', env.mono ok ex, ?_⟩
      split at e
      · rename_i ρ' S' e2
        exact ⟨_, e2, fun φ2 H2 σ2 ex2 ok2 env2 => ⟨φ2, S', ρ', r, ok2, env2, e, q.ext (ex.trans ex2)⟩⟩
      · rename_i ρ' S' e2
        exact ⟨_, e2, fun φ2 H2 σ2 ex2 ok2 env2 => ⟨φ2, S', ρ', r, ok2, env2, e, q.ext (ex.trans ex2)⟩⟩
      · rename_i ρ' S' e2
        cases e
        exact ⟨_, e2, fun φ2 H2 σ2 ex2 ok2 env2 => q φ2 H2 σ2 (ex.trans ex2) ok2 env2⟩
      · rename_i h1 h2 h3
        refine ⟨r, e, ?_⟩
        cases r with
        | nx ρ' S' => exact absurd e (h1 ρ' S')
        | cnt ρ' S' => exact absurd e (h2 ρ' S')
        | brk ρ' S' => exact absurd e (h3 ρ' S')
        | ret d S' => exact KS.ext ex q
        | exc c ρ' S' => exact KS.ext ex q

/-! ### what is walked -/
abbrev Sq := Nat → Sto → Option (Option D)
def SeqR (K : PySem.W.Frag) : RelT It Sq := fun φ n H J sq => ∀ φ' S' H', Ok K φ' S' H' → Ext φ n H φ' S'.length H' → ∀ i,
  (∀ d, sq i S' = some (some d) → J.go i H' ∧ ∀ x H'', J.yld i H' x H'' → Ext φ' S'.length H' φ' S'.length H'' ∧ Ok K φ' S' H'' ∧ Rel K φ' S'.length H'' x d) ∧ (sq i S' = some none → J.stop i H')
instance {K : PySem.W.Frag} : Mono K (SeqR K) := ⟨fun k e r φ' S' H' ok ex => r φ' S' H' ok (e.trans ex)⟩
def XI (X : Cx) (ec : Str → Value) (W : WX) (tg iter : Expr) (m : M Sq) : Prop := PI X tg iter (rd X.K ec (SeqR X.K) W m)
theorem imI {tg iter : Expr} {t t' : TI} (h : PI X tg iter t) (i : ∀ σ H Q, t' σ H Q → t σ H Q) : PI X tg iter t' := ⟨fun pins s σ H Q I q => h.run pins s σ H Q I (i σ H Q q)⟩
theorem orI {tg iter : Expr} {t t' : TI} (h : PI X tg iter t) (h' : PI X tg iter t') : PI X tg iter (fun σ H Q => t σ H Q ∨ t' σ H Q) := ⟨fun pins s σ H Q I q => q.elim (h.run pins s σ H Q I) (h'.run pins s σ H Q I)⟩
def sqIt (xs : List D) : Sq := fun i _ => some xs[i]?
def sqRef (id : Nat) : Sq := fun i S => match S[id]? with
  | some (.lst xs) => some xs[i]?
  | _ => none
def sqOf (S : Sto) : D → Option Sq
  | .tup xs => some (sqIt xs)
  | .kt xs => some (sqIt xs)
  | .fro xs => some (sqIt xs)
  | .ref i => match S[i]? with
    | some (.lst _) => some (sqRef i)
    | _ => none
  | _ => none
def mSeq (m : M D) : M Sq := mB m fun d _ S => match sqOf S d with
  | some q => some (.val q S)
  | none => none
end Rf
namespace Rf
open PySem PySem.Spec PyProof.Rows L2

variable {X : Cx} {ec : Str → Value} {W : WX}
theorem seqR_tup {K : PySem.W.Frag} {φ : Nat → Addr} {S : Sto} {H : Hp} {a : Addr} {xs : List V} {ds : List D} (k : Ok K φ S H) (h : TuT K H a xs) (r : Rels K φ S.length H xs ds) : SeqR K φ S.length H (Itt K a) (sqIt ds) := fun φ' S' H' ok ex i => by
  have h' := (k.rdT ex h).sq
  have r' := r.mono k ex
  refine ⟨fun d e => ?_, fun e => ?_⟩
  · have e : ds[i]? = some d := by unfold sqIt at e; exact Option.some.inj e
    obtain ⟨v, hv, rv⟩ := r'.get i e
    refine ⟨⟨xs, v, h', hv⟩, fun x H'' y => ?_⟩
    obtain ⟨eH, y⟩ := y
    subst eH
    have := y xs h'
    rw [hv] at this
    cases this
    exact ⟨Ext.refl _ _ _, ok, rv⟩
  · have e : ds[i]? = none := by unfold sqIt at e; exact Option.some.inj e
    exact ⟨xs, h', by rw [r'.len]; exact List.getElem?_eq_none_iff.mp e⟩
theorem seqR_fro {K : PySem.W.Frag} {φ : Nat → Addr} {S : Sto} {H : Hp} {a : Addr} {xs : List V} {ds : List D} (k : Ok K φ S H) (h : Fro K φ S.length H a xs) (r : Rels K φ S.length H xs ds) : SeqR K φ S.length H (Itl K a) (sqIt ds) := fun φ' S' H' ok ex i => by
  have h' := (k.rdF ex h).sq
  have r' := r.mono k ex
  refine ⟨fun d e => ?_, fun e => ?_⟩
  · have e : ds[i]? = some d := by unfold sqIt at e; exact Option.some.inj e
    obtain ⟨v, hv, rv⟩ := r'.get i e
    refine ⟨⟨xs, v, h', hv⟩, fun x H'' y => ?_⟩
    obtain ⟨eH, y⟩ := y
    subst eH
    have := y xs h'
    rw [hv] at this
    cases this
    exact ⟨Ext.refl _ _ _, ok, rv⟩
  · have e : ds[i]? = none := by unfold sqIt at e; exact Option.some.inj e
    exact ⟨xs, h', by rw [r'.len]; exact List.getElem?_eq_none_iff.mp e⟩
theorem seqR_ref {K : PySem.W.Frag} {φ : Nat → Addr} {S : Sto} {H : Hp} {j : Nat} (k : Ok K φ S H) (hj : j < S.length) : SeqR K φ S.length H (Itl K (φ j)) (sqRef j) := fun φ' S' H' ok ex i => by
  have ea : φ' j = φ j := ex.same j hj
  refine ⟨fun d e => ?_, fun e => ?_⟩
  · unfold sqRef at e
    split at e
    · rename_i ds hx
      have e : ds[i]? = some d := Option.some.inj e
      obtain ⟨xs, h1, r1⟩ := ok.lst hx
      obtain ⟨v, hv, rv⟩ := r1.get i e
      rw [ea] at h1
      refine ⟨⟨xs, v, SqL.of h1, hv⟩, fun x H'' y => ?_⟩
      obtain ⟨eH, y⟩ := y
      subst eH
      have := y xs (SqL.of h1)
      rw [hv] at this
      cases this
      exact ⟨Ext.refl _ _ _, ok, rv⟩
    · cases e
  · unfold sqRef at e
    split at e
    · rename_i ds hx
      have e : ds[i]? = none := Option.some.inj e
      obtain ⟨xs, h1, r1⟩ := ok.lst hx
      rw [ea] at h1
      exact ⟨xs, SqL.of h1, by rw [r1.len]; exact List.getElem?_eq_none_iff.mp e⟩
    · cases e
/-- a list or a tuple -/
theorem xi_seq {tg e : Expr} {m : M D} (h : XE X ec W e m) : XI X ec W tg e (mSeq m) := imI (orI (pi_list h) (pi_tup h)) fun σ H Q h => by
  obtain ⟨φ, S, ρ, c⟩ := Cf.start h
  obtain ⟨r0, e0, q0⟩ := c.run
  unfold mSeq mB at e0
  cases hm : m ρ S with
  | none => rw [hm] at e0; cases e0
  | some z =>
    cases z with
    | exc x S1 =>
      rw [hm] at e0
      cases e0
      exact .inl ⟨φ, S, ρ, c.ok, c.env, _, hm, q0⟩
    | val d S1 =>
      rw [hm] at e0
      dsimp only at e0
      cases hq : sqOf S1 d with
      | none => rw [hq] at e0; cases e0
      | some sq =>
        rw [hq] at e0
        cases e0
        cases d with
        | tup ds =>
          refine .inr ⟨φ, S, ρ, c.ok, c.env, _, hm, fun φ' H' b ex ok rb => ?_⟩
          cases rb with
          | tup h1 r1 =>
            cases hq
            exact ⟨_, rfl, ⟨_, .inl (.inl h1)⟩, q0 φ' H' _ ex ok (seqR_tup ok (.inl h1) r1)⟩
        | kt ds =>
          refine .inr ⟨φ, S, ρ, c.ok, c.env, _, hm, fun φ' H' b ex ok rb => ?_⟩
          cases rb with
          | kt h1 r1 =>
            cases hq
            exact ⟨_, rfl, ⟨_, .inr h1⟩, q0 φ' H' _ ex ok (seqR_tup ok (.inr h1) r1)⟩
        | fro ds =>
          refine .inl ⟨φ, S, ρ, c.ok, c.env, _, hm, fun φ' H' b ex ok rb => ?_⟩
          cases rb with
          | fro h1 r1 =>
            cases hq
            exact ⟨_, rfl, ⟨_, h1.sq⟩, q0 φ' H' _ ex ok (seqR_fro ok h1 r1)⟩
        | ref j =>
          unfold sqOf at hq
          dsimp only at hq
          split at hq
          · rename_i ds hl
            cases hq
            refine .inl ⟨φ, S, ρ, c.ok, c.env, _, hm, fun φ' H' b ex ok rb => ?_⟩
            cases rb with
            | ref hj =>
              obtain ⟨xs, h1, r1⟩ := ok.lst hl
              exact ⟨_, rfl, ⟨_, SqL.of h1⟩, q0 φ' H' _ ex ok (seqR_ref ok hj)⟩
          · cases hq
        | _ => cases hq

/-! ### ranges -/
def rngD (lo : Int) (n : Nat) : List D := (List.range n).map fun k => .int (lo + (k : Nat))
theorem rngD_get {lo : Int} {n i : Nat} {d : D} (h : (rngD lo n)[i]? = some d) : i < n ∧ d = .int (lo + (i : Nat)) := by
  unfold rngD at h
  rw [List.getElem?_map] at h
  by_cases c : i < n
  · rw [List.getElem?_range c] at h
    cases h
    exact ⟨c, rfl⟩
  · rw [List.getElem?_eq_none (by rw [List.length_range]; omega)] at h
    cases h
theorem rngD_none {lo : Int} {n i : Nat} (h : (rngD lo n)[i]? = none) : n ≤ i := by
  have := List.getElem?_eq_none_iff.mp h
  unfold rngD at this
  rw [List.length_map, List.length_range] at this
  exact this
theorem seqR_rng {K : PySem.W.Frag} {φ : Nat → Addr} {n : Nat} {H : Hp} {lo : Int} {m : Nat} : SeqR K φ n H (Itr lo m) (sqIt (rngD lo m)) := fun φ' S' H' ok ex i => by
  refine ⟨fun d e => ?_, fun e => ?_⟩
  · obtain ⟨h1, h2⟩ := rngD_get (show (rngD lo m)[i]? = some d from Option.some.inj e)
    refine ⟨h1, fun x H'' y => ?_⟩
    obtain ⟨eH, y⟩ := y
    subst eH
    subst y
    subst h2
    exact ⟨Ext.refl _ _ _, ok, .int _⟩
  · exact rngD_none (Option.some.inj e)
def rngOk (i : Int) : Bool := decide (-(2 ^ 62) ≤ i) && decide (i < 2 ^ 62)
theorem rngOk_of {i : Int} (h : rngOk i = true) : -(2 ^ 62) ≤ i ∧ i < 2 ^ 62 := by
  unfold rngOk at h
  rw [Bool.and_eq_true] at h
  exact ⟨of_decide_eq_true h.1, of_decide_eq_true h.2⟩
def mRng1 (ms : M (List D)) : M Sq := mB ms fun as _ S => match as with
  | [.int j] => if rngOk j = true then some (.val (sqIt (rngD 0 j.toNat)) S) else none
  | _ => none
theorem xi_rng1 {tg a : Expr} {ms : M (List D)} {p pos : Pos} (ha : XA X ec W [a] ms) (hm : X.mg "range" = none) (hg : Gl X "range" := by rfl) (hs : starEach [a] X.env = [(false, eval a X.env)] := by rfl) : XI X ec W tg (.Call (.Name "range" p) [a] [] pos) (mRng1 ms) := imI (pi_range1 hg hm ha hs) fun σ H Q h => by
  obtain ⟨φ, S, ρ, c⟩ := Cf.start h
  refine rd_imp (c.bind (rel1 := Rels X.K) monoC_true) fun xs H1 ⟨φ1, S1, as, ra, c1⟩ => ?_
  obtain ⟨r, e, q⟩ := c1.run
  split at e
  · split at e
    · rename_i j hj
      cases e
      cases ra with
      | cons r1 t1 =>
        cases r1
        cases t1
        obtain ⟨h1, h2⟩ := rngOk_of hj
        exact ⟨j, rfl, h1, h2, q φ1 H1 _ (Ext.refl _ _ _) c1.ok seqR_rng⟩
    · cases e
  · cases e
/-! from the end -/
/-! ### for -/
def loopQ (t : Tgt) (b : MS) (sq : Sq) : Nat → Nat → MS
  | 0, _ => fun _ _ => none
  | n + 1, i => fun ρ S => match sq i S with
    | none => none
    | some none => some (.nx ρ S)
    | some (some d) => match t d ρ S with
      | none => none
      | some ρ1 => match b ρ1 S with
        | some (.nx ρ' S') => loopQ t b sq n (i + 1) ρ' S'
        | some (.cnt ρ' S') => loopQ t b sq n (i + 1) ρ' S'
        | some (.brk ρ' S') => some (.nx ρ' S')
        | r => r
def sFor (t : Tgt) (it : M Sq) (b : MS) : MS := sB it fun sq => loopQ t b sq fuel 0
theorem x_for {tg iter : Expr} {body : List Stmt} {mi : M Sq} {mb : MS} {g : TG} {t : Tgt} {vs : List Nat} {pos : Pos} (hp : PassesOwn (model X.prog X.w) X.A X.env X.xe) (hc : X.calm = true) (hi : XI X ec W tg iter mi) (hg : PG X tg g) (ht : TgS X.K g t vs) (hb : XSs X ec W body mb)
    (hs : ∀ x, foldedSetIterable iter X.env x = pure x := by intro _; rfl) : XS X ec W (.For tg iter body [] pos) (sFor t mi mb) := imS (ps_for hp hc hi hg hb hs) fun D σ H h => by
  obtain ⟨φ, S, ρ, c⟩ := Cs.start h
  refine rd_imp (c.bind (rel1 := SeqR X.K) monoC_true) fun J H1 ⟨φ1, S1, sq, rJ, ex, c1⟩ => ?_
  refine ⟨fun i m σ H => ∃ φ S ρ r, Ok X.K φ S H ∧ RelE X.K φ S.length H ρ σ ∧ SeqR X.K φ S.length H J sq ∧ loopQ t mb sq m i ρ S = some r ∧ KS X.K ec W φ S.length H D r, ?_, ?_⟩
  · obtain ⟨r, e, q⟩ := c1.run
    exact ⟨fuel, φ1, S1, ρ, r, c1.ok, c1.env, rJ, e, q⟩
  · rintro i m σ H ⟨φ, S, ρ, r, ok, env, rJ, e, q⟩
    cases m with
    | zero => cases e
    | succ m =>
      unfold loopQ at e
      have RJ := rJ φ S H ok (Ext.refl _ _ _) i
      split at e
      · cases e
      · rename_i e1
        cases e
        exact .inl ⟨RJ.2 e1, q φ H σ (Ext.refl _ _ _) ok env⟩
      · rename_i d e1
        obtain ⟨go, yld⟩ := RJ.1 d e1
        refine .inr ⟨go, fun σ H => ∃ φ S ρ r, Ok X.K φ S H ∧ RelE X.K φ S.length H ρ σ ∧ SeqR X.K φ S.length H J sq ∧ loopQ t mb sq m (i + 1) ρ S = some r ∧ KS X.K ec W φ S.length H D r, fun σ' H' h => ⟨m, Nat.lt_succ_self _, h⟩, fun x H' y => ?_⟩
        obtain ⟨ex1, ok1, rx⟩ := yld x H' y
        split at e
        · cases e
        · rename_i ρ1 e2
          refine ht φ S H' σ ρ x d ρ1 ok1 (env.mono ok ex1) rx e2 _ fun σ1 env1 _ => ?_
          refine ⟨φ, S, ρ1, ok1, env1, ?_⟩
          split at e
          · rename_i ρ' S' e3
            exact ⟨_, e3, fun φ2 H2 σ2 ex2 ok2 env2 => ⟨φ2, S', ρ', r, ok2, env2, Mono.mono ok (ex1.trans ex2) rJ, e, q.ext (ex1.trans ex2)⟩⟩
          · rename_i ρ' S' e3
            exact ⟨_, e3, fun φ2 H2 σ2 ex2 ok2 env2 => ⟨φ2, S', ρ', r, ok2, env2, Mono.mono ok (ex1.trans ex2) rJ, e, q.ext (ex1.trans ex2)⟩⟩
          · rename_i ρ' S' e3
            cases e
            exact ⟨_, e3, fun φ2 H2 σ2 ex2 ok2 env2 => q φ2 H2 σ2 (ex1.trans ex2) ok2 env2⟩
          · rename_i h1 h2 h3
            refine ⟨r, e, ?_⟩
            cases r with
            | nx ρ' S' => exact absurd e (h1 ρ' S')
            | cnt ρ' S' => exact absurd e (h2 ρ' S')
            | brk ρ' S' => exact absurd e (h3 ρ' S')
            | ret d S' => exact KS.ext ex1 q
            | exc c ρ' S' => exact KS.ext ex1 q

/-! ### comprehensions -/
def wipeE (ρ : Env) : List Nat → Env
  | [] => ρ
  | v :: vs => (wipeE ρ vs).set v none
theorem RelE.wipe {K : PySem.W.Frag} {φ : Nat → Addr} {n : Nat} {H : Hp} {ρ : Env} {σ : L2.St} (r : RelE K φ n H ρ σ) : ∀ vs : List Nat, RelE K φ n H (wipeE ρ vs) (wipe σ vs)
  | [] => r
  | v :: vs => (RelE.wipe r vs).unset v
def loopC (t : Tgt) (c : M Bool) (el : M D) (sq : Sq) (ρ0 : Env) (n0 : Nat) : Nat → Nat → Sto → Option Sto
  | 0, _, _ => none
  | n + 1, i, S => match sq i S with
    | none => none
    | some none => some S
    | some (some d) => match t d ρ0 S with
      | none => none
      | some ρ1 => match c ρ1 S with
        | some (.val false S1) => loopC t c el sq ρ0 n0 n (i + 1) S1
        | some (.val true S1) => match el ρ1 S1 with
          | some (.val y S2) => match S2[n0]? with
            | some (.lst acc) => if acc.length < 1000000 then loopC t c el sq ρ0 n0 n (i + 1) (S2.set n0 (.lst (acc ++ [y]))) else none
            | _ => none
          | _ => none
        | _ => none
def mLc (vs : List Nat) (t : Tgt) (it : M Sq) (c : M Bool) (el : M D) : M D := mB it fun sq ρ S => match loopC t c el sq (wipeE ρ vs) S.length fuel 0 (S ++ [.lst []]) with
  | some S' => some (.val (.ref S.length) S')
  | none => none
def W0 : WX := fun _ _ _ _ => False
def mYes : M Bool := mRet true
/-- the tests of a comprehension -/
def XTs (X : Cx) (ec : Str → Value) (W : WX) (ifs : List Expr) (m : M Bool) : Prop := PTs X ifs (rd X.K ec RelB W m)
theorem xts_one {c : Expr} {m : M Bool} (h : XT X ec W c m) : XTs X ec W [c] m := pts_one h
theorem lc_red {K : PySem.W.Frag} {mi : M Sq} {mt : M Bool} {me : M D} {g : TG} {t : Tgt} {vs : List Nat} (ht : TgS K g t vs) {σ : L2.St} {H : Hp} {Q : VK} (h : rd K ec (Rel K) W (mLc vs t mi mt me) σ H Q) :
    tLc (rd K ec (SeqR K) W mi) g (rd K ec RelB W0 mt) (rd K ec (Rel K) W0 me) vs σ H Q := by
  obtain ⟨φ, S, ρ, c⟩ := Cf.start h
  refine rd_imp (c.bind (rel1 := SeqR K) monoC_true) fun J H1 ⟨φ1, S1, sq, rJ, c1⟩ => ?_
  intro Da hD
  obtain ⟨r0, e0, q0⟩ := c1.run
  cases hl : loopC t mt me sq (wipeE ρ vs) S1.length fuel 0 (S1 ++ [.lst []]) with
  | none => rw [hl] at e0; cases e0
  | some SF =>
    rw [hl] at e0
    cases e0
    have ex0 : Ext φ1 S1.length H1 (nxt φ1 S1.length Da) (S1 ++ [O.lst []]).length (upd H1 Da (.lst [])) := ext_new' hD
    have ok0 : Ok K (nxt φ1 S1.length Da) (S1 ++ [O.lst []]) (upd H1 Da (.lst [])) := c1.ok.new hD (.lst .nil)
    refine ⟨fun i m H => ∃ φ S, Ok K φ S H ∧ Ext φ1 S1.length H1 φ S.length H ∧ φ S1.length = Da ∧ S1.length < S.length ∧ loopC t mt me sq (wipeE ρ vs) S1.length m i S = some SF, ?_, ?_⟩
    · exact ⟨fuel, _, _, ok0, ex0, nxt_new, by rw [List.length_append, List.length_singleton]; exact Nat.lt_succ_self _, hl⟩
    · rintro i m H ⟨φ, S, ok, ex, eD, hn, e⟩
      cases m with
      | zero => cases e
      | succ m =>
        unfold loopC at e
        have RJ := rJ φ S H ok ex i
        split at e
        · cases e
        · rename_i e1
          cases e
          refine .inl ⟨RJ.2 e1, ?_⟩
          have := q0 φ H (.ref Da) ex ok (by rw [← eD]; exact .ref hn)
          exact this
        · rename_i d e1
          obtain ⟨go, yld⟩ := RJ.1 d e1
          refine .inr ⟨go, fun H => ∃ φ S, Ok K φ S H ∧ Ext φ1 S1.length H1 φ S.length H ∧ φ S1.length = Da ∧ S1.length < S.length ∧ loopC t mt me sq (wipeE ρ vs) S1.length m (i + 1) S = some SF, fun H' h => ⟨m, Nat.lt_succ_self _, h⟩, fun x H' y => ?_⟩
          obtain ⟨ex1, ok1, rx⟩ := yld x H' y
          split at e
          · cases e
          · rename_i ρ1 e2
            have envw : RelE K φ S.length H' (wipeE ρ vs) (wipe σ vs) := ((c1.env.mono c1.ok (ex.trans ex1)).wipe vs)
            refine ht φ S H' _ _ x d ρ1 ok1 envw rx e2 _ fun σ1 env1 w1 => ⟨?_, ?_⟩
            · have ww : ∀ (vs : List Nat) (σ : L2.St), L2.wipe (L2.wipe σ vs) vs = L2.wipe σ vs := by
                intro vs σ
                have : ∀ (us : List Nat), (∀ u ∈ us, u ∈ vs) → L2.wipe (L2.wipe σ us) vs = L2.wipe σ vs := by
                  intro us
                  induction us with
                  | nil => intro _; rfl
                  | cons u us ih =>
                    intro hu
                    show L2.wipe ((L2.wipe σ us).set u none) vs = _
                    rw [wipe_set (hu u List.mem_cons_self), ih fun v hv => hu v (List.mem_cons_of_mem _ hv)]
                exact this vs fun _ h => h
              rw [w1, ww]
            · have exT : Ext φ1 S1.length H1 φ S.length H' := ex.trans ex1
              split at e
              · rename_i Sa e3
                refine ⟨φ, S, ρ1, ok1, env1, _, e3, fun φ2 H2 b ex2 ok2 rb => ?_⟩
                cases rb
                exact iteF ⟨φ2, Sa, ok2, exT.trans ex2, by rw [ex2.same _ hn]; exact eD, Nat.lt_of_lt_of_le hn ex2.le, e⟩
              · rename_i Sa e3
                refine ⟨φ, S, ρ1, ok1, env1, _, e3, fun φ2 H2 b ex2 ok2 rb => ?_⟩
                cases rb
                refine iteT ?_
                split at e
                · rename_i yv Sb e4
                  refine ⟨φ2, Sa, ρ1, ok2, env1.mono ok1 ex2, _, e4, fun φ3 H3 b ex3 ok3 rb => ?_⟩
                  have hn3 : S1.length < Sb.length := Nat.lt_of_lt_of_le hn (Nat.le_trans ex2.le ex3.le)
                  have eD3 : φ3 S1.length = Da := by rw [ex3.same _ (Nat.lt_of_lt_of_le hn ex2.le), ex2.same _ hn]; exact eD
                  split at e
                  · rename_i acc e5
                    split at e
                    · rename_i hsz
                      obtain ⟨us, h6, r6⟩ := ok3.lst e5
                      refine ⟨us, by rw [← eD3]; exact h6, by rw [r6.len]; exact Nat.lt_of_lt_of_le hsz (by decide), φ3, _, ?_, ?_, eD3, ?_, e⟩
                      · rw [← eD3]
                        exact ok3.put hn3 (nfL h6) (.lst (r6.app (.cons rb .nil)))
                      · rw [← eD3, List.length_set]
                        exact ((exT.trans ex2).trans ex3).trans (ext_put ok3 hn3 (nfL h6))
                      · rw [List.length_set]; exact hn3
                    · cases e
                  · cases e
                · cases e
              · cases e
theorem x_lc {elt tg iter : Expr} {ifs : List Expr} {scope : Scope} {own : List (Str × Nat)} {pos : Pos} {mi : M Sq} {mt : M Bool} {me : M D} {g : TG} {t : Tgt} (hc : X.calm = true) (hN : X.N.Nodup) (hi : XI X ec W tg iter mi) (ok : BlkOk X.N X.env.scope scope own)
    (hg : ∀ (s : Shared) (H : Hp) (C : Addr) (cl : List (Str × Addr)) (fp : List Addr), PG (X.blk s H scope (compEnvC scope cl C X.env) fp) tg g) (ht : TgS X.K g t (own.map (·.2)))
    (hif : ∀ (s : Shared) (H : Hp) (C : Addr) (cl : List (Str × Addr)) (fp : List Addr), XTs (X.blk s H scope (compEnvC scope cl C X.env) fp) ec W0 ifs mt)
    (he : ∀ (s : Shared) (H : Hp) (C : Addr) (cl : List (Str × Addr)) (fp : List Addr), XE (X.blk s H scope (compEnvC scope cl C X.env) fp) ec W0 elt me) (hs : ∀ x, foldedSetIterable iter X.env x = pure x := by intro _; rfl) :
    XE X ec W (.ListComp elt [⟨tg, iter, ifs, 0⟩] scope pos) (mLc (own.map (·.2)) t mi mt me) := imE (pe_lc (tt := rd X.K ec RelB W0 mt) (te := rd X.K ec (Rel X.K) W0 me) hc hN hi ok hg (fun s H C cl fp => hif s H C cl fp) (fun s H C cl fp => he s H C cl fp) hs) fun σ H Q h => lc_red ht h
end Rf
namespace Rf
open PySem PySem.Spec PyProof.Rows L2

variable {X : Cx} {ec : Str → Value} {W : WX}
/-! ### is -/
def gIs : G2 := fun a b S => match b with
  | .non => match a with
    | .non => some (.bl true, S)
    | _ => some (.bl false, S)
  | .bl k => match a with
    | .bl c => some (.bl (decide (c = k)), S)
    | .ty _ => none
    | _ => some (.bl false, S)
  | _ => none
theorem op_isB : OpR X (compareOp .Is) (fun x y H Q => ∃ b, y = .bl b ∧ (∀ n, x ≠ .ty n) ∧ Q (.bl (decide (x = .bl b))) H) := by
  intro pins s σ H x y v u Q I rx ry h
  obtain ⟨b, rfl, ht, q⟩ := h
  cases ry
  cases x with
  | bl c =>
    cases rx
    by_cases e : c = b
    · subst e
      exact wpAny_is_self rfl ⟨.bl true, H, I, rfl, by simpa using q⟩
    · exact wpAny_is_other rfl (fun z => e (Value.bool.inj z)) ⟨.bl false, H, I, rfl, by simpa [e] using q⟩
  | non => cases rx; exact wpAny_is_other rfl (fun z => nomatch z) ⟨.bl false, H, I, rfl, by simpa using q⟩
  | int i => obtain ⟨t, rfl⟩ := rx; exact wpAny_is_other rfl (fun z => nomatch z) ⟨.bl false, H, I, rfl, by simpa using q⟩
  | str i => obtain ⟨t, rfl⟩ := rx; exact wpAny_is_other rfl (fun z => nomatch z) ⟨.bl false, H, I, rfl, by simpa using q⟩
  | byt i => obtain ⟨t, rfl⟩ := rx; exact wpAny_is_other rfl (fun z => nomatch z) ⟨.bl false, H, I, rfl, by simpa using q⟩
  | flt i => obtain ⟨t, rfl⟩ := rx; exact wpAny_is_other rfl (fun z => nomatch z) ⟨.bl false, H, I, rfl, by simpa using q⟩
  | ref a => cases rx; exact wpAny_is_other rfl (fun z => nomatch z) ⟨.bl false, H, I, rfl, by simpa using q⟩
  | ty n => exact absurd rfl (ht n)
theorem opS_is : OpS X (compareOp .Is) gIs := ⟨_, op_isN.or op_isB, fun φ S H x y a b c S' ok ra rb e Q q => by
  cases rb with
  | non =>
    refine .inl ⟨rfl, ?_⟩
    cases ra <;> (cases e; exact q φ H _ (Ext.refl _ _ _) ok (.bl _))
  | bl k =>
    refine .inr ⟨k, rfl, ?_, ?_⟩
    · intro n z
      subst z
      cases ra
      cases e
    · cases ra <;> first
        | (cases e; refine q φ H _ (Ext.refl _ _ _) ok ?_; simp only [V.bl.injEq]; exact .bl _)
        | (cases e; refine q φ H _ (Ext.refl _ _ _) ok ?_; exact .bl _)
        | cases e
  | _ => cases e⟩

/-! ### == of what has no parts -/
def gEq : G2 := fun a b S => match a, b with
  | .int i, .int j => some (.bl (decide (i = j)), S)
  | .str i, .str j => some (.bl (decide (i = j)), S)
  | .bl i, .bl j => some (.bl (decide (i = j)), S)
  | .non, .non => some (.bl true, S)
  | .int _, .non => some (.bl false, S)
  | .non, .int _ => some (.bl false, S)
  | .int _, .str _ => some (.bl false, S)
  | .str _, .int _ => some (.bl false, S)
  | _, _ => none
theorem opS_eq : OpS X (compareOp .Eq) gEq := ⟨_, op_eq, fun φ S H x y a b c S' ok ra rb e Q q => by
  cases ra <;> cases rb <;> first
    | (cases e; done)
    | (cases e; refine ⟨rfl, q φ H _ (Ext.refl _ _ _) ok ?_⟩; simp only [V.int.injEq, V.str.injEq, V.bl.injEq]; exact .bl _)
    | (cases e; exact ⟨rfl, q φ H _ (Ext.refl _ _ _) ok (.bl _)⟩)⟩
def gNe : G2 := fun a b S => match a, b with
  | .int i, .int j => some (.bl (!decide (i = j)), S)
  | .str i, .str j => some (.bl (!decide (i = j)), S)
  | .bl i, .bl j => some (.bl (!decide (i = j)), S)
  | .non, .non => some (.bl false, S)
  | .int _, .non => some (.bl true, S)
  | .non, .int _ => some (.bl true, S)
  | .int _, .str _ => some (.bl true, S)
  | .str _, .int _ => some (.bl true, S)
  | _, _ => none
theorem opS_ne : OpS X (compareOp .NotEq) gNe := ⟨_, op_ne, fun φ S H x y a b c S' ok ra rb e Q q => by
  cases ra <;> cases rb <;> first
    | (cases e; done)
    | (cases e; refine ⟨rfl, q φ H _ (Ext.refl _ _ _) ok ?_⟩; simp only [V.int.injEq, V.str.injEq, V.bl.injEq]; exact .bl _)
    | (cases e; exact ⟨rfl, q φ H _ (Ext.refl _ _ _) ok (.bl _)⟩)⟩

/-! ### xs.append(e) -/
def mApp (mo me : M D) : M D := mB mo fun o ρ S => match o with
  | .ref i => match S[i]? with
    | some (.lst _) => (mB me fun d _ S2 => match S2[i]? with
      | some (.lst xs) => if xs.length < 1000000 then some (.val .non (S2.set i (.lst (xs ++ [d])))) else none
      | _ => none) ρ S
    | _ => none
  | _ => none
theorem x_app {o e : Expr} {mo me : M D} {apos cpos : Pos} (ho : XE X ec W o mo) (he : XE X ec W e me) (hbase : attributeBase o "append" X.env (eval o X.env) = eval o X.env := by rfl)
    (hfew : ((backTo cpos (starEach (e :: []) X.env)).all (fun x => !x.1) && (backToKw cpos (keywordEach [] X.env)).all (fun x => x.1.isSome) && decide ((e :: []).length + ([] : List Keyword).length + (if ([] : List Keyword).isEmpty then 0 else 1) < 30)) = true := by rfl)
    (hline : (apos.endLine == cpos.line) = true := by rfl) (hs : starEach (e :: []) X.env = (false, eval e X.env) :: starEach [] X.env := by rfl) (hplain : (backTo cpos (starEach [] X.env)).any (·.1) = false := by rfl) :
    XE X ec W (.Call (.Attribute o "append" apos) [e] [] cpos) (mApp mo me) :=
  imE (pe_bm PySem.F.plainAttrs_list PySem.F.slot_list_append PySem.F.type_list_append mt_append ho (pa_cons he pa_nil hs) hbase hfew hline hs hplain) fun σ H Q h => by
  obtain ⟨φ, S, ρ, c⟩ := Cf.start h
  refine rd_imp (c.bind (rel1 := Rel X.K) monoC_true) fun x H1 ⟨φ1, S1, a, ra, c1⟩ => ?_
  obtain ⟨r, e, q⟩ := c1.run
  cases ra with
  | @ref i hi =>
    dsimp only at e
    split at e
    · rename_i xs0 hx0
      obtain ⟨us0, h0, r0⟩ := c1.ok.lst hx0
      refine ⟨.inl ⟨rfl, us0, SqL.of h0⟩, ?_⟩
      have c2 : Cf X.K ec (Rel X.K) W (fun φ n H => Rel X.K φ n H (.ref (φ1 i)) (.ref i)) φ1 S1 ρ σ H1 Q ((mB me fun d _ S2 => match S2[i]? with
        | some (.lst xs) => if xs.length < 1000000 then some (.val .non (S2.set i (.lst (xs ++ [d])))) else none
        | _ => none) ρ) := ⟨c1.ok, c1.env, .ref hi, r, e, q⟩
      refine rd_imp (c2.bind (rel1 := Rel X.K) monoC_rel) fun y H2 ⟨φ2, S2, d, rd2, c3⟩ => ?_
      obtain ⟨r3, e3, q3⟩ := c3.run
      have cr := c3.car
      have ea : φ1 i = φ2 i ∧ i < S2.length := by
        generalize hz : V.ref (φ1 i) = z at cr
        cases cr with
        | ref h => exact ⟨V.ref.inj hz, h⟩
      split at e3
      · rename_i xs hx
        split at e3
        · rename_i hsz
          cases e3
          obtain ⟨us, h1, r1⟩ := c3.ok.lst hx
          refine ⟨φ1 i, us, y, rfl, rfl, by rw [ea.1]; exact h1, by rw [r1.len]; exact Nat.lt_of_lt_of_le hsz (by decide), ?_⟩
          rw [ea.1]
          refine q3 φ2 _ .non ?_ (c3.ok.put ea.2 (nfL h1) (.lst (r1.app (.cons rd2 .nil)))) .non
          rw [List.length_set]
          exact ext_put c3.ok ea.2 (nfL h1)
        · cases e3
      · cases e3
    · cases e
  | _ => cases e

/-! ### x op= e -/
def giAdd : G2 := gI (fun _ _ => true) fun i j => .int (i + j)
def giSub : G2 := gI (fun _ _ => true) fun i j => .int (i - j)
/-! ### a def -/
def fnOf (n : Nat) (m : MS) : List D → Sto → Option (R D) := fun ds S => match m (ds.map some ++ List.replicate (n - ds.length) none) S with
  | some (.nx _ S') => some (.val .non S')
  | some (.ret d S') => some (.val d S')
  | some (.exc c _ S') => some (.exc c S')
  | _ => none
theorem start_rel {K : PySem.W.Frag} {φ : Nat → Addr} {n : Nat} {H : Hp} {N : List Str} {vs : List V} {ds : List D} (r : Rels K φ n H vs ds) : RelE K φ n H (ds.map some ++ List.replicate (N.length - ds.length) none) (L2.start N vs) := by
  refine ⟨?_, fun i d h => ?_⟩
  · unfold L2.start
    rw [List.length_append, List.length_append, List.length_map, List.length_map, List.length_replicate, List.length_replicate, r.len]
  · have hi : i < ds.length := by
      by_cases c : i < ds.length
      · exact c
      · rw [List.getElem?_append_right (by rw [List.length_map]; omega), List.getElem?_replicate] at h
        split at h <;> cases h
    rw [List.getElem?_append_left (by rw [List.length_map]; exact hi), List.getElem?_map] at h
    cases e : ds[i]? with
    | none => rw [e] at h; cases h
    | some d' =>
      rw [e] at h
      cases h
      obtain ⟨v, hv, rv⟩ := r.get i e
      refine ⟨v, ?_, rv⟩
      unfold L2.start
      rw [List.getElem?_append_left (by rw [List.length_map, r.len]; exact hi), List.getElem?_map, hv]
      rfl
section
variable {P : Program} {w : World} {K : PySem.W.Frag} {mg : Str → Option Value} {base : Heap}
abbrev bodyX (P : Program) (w : World) (K : PySem.W.Frag) (mg : Str → Option Value) (base : Heap) (N : List Str) (qual : Str) (st : Stmt) (f : Addr) (cdv : Value) (A : Around) (outer : List PySem.Env) (s : Shared) (H : Hp) (E : XK) : Cx := cxOf (L2.CX P w) P w K mg base N qual (defScope st) f cdv A outer s H E
theorem fn_ok {x qual : Str} {st : Stmt} {f : Addr} {fd : FuncData} {N ps : List Str} {k n : Nat} {m : MS} (F : Fun K x qual st f fd) (Sc : FnScope N ps (defScope st)) (hn : N.length = n)
    (hb : ∀ (cdv : Value) (A : Around) (outer : List PySem.Env) (s : Shared) (H : Hp) (E : XK), Room k (bodyX P w K mg base N qual st f cdv A outer s H E).A → XSs (bodyX P w K mg base N qual st f cdv A outer s H E) ec (fun cls d _ H => E cls d H) (defBody st) m) :
    FnOk P w K mg base (L2.CX P w) (k + 1) f fd ps (spF K ec ps.length (fnOf n m)) := by
  subst hn
  refine F.okX Sc (fun vs H Q E h => ?_) (fun cdv A outer s H vs Q E hr h => ⟨_, hb cdv A outer s H E hr, ?_⟩)
  · obtain ⟨_, _, _, _, _, hl, _⟩ := h
    exact hl
  · obtain ⟨φ, S, ds, ok, rs, hl, r, e, q⟩ := h
    unfold fnOf at e
    refine ⟨φ, S, _, ok, start_rel (N := N) rs, ?_⟩
    split at e
    · rename_i ρ' S' e1
      cases e
      exact ⟨_, e1, fun φ' H' σ' ex ok' env' => q φ' H' .non ex ok' .non⟩
    · rename_i d S' e1
      cases e
      exact ⟨_, e1, q⟩
    · rename_i c ρ' S' e1
      cases e
      exact ⟨_, e1, fun φ' H' σ' ex ok' env' => q φ' H' ex ok'⟩
    · cases e
/-- a def of which nothing is known -/
theorem fn_none {f : Addr} {fd : FuncData} {ps : List Str} {k n : Nat} : FnOk P w K mg base (L2.CX P w) k f fd ps (spF K ec n fun _ _ => none) := by
  refine ⟨fun vs H Q E h => ?_, fun A outer s H args us vs Q E hr e0 hb hv h => ?_⟩
  · obtain ⟨_, _, _, _, _, _, _, e, _⟩ := h
    cases e
  · obtain ⟨_, _, _, _, _, _, _, e, _⟩ := h
    cases e
end
/-- raise C('..') -/
def sRaise (c : Str) : MS := fun ρ S => some (.exc c ρ S)
theorem x_raise {e : Expr} {x : Str} {v : Value} {pos : Pos} (hc : X.calm = true) (tk : Takes X W) (h : PMk X e (fun _ H Q => Q v none H)) (hv : ec x = v) : XS X ec W (.Raise (some e) none pos) (sRaise x) := imS (ps_raise hc tk h) fun D σ H h => by
  obtain ⟨φ, S, ρ, ok, env, r, e, q⟩ := h
  cases e
  have := q φ H σ (Ext.refl _ _ _) ok env
  rw [hv] at this
  exact this
end Rf
namespace Rf
open PySem PySem.Spec PyProof.Rows L2
variable {X : Cx} {ec : Str → Value} {W : WX}
/-! ### is not -/
/-! ### x.bit_length() -/
/-! ### tuples of the module -/
end Rf
namespace Rf
open PySem PySem.Spec PyProof.Rows L2
section
variable {X : Cx}
/-! ### texts repeated, texts to ints -/
theorem inv_tok {pins : List (Addr × Obj)} {σ : L2.St} {H : Hp} {s : Shared} {k : Nat} (h : Inv X pins σ H s) : Inv X pins σ H { heap := s.heap, gens := s.gens, drawn := s.drawn, toks := k, os := s.os } := by
  cases h
  constructor <;> assumption
theorem op_mul_str : OpR X (binaryOp .Mult) (fun x y H Q => ∃ a n, x = V.str a ∧ y = V.int n ∧ MulOk a n ∧ Q (V.str (Txt.mul a n)) H) := by
  intro pins s σ H x y v u Q inv rx ry h
  obtain ⟨a, n, rfl, rfl, ok, q⟩ := h
  obtain ⟨t, rfl⟩ := rx
  obtain ⟨t', rfl⟩ := ry
  exact SB.mul ok fun t k => ⟨V.str (Txt.mul a n), H, inv_tok inv, ⟨t, rfl⟩, q⟩
theorem mulok1 {a : Str} {n : Int} (h : a.length = 1) (hn : n.natAbs ≤ 1000) : MulOk a n := by
  refine ⟨?_, fun h1 h2 => ?_, fun h1 h2 => ?_⟩
  · rw [Bool.or_eq_false_iff]
    exact ⟨decide_eq_false (by omega), decide_eq_false (by omega)⟩
  · rw [h]
    have : (1 : Int) ≤ (2 ^ 63 - 1) / n := Int.le_ediv_of_mul_le (by omega) (by omega)
    omega
  · rw [h]
    unfold Builtin.Str.tooLong
    refine decide_eq_false ?_
    have : sizeLine = sizeLine := rfl
    have k : (1000 : Nat) < sizeLine := by decide
    omega
def gRep : G2 := fun a b S => match a, b with
  | .str x, .int n => if decide (x.length = 1) && decide (n.natAbs ≤ 1000) then some (.str (Txt.mul x n), S) else none
  | _, _ => none
theorem opS_rep : OpS X (binaryOp .Mult) gRep := by
  refine ⟨_, op_mul_str, fun φ S H x y a b d S' ok ra rb e Q q => ?_⟩
  unfold gRep at e
  split at e
  · split at e
    · rename_i i j h
      cases e
      cases ra
      cases rb
      rw [Bool.and_eq_true] at h
      exact ⟨i, j, rfl, rfl, mulok1 (of_decide_eq_true h.1) (of_decide_eq_true h.2), q φ H _ (Ext.refl _ _ _) ok (.str _)⟩
    · cases e
  · cases e
def gMulT : G2 := orG gMul gRep
theorem opS_mulT : OpS X (binaryOp .Mult) gMulT := opS_mul.or opS_rep
def gIntS : GN := fun as S => match as with
  | [.str a] => if a.length ≤ 640 then (intText? a).map fun n => (.int n, S) else none
  | _ => none
theorem callS_intS : CallS X (.type "int") gIntS := ⟨_, call_int_str, fun φ S H xs as c S' ok ra e Q q => by
  unfold gIntS at e
  split at e
  · rename_i a
    split at e
    · rename_i h
      cases hn : intText? a with
      | none => rw [hn] at e; cases e
      | some n =>
        rw [hn] at e
        cases e
        cases ra with
        | cons r t =>
          cases r
          cases t
          exact ⟨_, n, rfl, hn, h, q φ H _ (Ext.refl _ _ _) ok (.int _)⟩
    · cases e
  · cases e⟩
def gIntT : GN := fun as S => match gInt as S with
  | some z => some z
  | none => gIntS as S
theorem callS_intT : CallS X (.type "int") gIntT := callS_int.or callS_intS
/-- the ints of 1 and some 0s -/
theorem ten_text : ∀ n : Fin 40, ∃ m : Nat, intText? (Str.ofString "1" ++ Txt.mul (Str.ofString "0") (n.val : Int)) = some (m : Int) ∧ m < 2 ^ 140 ∧ (Str.ofString "1" ++ Txt.mul (Str.ofString "0") (n.val : Int)).length ≤ 640 := by
  intro n
  refine ⟨10 ^ n.val, ?_⟩
  revert n
  decide +kernel
end
end Rf
namespace Rf
open PySem PySem.Spec PyProof.Rows L2
/-- try, with one class -/
def sTry (b : MS) (x : Str) (h : MS) : MS := fun ρ S => match b ρ S with
  | some (.exc c ρ' S') => if c = x then h ρ' S' else none
  | r => r
theorem exm_self {K : PySem.W.Frag} {S : Addr} (h1 : PySem.W.subIn K (.ref S) (.type "BaseException") = some true) (h2 : PySem.W.isClsIn K S = true) (h3 : PySem.W.typeIn K (.ref S) = some (.type "type")) (h4 : PySem.W.subIn K (.ref S) (.ref S) = some true) :
    PySem.W.exmOne K (.ref S) (.ref S) = some true := by
  have e1 : (PySem.W.subIn K (.ref S) (.type "BaseException") == some true) = true := by rw [h1] <;> rfl
  have e2 : ((PySem.W.clsIn K S).isSome && PySem.W.typeIn K (.ref S) == some (.type "type")) = true := by
    have h2' : (PySem.W.clsIn K S).isSome = true := h2
    rw [h2', h3] <;> rfl
  show (if (PySem.W.subIn K (.ref S) (.type "BaseException") == some true) = true then (if ((PySem.W.clsIn K S).isSome && PySem.W.typeIn K (.ref S) == some (.type "type")) = true then PySem.W.subIn K (.ref S) (.ref S) else none) else none) = some true
  rw [if_pos e1, if_pos e2]
  exact h4
theorem x_try {X : Cx} {ec : Str → Value} {W : WX} {x : Str} {c : Value} {body suite : List Stmt} {b₀ : Stmt} {np pos pos' : Pos} {b h : MS} (hs : X.stack = X.env :: X.outer) (hf : X.env.frame = some X.env.locals) (hc : Names X x c) (tk : Takes X W) (hec : ec x = c)
    (hm : PySem.W.exmOne X.K c c = some true)
    (hb : ∀ (W' : WX) (pn : List (Addr × Obj)) (xe : Value → Shared → Prop), Takes (X.tr pn xe) W' → PassesOwn (model X.prog X.w) X.A X.env xe → XSs (X.tr pn xe) ec W' body b)
    (hh : ∀ (a : Addr) (oe : Obj) (cls : Value) (d : Option Addr) (pn : List (Addr × Obj)), Zc cls d oe → (∃ vs, oe.data = Data.fields vs) → XSs (X.suite a ((a, oe) :: pn)) ec W (b₀ :: suite) h) :
    XS X ec W (.Try body [.ExceptHandler (some (.Name x np)) none (b₀ :: suite) pos'] [] [] pos) (sTry b x h) := by
  refine imS (ps_try_only (tb := fun W' => rdS X.K ec W' b) (ts := fun _ _ _ => rdS X.K ec W h) (Wout := W) hs hf hc tk (fun W' pn xe t p => hb W' pn xe t p) (fun a oe cls d pn z v => hh a oe cls d pn z v)) fun D σ H q => ?_
  obtain ⟨φ, S, ρ, ok, env, r, e, k⟩ := q
  refine ⟨φ, S, ρ, ok, env, ?_⟩
  unfold sTry at e
  split at e
  · rename_i c1 ρ' S' e1
    split at e
    · rename_i hx
      subst hx
      refine ⟨_, e1, fun φ' H' σ' ex ok' env' => ⟨true, by rw [hec]; exact hm, fun _ a _ => ?_, fun z => nomatch z⟩⟩
      exact ⟨φ', S', ρ', ok', env', r, e, k.ext ex⟩
    · cases e
  · rename_i hn
    refine ⟨r, e, ?_⟩
    cases r with
    | exc c1 ρ' S' => exact absurd e (fun y => hn _ _ _ y)
    | nx ρ' S' => exact k
    | ret d S' => exact k
    | brk ρ' S' => exact k
    | cnt ρ' S' => exact k
end Rf
namespace Rf
open PySem PySem.Spec PyProof.Rows L2
/-! ### classes as values -/
section
variable {X : Cx} {ec : Str → Value} {W : WX}
/-! ### slices of lists, empty dicts -/
def cutD (xs : List D) (lo hi : Option Int) : List D := List.take (HT.sIx xs.length xs.length hi - HT.sIx xs.length 0 lo) (List.drop (HT.sIx xs.length 0 lo) xs)
def lstOf (S : Sto) : D → Option (List D)
  | .fro xs => some xs
  | .ref i => match S[i]? with
    | some (.lst xs) => some xs
    | _ => none
  | _ => none
def mDct0 : M D := fun _ S => some (.val (.ref S.length) (S ++ [.dct []]))
/-- a call without arguments, of a def that raises nothing -/
def mCall0 (F : List D → Sto → Option (R D)) : M D := fun _ S => match F [] S with
  | some (.val d S') => some (.val d S')
  | _ => none
end
end Rf
namespace Rf
open PySem PySem.Spec PyProof.Rows L2
/-! ### == of tuples and lists, by what is in them -/
section
variable {X : Cx}
end
end Rf
namespace Rf
open PySem PySem.Spec PyProof.Rows L2
/-! ### a dict == a tuple -/
section
variable {X : Cx}
end
end Rf
namespace Rf
open PySem PySem.Spec PyProof.Rows L2
section
variable {X : Cx} {ec : Str → Value} {W : WX}
/-! ### xs[:b] and xs[a:] of lists -/
end
end Rf
namespace Rf
open PySem PySem.Spec PyProof.Rows L2
/-! ### dicts whose keys are tuples of ints -/
def keyI : D → Option Key
  | .int i => some (.inl i)
  | _ => none
def keysD : List D → Option (List Key)
  | [] => some []
  | x :: xs => (keyI x).bind fun k => (keysD xs).map fun ks => k :: ks
def keyD : D → Option (List Key)
  | .tup xs => keysD xs
  | _ => none
def valD (kvs : List (List Key × D)) (k : List Key) : Option D := (kvs.find? fun kv => decide (kv.1 = k)).map (·.2)
def putD (kvs : List (List Key × D)) (k : List Key) (d : D) : List (List Key × D) :=
  if (kvs.any fun kv => decide (kv.1 = k)) = true then kvs.map (fun kv => if kv.1 = k then (kv.1, d) else kv) else kvs ++ [(k, d)]
def dctOf (S : Sto) : D → Option (List (List Key × D))
  | .ref i => match S[i]? with
    | some (.dct kvs) => some kvs
    | _ => none
  | _ => none
def refOf : D → Nat
  | .ref i => i
  | _ => 0
def dctOfR (S : Sto) : D → Option (List (List Key × D))
  | .ref i => match S[i]? with
    | some (.dct kvs) => some kvs
    | some (.dcl kvs) => some kvs
    | _ => none
  | _ => none
def dctGet (S : Sto) (o k : D) : Option (Option D) := (dctOfR S o).bind fun kvs => (keyD k).map fun ks => valD kvs ks
section
variable {K : PySem.W.Frag} {φ : Nat → Addr} {S : Sto} {H : Hp} {n : Nat}
end
section
variable {X : Cx} {ec : Str → Value} {W : WX}
def mDGet (mo mk : M D) : M D := mB mo fun o => mB mk fun k _ S => match dctGet S o k with
  | some (some d) => some (.val d S)
  | _ => none
def mDGet2 (mo mk mx : M D) : M D := mB mo fun o ρ S => match dctOf S o with
  | some _ => (mB mk fun k => mB mx fun x _ S => match dctGet S o k with
    | some (some d) => some (.val d S)
    | some none => some (.val x S)
    | none => none) ρ S
  | none => none
/-- k in d -/
def mDIn (neg : Bool) (mk mo : M D) : M Bool := mB mk fun k => mB mo fun o _ S => match dctGet S o k with
  | some r => some (.val (r.isSome != neg) S)
  | none => none
/-- d[k] = v -/
def sDPut (mo mk mv : M D) : MS := sB mv fun v => sB mo fun o => sB mk fun k ρ S => match dctOf S o, keyD k with
  | some kvs, some ks => if kvs.length < 1000000 then some (.nx ρ (S.set (refOf o) (.dct (putD kvs ks v)))) else none
  | _, _ => none
end
end Rf
namespace Rf
open PySem PySem.Spec PyProof.Rows L2
/-! ### sorted(d), the keys tuples of ints -/
/-! ### the order of the data is that of the codes -/
section
variable {X : Cx}
end
end Rf
namespace Rf
open PySem PySem.Spec PyProof.Rows L2
/-! ### lists of ints in order -/
def lexLt : List Int → List Int → Bool
  | _, [] => false
  | [], _ :: _ => true
  | x :: xs, y :: ys => decide (x < y) || (decide (x = y) && lexLt xs ys)
def insL (x : List Int) : List (List Int) → List (List Int)
  | [] => [x]
  | y :: ys => if lexLt y x then y :: insL x ys else x :: y :: ys
def sortL (l : List (List Int)) : List (List Int) := l.foldr insL []
theorem lex_code {B : Int} : ∀ {n m : List Int}, n.length = m.length → TS.Bd B n → TS.Bd B m → (lexLt n m = true ↔ TS.code B n < TS.code B m)
  | [], [], _, _, _ => ⟨fun h => (by cases h), fun h => absurd h (Int.lt_irrefl _)⟩
  | [], _ :: _, h, _, _ => by cases h
  | _ :: _, [], h, _, _ => by cases h
  | x :: xs, y :: ys, h, h1, h2 => by
    have hl : xs.length = ys.length := by simpa using h
    have ih := lex_code hl h1.tail h2.tail
    unfold lexLt
    rcases Int.lt_trichotomy x y with c | c | c
    · have := TS.code_lt hl h1.tail h2.tail c
      simp [c, this]
    · subst c
      simp only [Int.lt_irrefl, decide_false, Bool.false_or, decide_true, Bool.true_and]
      rw [ih, TS.code_same hl]
    · have := TS.code_lt hl.symm h2.tail h1.tail c
      have n1 : ¬ x < y := by omega
      have n2 : ¬ x = y := by omega
      simp only [n1, n2, decide_false, Bool.false_or, Bool.false_and]
      exact ⟨fun z => (by cases z), fun z => by omega⟩
theorem code_inj {B : Int} : ∀ {n m : List Int}, n.length = m.length → TS.Bd B n → TS.Bd B m → TS.code B n = TS.code B m → n = m
  | [], [], _, _, _, _ => rfl
  | [], _ :: _, h, _, _, _ => by cases h
  | _ :: _, [], h, _, _, _ => by cases h
  | x :: xs, y :: ys, h, h1, h2, e => by
    have hl : xs.length = ys.length := by simpa using h
    rcases Int.lt_trichotomy x y with c | c | c
    · have := TS.code_lt hl h1.tail h2.tail c
      omega
    · subst c
      rw [code_inj hl h1.tail h2.tail]
      have a := TS.code_same (B := B) (d := x) hl
      have b := TS.code_same (B := B) (d := x) hl.symm
      omega
    · have := TS.code_lt hl.symm h2.tail h1.tail c
      omega
theorem perm_ins (x : List Int) : ∀ l : List (List Int), (insL x l).Perm (x :: l)
  | [] => List.Perm.refl _
  | y :: ys => by
    unfold insL
    split
    · exact ((perm_ins x ys).cons y).trans (List.Perm.swap x y ys)
    · exact List.Perm.refl _
theorem perm_sort : ∀ l : List (List Int), (sortL l).Perm l
  | [] => List.Perm.refl _
  | x :: l => (perm_ins x (sortL l)).trans ((perm_sort l).cons x)
section
variable {d : Nat} {B : Int}
def LOk (d : Nat) (B : Int) (l : List (List Int)) : Prop := ∀ n ∈ l, n.length = d ∧ TS.Bd B n
theorem ins_sorted {x : List Int} (hx : x.length = d ∧ TS.Bd B x) : ∀ {l : List (List Int)}, LOk d B l → l.Pairwise (fun n m => TS.code B n ≤ TS.code B m) → (insL x l).Pairwise (fun n m => TS.code B n ≤ TS.code B m)
  | [], _, _ => by simp [insL]
  | y :: ys, h, hp => by
    unfold insL
    have hy := h y List.mem_cons_self
    rw [List.pairwise_cons] at hp
    by_cases c : lexLt y x = true
    · rw [if_pos c, List.pairwise_cons]
      have c' := (lex_code (hy.1.trans hx.1.symm) hy.2 hx.2).mp c
      refine ⟨fun m hm => ?_, ins_sorted hx (fun n hn => h n (List.mem_cons_of_mem _ hn)) hp.2⟩
      rcases List.mem_cons.mp ((perm_ins x ys).mem_iff.mp hm) with rfl | hm
      · omega
      · exact hp.1 m hm
    · rw [if_neg c, List.pairwise_cons]
      have c' : ¬ TS.code B y < TS.code B x := fun z => c ((lex_code (hy.1.trans hx.1.symm) hy.2 hx.2).mpr z)
      refine ⟨fun m hm => ?_, List.pairwise_cons.mpr hp⟩
      rcases List.mem_cons.mp hm with rfl | hm
      · omega
      · have := hp.1 m hm
        omega
theorem sort_sorted : ∀ {l : List (List Int)}, LOk d B l → (sortL l).Pairwise (fun n m => TS.code B n ≤ TS.code B m)
  | [], _ => List.Pairwise.nil
  | x :: l, h => ins_sorted (h x List.mem_cons_self) (fun n hn => h n (List.mem_cons_of_mem _ ((perm_sort l).mem_iff.mp hn))) (sort_sorted fun n hn => h n (List.mem_cons_of_mem _ hn))
end
section
variable {X : Cx} {ec : Str → Value} {W : WX}
/-! ### lcm -/
set_option exponentiation.threshold 20000
end
end Rf
namespace Rf
open PySem PySem.Spec PyProof.Rows L2
/-! ### zip, enumerate -/
section
variable {K : PySem.W.Frag} {φ : Nat → Addr} {S : Sto} {H : Hp}
end
section
variable {X : Cx} {ec : Str → Value} {W : WX}
end
end Rf
set_option maxHeartbeats 4000000
namespace Rf
open PySem PySem.Spec PyProof.Rows L2
/-! ### tuples of ints compared -/
def tupOf : D → Option (List D)
  | .tup xs => some xs
  | .kt xs => some xs
  | _ => none
section
variable {X : Cx} {ec : Str → Value} {W : WX}
/-! ### a tuple repeated -/
end
end Rf
namespace Rf
open PySem PySem.Spec PyProof.Rows L2
section
variable {X : Cx} {ec : Str → Value} {W : WX}
/-! ### xs[i] = v -/
def lstR (S : Sto) : D → Option (List D)
  | .ref i => match S[i]? with
    | some (.lst xs) => some xs
    | _ => none
  | _ => none
def intD : D → Option Int
  | .int i => some i
  | _ => none
theorem intD_rel {K : PySem.W.Frag} {φ : Nat → Addr} {n : Nat} {H : Hp} {d : D} {v : V} {k : Int} (e : intD d = some k) (r : Rel K φ n H v d) : v = .int k := by
  cases r with
  | int i => cases e; rfl
  | _ => cases e
def sLPut (mo mi mv : M D) : MS := sB mv fun v => sB mo fun o => sB mi fun i ρ S => match lstR S o, intD i with
  | some xs, some k => match ixN xs.length k with
    | some j => some (.nx ρ (S.set (refOf o) (.lst (xs.set j v))))
    | none => none
  | _, _ => none
theorem Rels.set {K : PySem.W.Frag} {φ : Nat → Addr} {n : Nat} {H : Hp} {v : V} {d : D} (r : Rel K φ n H v d) : ∀ {us : List V} {xs : List D} (j : Nat), Rels K φ n H us xs → Rels K φ n H (us.set j v) (xs.set j d)
  | _, _, _, .nil => .nil
  | _, _, 0, .cons _ t => .cons r t
  | _, _, j + 1, .cons h t => .cons h (Rels.set r j t)
end
/-! ### {k: v} -/
section
variable {prog : Program} {w : World} {K : Type} [DecidableEq K] {knd : HeapKind prog w K} {A : Around} {E : Value → Shared → Prop} {s : Shared}
end
section
variable {X : Cx} {ec : Str → Value} {W : WX}
def mDct1 (mk mv : M D) : M D := fun ρ S => (mB mk fun k => mB mv fun v _ S2 => match keyD k, S2[S.length]? with
  | some ks, some (.dct []) => some (.val (.ref S.length) (S2.set S.length (.dct [(ks, v)])))
  | _, _ => none) ρ (S ++ [.dct []])
end
end Rf
namespace Rf
open PySem PySem.Spec PyProof.Rows L2
end Rf
namespace Rf
open PySem PySem.Spec PyProof.Rows L2
/-! ### slices of tuples and lists -/
def slD (S : Sto) (a : D) (lo hi : Option Int) : Option (D × Sto) := match tupOf a with
  | some xs => if isKt a then none else some (.tup (Rf.cutD xs lo hi), S)
  | none => (lstOf S a).map fun xs => (.ref S.length, S ++ [.lst (Rf.cutD xs lo hi)])
section
variable {X : Cx} {ec : Str → Value} {W : WX}
def mSx2 (m ml mh : M D) : M D := mB m fun a => mB ml fun l => match intD l with
  | some i => mB mh fun h _ S => match intD h with
    | some j => match slD S a (some i) (some j) with
      | some (d, S') => some (.val d S')
      | none => none
    | none => none
  | none => fun _ _ => none
def mSxH (m mh : M D) : M D := mB m fun a => mB mh fun h _ S => match intD h with
  | some j => match slD S a none (some j) with
    | some (d, S') => some (.val d S')
    | none => none
  | none => none
def mSxL (m ml : M D) : M D := mB m fun a => mB ml fun h _ S => match intD h with
  | some j => match slD S a (some j) none with
    | some (d, S') => some (.val d S')
    | none => none
  | none => none
end
end Rf
namespace Rf
open PySem PySem.Spec PyProof.Rows L2
/-! ### all(list of booleans) -/
section
variable {X : Cx} {ec : Str → Value} {W : WX}
end
end Rf
namespace Rf
open PySem PySem.Spec PyProof.Rows L2
/-! ### comprehensions with two `for` -/
section
variable {X : Cx} {ec : Str → Value} {W : WX}
end
end Rf
namespace Rf
open PySem PySem.Spec PyProof.Rows L2
section
variable {X : Cx} {ec : Str → Value} {W : WX}
end
end Rf
namespace Rf
open PySem PySem.Spec PyProof.Rows L2
section
variable {X : Cx} {ec : Str → Value} {W : WX}
end
end Rf
namespace Rf
open PySem PySem.Spec PyProof.Rows L2 HT
/-! ### t[::-1] -/
section
variable {prog : Program} {w : World} {A : Around} {E : Value → Shared → Prop} {s : Shared}
end
/-! ### xs[::-1] of a list or a tuple -/
section
variable {X : Cx} {ec : Str → Value} {W : WX}
end
/-! ### max, sum -/
section
variable {X : Cx} {ec : Str → Value} {W : WX}
/-! ### max(xs, default=d) -/
end
end Rf
namespace Rf
open PySem PySem.Spec PyProof.Rows L2
/-! ### enumerate(tuple) -/
section
variable {prog : Program} {w : World} {A : Around} {E : Value → Shared → Prop} {s : Shared}
end
section
variable {X : Cx} {ec : Str → Value} {W : WX}
end
/-! ### == of ints or of data -/
end Rf
namespace Rf
open PySem PySem.Spec PyProof.Rows L2
/-! ### texts -/
def gStr : GN := fun as S => match as with
  | [.int i] => if i.natAbs.log2 < 1920 then some (.str (toString i), S) else none
  | _ => none
def gFmt : G1 := fun a S => match a with
  | .str y => if y.length ≤ 1000000 then some (.str y, S) else none
  | .int i => if i.natAbs.log2 < 1920 then some (.str (toString i), S) else none
  | _ => none
def mJs : List (M D) → Str → M D
  | [], acc => mRet (.str acc)
  | m :: ms, acc => mB m fun d => match d with
    | .str y => if (acc ++ y).length ≤ 1000000 then mJs ms (acc ++ y) else fun _ _ => none
    | _ => fun _ _ => none
section
variable {X : Cx} {ec : Str → Value} {W : WX}
theorem callS_str : CallS X (.type "str") gStr := ⟨_, call_str_int, fun φ S H xs as c S' ok ra e Q q => by
  unfold gStr at e
  split at e
  · split at e
    · rename_i h
      cases e
      cases ra with
      | cons r t => cases r; cases t; exact ⟨_, rfl, h, q φ H _ (Ext.refl _ _ _) ok (.str _)⟩
    · cases e
  · cases e⟩
theorem x_fmt {e : Expr} {m : M D} {pos : Pos} (he : XE X ec W e m) : XE X ec W (.FormattedValue e (-1) none pos) (mUn gFmt m) := imE (pe_fmt he) fun σ H Q h => by
  obtain ⟨φ, S, ρ, c⟩ := Cf.start h
  refine rd_imp (c.bind (rel1 := Rel X.K) monoC_true) fun x H1 ⟨φ1, S1, a, ra, c1⟩ => ?_
  obtain ⟨r', e, q⟩ := c1.run
  cases hg : gFmt a S1 with
  | none => rw [hg] at e; cases e
  | some p =>
    obtain ⟨d, S'⟩ := p
    rw [hg] at e
    cases e
    unfold gFmt at hg
    split at hg
    · split at hg
      · rename_i y hy
        cases hg
        cases ra
        exact .inl ⟨y, rfl, szl hy, q φ1 H1 _ (Ext.refl _ _ _) c1.ok (.str _)⟩
      · cases hg
    · split at hg
      · rename_i i hi
        cases hg
        cases ra
        exact .inr ⟨i, rfl, hi, q φ1 H1 _ (Ext.refl _ _ _) c1.ok (.str _)⟩
      · cases hg
    · cases hg
inductive XJ (X : Cx) (ec : Str → Value) (W : WX) : List Expr → List (M D) → Prop where
  | nil : XJ X ec W [] []
  | cons {e : Expr} {m : M D} {es : List Expr} {ms : List (M D)} (h : XE X ec W e m) (r : XJ X ec W es ms) : XJ X ec W (e :: es) (m :: ms)
theorem XJ.pj {es : List Expr} {ms : List (M D)} (h : XJ X ec W es ms) : PJ X es (ms.map fun m => rd X.K ec (Rel X.K) W m) := by
  induction h with
  | nil => exact .nil
  | cons h r ih => exact .cons h ih
theorem js_rd : ∀ (ms : List (M D)) (acc : Str) (σ : L2.St) (H : Hp) (Q : VK), rd X.K ec (Rel X.K) W (mJs ms acc) σ H Q → tJs (ms.map fun m => rd X.K ec (Rel X.K) W m) acc σ H fun out H1 => Q (.str out) H1
  | [], acc, σ, H, Q, h => rd_ret (fun _ _ _ => .str acc) h
  | m :: ms, acc, σ, H, Q, h => by
    obtain ⟨φ, S, ρ, c⟩ := Cf.start h
    show rd X.K ec (Rel X.K) W m σ H _
    refine rd_imp (c.bind (rel1 := Rel X.K) monoC_true) fun x H1 ⟨φ1, S1, a, ra, c1⟩ => ?_
    cases ra with
    | str y =>
      by_cases hl : (acc ++ y).length ≤ 1000000
      · refine ⟨y, rfl, szl hl, js_rd ms (acc ++ y) σ H1 Q ?_⟩
        have := c1.rest
        dsimp only at this
        rw [if_pos hl] at this
        exact this
      · obtain ⟨r', e, q⟩ := c1.run
        dsimp only at e
        rw [if_neg hl] at e
        cases e
    | _ =>
      obtain ⟨r', e, q⟩ := c1.run
      cases e
theorem x_joined {v1 v2 : Expr} {rest : List Expr} {ms : List (M D)} {pos : Pos} (h : XJ X ec W (v1 :: v2 :: rest) ms) : XE X ec W (.JoinedStr (v1 :: v2 :: rest) pos) (mJs ms Str.empty) := imE (pe_joined h.pj) fun σ H Q h => js_rd ms _ σ H Q h
end
/-! ### reversed(list or tuple) -/
section
variable {K : PySem.W.Frag} {φ : Nat → Addr} {S : Sto} {H : Hp}
end
section
variable {X : Cx} {ec : Str → Value} {W : WX}
/-! ### += of texts -/
end
end Rf
namespace Rf
open PySem PySem.Spec PyProof.Rows L2
/-! ### xs.pop() -/
theorem Rels.dropLast {K : PySem.W.Frag} {φ : Nat → Addr} {n : Nat} {H : Hp} : ∀ {xs : List V} {ds : List D}, Rels K φ n H xs ds → Rels K φ n H xs.dropLast ds.dropLast
  | _, _, .nil => .nil
  | _, _, .cons r .nil => .nil
  | _, _, .cons r (.cons r' t) => .cons r (Rels.dropLast (.cons r' t))
section
variable {X : Cx} {ec : Str → Value} {W : WX}
/-! ### range(a, b, -1) -/
/-! ### xs[i] op= e -/
end
end Rf
namespace Rf
open PySem PySem.Spec PyProof.Rows L2
/-! ### d.setdefault(k, x), keys tuples -/
section
variable {X : Cx} {ec : Str → Value} {W : WX}
end
end Rf
namespace Rf
open PySem PySem.Spec PyProof.Rows L2
section
variable {X : Cx} {ec : Str → Value} {W : WX}
/-! ### x not in a list of data -/
/-! ### a < b < c -/
end
end Rf
namespace Rf
open PySem PySem.Spec PyProof.Rows L2
section
variable {X : Cx}
/-! ### comb -/
end
end Rf
namespace Rf
open PySem PySem.Spec PyProof.Rows L2
/-! ### for k in d: the dict is locked while it is walked -/
section
variable {K : PySem.W.Frag} {φ : Nat → Addr} {n : Nat} {H : Hp}
/-- the lock taken away -/
theorem rdf_unl {d a : Addr} {od : Obj} {u ho : HO} (hu : ∀ xs, u ≠ .lst xs) (h : H d = some (.frz od u)) {xs : List V} (r : Fro K φ n H a xs) : Fro K φ n (upd H d ho) a xs := by
  rcases r with ⟨r, hn⟩ | r
  · refine .inl ⟨?_, hn⟩
    rcases r with r | ⟨o, r⟩
    · exact .inl (by rw [upd_ne (fun z => by rw [z, h] at r; cases r)]; exact r)
    · exact .inr ⟨o, by rw [upd_ne (fun z => by rw [z, h] at r; cases r; exact hu _ rfl)]; exact r⟩
  · exact .inr r
mutual
theorem rel_unl {d : Addr} {od : Obj} {u ho : HO} (hu : ∀ xs, u ≠ .lst xs) (h : H d = some (.frz od u)) : ∀ {v : V} {x : D}, Rel K φ n H v x → Rel K φ n (upd H d ho) v x
  | _, _, .non => .non
  | _, _, .bl b => .bl b
  | _, _, .int i => .int i
  | _, _, .str x => .str x
  | _, _, .ty x => .ty x
  | _, _, .tup g r => .tup (by rw [upd_ne (fun z => by rw [z, h] at g; cases g)]; exact g) (rels_unl hu h r)
  | _, _, .kt g r => .kt g (rels_unl hu h r)
  | _, _, .fro g r => .fro (rdf_unl hu h g) (rels_unl hu h r)
  | _, _, .ref g => .ref g
theorem rels_unl {d : Addr} {od : Obj} {u ho : HO} (hu : ∀ xs, u ≠ .lst xs) (h : H d = some (.frz od u)) : ∀ {v : List V} {x : List D}, Rels K φ n H v x → Rels K φ n (upd H d ho) v x
  | _, _, .nil => .nil
  | _, _, .cons r t => .cons (rel_unl hu h r) (rels_unl hu h t)
end
end
section
variable {K : PySem.W.Frag} {φ φ' : Nat → Addr} {S S' : Sto} {H H' : Hp}
end
section
variable {X : Cx} {ec : Str → Value} {W : WX}
end
end Rf
set_option maxHeartbeats 2000000
namespace Rf
open PySem PySem.Spec PyProof.Rows L2
section
variable {X : Cx} {x n : Str} {c : Value} {i : Nat} {body suite orelse : List Stmt} {b₀ : Stmt} {np pos pos' : Pos}
variable {tb : WX → TS} {ts : Addr → Value → Option Addr → TS} {u : TS} {Wo : WX}
end
section
variable {X : Cx} {ec : Str → Value} {W : WX} {P : L2.St → Prop}
/-! ### tests that may look at a slot of which the values tell nothing -/
def XTp (P : L2.St → Prop) (X : Cx) (ec : Str → Value) (W : WX) (e : Expr) (m : M Bool) : Prop := PT X e (fun σ H Q => P σ ∧ rd X.K ec RelB W m σ H Q)
def XWp (P : L2.St → Prop) (X : Cx) (ec : Str → Value) (W : WX) (e : Expr) (m : M Bool) : Prop := PW X e (fun σ H Q => P σ ∧ rd X.K ec RelB W m σ H Q)
theorem XWp.xt {e : Expr} {m : M Bool} (h : XWp P X ec W e m) : XTp P X ec W e m := PW.pt h
end
end Rf
namespace Rf
open PySem PySem.Spec PyProof.Rows L2
/-! ### texts in tuples and lists of texts -/
section
variable {K : PySem.W.Frag} {φ : Nat → Addr} {H : Hp} {n : Nat}
end
section
variable {X : Cx} {ec : Str → Value} {W : WX}
end
end Rf
namespace Rf
open PySem PySem.Spec PyProof.Rows L2
/-! ### dicts with pairs of tuples of ints as keys: the rules -/
section
variable {P : Program} {w : World} {H : Hp} {h : Heap} {a b : Addr} {k : NKey}
end
section
variable {X : Cx}
end
/-! ### for k in d -/
end Rf
namespace Rf
open PySem PySem.Spec PyProof.Rows L2
/-! ### {k: v for ..} whose keys are tuples -/
section
variable {X : Cx}
end
end Rf
namespace Rf
open PySem PySem.Spec PyProof.Rows L2
/-! ### min, any -/
section
variable {X : Cx} {ec : Str → Value} {W : WX}
/-! ### a = b = e -/
/-! ### an expression while a dict is locked -/
end
end Rf
namespace Rf
open PySem PySem.Spec PyProof.Rows L2
/-! ### dicts with pairs of tuples of ints as keys: by values -/
section
variable {K : PySem.W.Frag} {φ : Nat → Addr} {S : Sto} {H : Hp} {n : Nat}
end
section
variable {X : Cx} {ec : Str → Value} {W : WX}
/-! ### {k: v for ..} -/
end
end Rf
namespace Rf
open PySem PySem.Spec PyProof.Rows L2
/-! ### zip of a tuple and a list -/
def ItrG (k : Bool) (h : Heap) (it a : Addr) (i : Nat) : Prop := match k with
  | true => h.IsTupleIter it a i
  | false => h.IsListIter it a i
theorem ItrG.at {k : Bool} {h h' : Heap} {it a : Addr} {i : Nat} (s : ItrG k h it a i) (f : ∀ o, h.get? it = some o → h'.get? it = some o) : ItrG k h' it a i := by
  cases k with
  | true => exact Heap.IsTupleIter.at s f
  | false => exact Heap.IsListIter.at s f
theorem ItrG.obj {k : Bool} {h : Heap} {it a : Addr} {i : Nat} (s : ItrG k h it a i) : ∃ o, h.get? it = some o ∧ (∀ v, o.data = .cell v → False) := by
  cases k with
  | true => obtain ⟨o, e, _, d⟩ := s; exact ⟨o, e, fun v q => by rw [d] at q; cases q⟩
  | false => obtain ⟨o, e, _, d⟩ := s; exact ⟨o, e, fun v q => by rw [d] at q; cases q⟩
/-- the cells apart -/
structure ZA (z TI TO i1 i2 : Addr) : Prop where
  TIz : TI ≠ z
  TOz : TO ≠ z
  i1z : i1 ≠ z
  i2z : i2 ≠ z
  TITO : TI ≠ TO
  TIi1 : TI ≠ i1
  TIi2 : TI ≠ i2
  TOi1 : TO ≠ i1
  TOi2 : TO ≠ i2
  i12 : i1 ≠ i2
theorem ItrG.cls {k : Bool} {h : Heap} {it a : Addr} {i : Nat} (s : ItrG k h it a i) : ∃ o, h.get? it = some o ∧ o.cls ≠ .type "tuple" ∧ o.cls ≠ .type "list" := by
  cases k with
  | true => obtain ⟨o, e, c, _⟩ := s; exact ⟨o, e, by rw [c]; decide, by rw [c]; decide⟩
  | false => obtain ⟨o, e, c, _⟩ := s; exact ⟨o, e, by rw [c]; decide, by rw [c]; decide⟩
section
variable {X : Cx} {ec : Str → Value} {W : WX}
end
end Rf
namespace Rf
open PySem PySem.Spec PyProof.Rows L2
/-! ### a loop over a dict that may still be empty: it is then a plain one -/
end Rf
namespace Rf
open PySem PySem.Spec PyProof.Rows L2
/-! ### list(reversed(a tuple)) -/
section
variable {prog : Program} {w : World} {A : Around} {E : Value → Shared → Prop} {s : Shared}
end
section
variable {X : Cx} {ec : Str → Value} {W : WX}
end
end Rf
set_option maxHeartbeats 2000000
namespace Rf
open PySem PySem.Spec PyProof.Rows L2
/-! ### zip of three lists -/
structure ZA3 (z TI TO i1 i2 i3 : Addr) : Prop where
  TIz : TI ≠ z
  TOz : TO ≠ z
  i1z : i1 ≠ z
  i2z : i2 ≠ z
  i3z : i3 ≠ z
  TITO : TI ≠ TO
  TIi1 : TI ≠ i1
  TIi2 : TI ≠ i2
  TIi3 : TI ≠ i3
  TOi1 : TO ≠ i1
  TOi2 : TO ≠ i2
  TOi3 : TO ≠ i3
  i12 : i1 ≠ i2
  i13 : i1 ≠ i3
  i23 : i2 ≠ i3
section
variable {X : Cx} {ec : Str → Value} {W : WX}
end
end Rf
namespace Rf
open PySem PySem.Spec PyProof.Rows L2
/-! ### texts: slices, signs one by one, methods -/
def slDS (S : Sto) (a : D) (lo hi : Option Int) : Option (D × Sto) := match a with
  | .str z => if z.length ≤ 1000000 then some (.str (cutS z lo hi), S) else none
  | _ => none
def mSyH (m mh : M D) : M D := mB m fun a => mB mh fun h _ S => match intD h with
  | some j => match slDS S a none (some j) with
    | some (d, S') => some (.val d S')
    | none => none
  | none => none
def mSyL (m ml : M D) : M D := mB m fun a => mB ml fun h _ S => match intD h with
  | some j => match slDS S a (some j) none with
    | some (d, S') => some (.val d S')
    | none => none
  | none => none
def sqStr (z : Str) : Sq := fun i _ => match z.cps[i]? with
  | some c => some (some (.str ⟨#[c]⟩))
  | none => some none
def mSeqS (m : M D) : M Sq := mB m fun d _ S => match d with
  | .str z => some (.val (sqStr z) S)
  | _ => none
def mM1 (g : Str → D → Sto → Option (D × Sto)) (mo me : M D) : M D := mB mo fun a => match a with
  | .str y => mB me fun b _ S => match g y b S with
    | some (d, S') => some (.val d S')
    | none => none
  | _ => fun _ _ => none
def gPart (x : Str) (b : D) (S : Sto) : Option (D × Sto) := match b with
  | .str y => if (y.length == 0) = false ∧ x.length ≤ 1000000 then some (.tup [.str (Txt.partition x y).1, .str (Txt.partition x y).2.1, .str (Txt.partition x y).2.2], S) else none
  | _ => none
def gSplit (x : Str) (b : D) (S : Sto) : Option (D × Sto) := match b with
  | .str y => if (y.length == 0) = false ∧ x.length ≤ 1000000 then some (.ref S.length, S ++ [.lst ((Txt.split x y).map D.str)]) else none
  | _ => none
def gStarts (x : Str) (b : D) (S : Sto) : Option (D × Sto) := match b with
  | .str y => some (.bl (Txt.startswith x y), S)
  | _ => none
def gNotInT : G2 := fun a b S => match a, b with
  | .str i, .str j => some (.bl (!(!(Builtin.Str.occurrences j i 0 j.length 1).isEmpty)), S)
  | _, _ => none
def gLenS : GN := fun as S => match as with
  | [.str z] => if z.length ≤ 1000000 then some (.int z.length, S) else none
  | _ => none
def gLenT : GN := fun as S => match gLen as S with
  | some z => some z
  | none => gLenS as S
theorem szT {n : Nat} (h : n ≤ 1000000) : n ≤ sizeLine := by rw [sizeLine_eq]; omega
theorem szT2 {n : Nat} (h : n ≤ 1000000) : n + 2 ≤ sizeLine := by rw [sizeLine_eq]; omega
section
variable {X : Cx} {ec : Str → Value} {W : WX}
theorem slDS_rel {φ : Nat → Addr} {S S' : Sto} {H : Hp} {v : V} {a d : D} {lo hi : Option Int} {Q : VK} (ok : Ok X.K φ S H) (r : Rel X.K φ S.length H v a) (h : slDS S a lo hi = some (d, S'))
    (q : ∀ φ' H' v', Ext φ S.length H φ' S'.length H' → Ok X.K φ' S' H' → Rel X.K φ' S'.length H' v' d → Q v' H') : rSlS v lo hi H Q := by
  unfold slDS at h
  split at h
  · rename_i z
    split at h
    · rename_i hz
      cases h
      cases r
      exact ⟨z, rfl, szT hz, q φ H _ (Ext.refl _ _ _) ok (.str _)⟩
    · cases h
  · cases h
theorem x_syH {e hi : PySem.Expr} {m mh : M D} {pos p2 : Pos} (he : XE X ec W e m) (hh : XE X ec W hi mh) : XE X ec W (.Subscript e (.Slice none (some hi) none p2) pos) (mSyH m mh) := imE (pe_slice sl_str he po_none (po_some hh)) fun σ H Q h => by
  obtain ⟨φ, S, ρ, c⟩ := Cf.start h
  refine rd_imp (c.bind (rel1 := Rel X.K) monoC_true) fun x H1 ⟨φ1, S1, a, ra, c1⟩ => ?_
  refine rd_imp ((c1.carry ra).bind (rel1 := Rel X.K) monoC_rel) fun z H3 ⟨φ3, S3, b3, rb3, c3⟩ => ?_
  obtain ⟨r', e, q⟩ := c3.run
  split at e
  · rename_i j hj
    refine ⟨j, intD_rel hj rb3, ?_⟩
    split at e
    · rename_i d S' hs
      cases e
      exact slDS_rel c3.ok c3.car hs q
    · cases e
  · cases e
theorem x_syL {e lo : PySem.Expr} {m ml : M D} {pos p2 : Pos} (he : XE X ec W e m) (hl : XE X ec W lo ml) : XE X ec W (.Subscript e (.Slice (some lo) none none p2) pos) (mSyL m ml) := imE (pe_slice sl_str he (po_some hl) po_none) fun σ H Q h => by
  obtain ⟨φ, S, ρ, c⟩ := Cf.start h
  refine rd_imp (c.bind (rel1 := Rel X.K) monoC_true) fun x H1 ⟨φ1, S1, a, ra, c1⟩ => ?_
  refine rd_imp ((c1.carry ra).bind (rel1 := Rel X.K) monoC_rel) fun z H3 ⟨φ3, S3, b3, rb3, c3⟩ => ?_
  obtain ⟨r', e, q⟩ := c3.run
  split at e
  · rename_i j hj
    refine ⟨j, intD_rel hj rb3, ?_⟩
    split at e
    · rename_i d S' hs
      cases e
      exact slDS_rel c3.ok c3.car hs q
    · cases e
  · cases e
theorem seqR_str {K : PySem.W.Frag} {φ : Nat → Addr} {n : Nat} {H : Hp} (z : Str) : SeqR K φ n H (Its z) (sqStr z) := fun φ' S' H' ok ex i => by
  unfold sqStr
  refine ⟨fun d e => ?_, fun e => ?_⟩
  · split at e
    · rename_i c hc
      cases e
      refine ⟨(Array.getElem?_eq_some_iff.mp hc).1, fun v H'' hz => ?_⟩
      obtain ⟨rfl, c', hc', rfl⟩ := hz
      rw [hc] at hc'
      cases hc'
      exact ⟨Ext.refl _ _ _, ok, .str _⟩
    · cases e
  · split at e
    · cases e
    · rename_i hc
      exact Array.getElem?_eq_none_iff.mp hc
theorem xi_str {tg e : Expr} {m : M D} (he : XE X ec W e m) : XI X ec W tg e (mSeqS m) := imI (pi_str he) fun σ H Q h => by
  obtain ⟨φ, S, ρ, c⟩ := Cf.start h
  refine rd_imp (c.bind (rel1 := Rel X.K) monoC_true) fun x H1 ⟨φ1, S1, a, ra, c1⟩ => ?_
  obtain ⟨r, e, q⟩ := c1.run
  split at e
  · rename_i z
    cases e
    cases ra
    exact ⟨z, rfl, q φ1 H1 _ (Ext.refl _ _ _) c1.ok (seqR_str z)⟩
  · cases e
theorem opS_notInT : OpS X (compareOp .NotIn) gNotInT := ⟨_, op_notin_str, fun φ S H x y a b d S' ok ra rb e Q q => by
  unfold gNotInT at e
  split at e
  · rename_i i j
    cases e
    cases ra
    cases rb
    exact ⟨i, j, rfl, rfl, q φ H _ (Ext.refl _ _ _) ok (.bl _)⟩
  · cases e⟩
theorem callS_lenS : CallS X (.builtin "len") gLenS := ⟨_, call_len_str, fun φ S H xs as c S' ok ra e Q q => by
  unfold gLenS at e
  split at e
  · rename_i z
    split at e
    · rename_i h
      cases e
      cases ra with
      | cons r t =>
        cases r
        cases t
        exact ⟨z, rfl, szT h, q φ H _ (Ext.refl _ _ _) ok (.int _)⟩
    · cases e
  · cases e⟩
theorem callS_lenT : CallS X (.builtin "len") gLenT := callS_len.or callS_lenS
theorem x_m1 {o e : Expr} {x : Expr} {mo me : M D} {to te : TE} {r : V → List V → Hp → VK → Prop} {g : Str → D → Sto → Option (D × Sto)} (pe : ∀ {to te : TE}, PE X o to → PE X e te → PE X x (tM1 r to te)) (ho : XE X ec W o mo) (he : XE X ec W e me)
    (hr : ∀ (φ : Nat → Addr) (S : Sto) (H : Hp) (y : Str) (v : V) (b d : D) (S' : Sto) (Q : VK), Ok X.K φ S H → Rel X.K φ S.length H v b → g y b S = some (d, S') → (∀ φ' H' v', Ext φ S.length H φ' S'.length H' → Ok X.K φ' S' H' → Rel X.K φ' S'.length H' v' d → Q v' H') → r (.str y) [v] H Q) : XE X ec W x (mM1 g mo me) := imE (pe ho he) fun σ H Q h => by
  obtain ⟨φ, S, ρ, c⟩ := Cf.start h
  refine rd_imp (c.bind (rel1 := Rel X.K) monoC_true) fun x H1 ⟨φ1, S1, a, ra, c1⟩ => ?_
  cases ra with
  | str y =>
    have c2 : Cf X.K ec (Rel X.K) W (fun _ _ _ => True) φ1 S1 ρ σ H1 Q ((mB me fun b _ S => match g y b S with
      | some (d, S') => some (R.val d S')
      | none => none) ρ) := c1
    refine ⟨⟨y, rfl⟩, ?_⟩
    refine rd_imp (c2.bind (rel1 := Rel X.K) monoC_true) fun y' H2 ⟨φ2, S2, b, rb, c3⟩ => ?_
    obtain ⟨r', e, q⟩ := c3.run
    cases hg : g y b S2 with
    | none => rw [hg] at e; cases e
    | some p =>
      obtain ⟨z, S'⟩ := p
      rw [hg] at e
      cases e
      exact hr _ _ _ _ _ _ _ _ _ c3.ok rb hg q
  | _ =>
    obtain ⟨r', e, q⟩ := c1.run
    cases e
theorem x_part {o e : Expr} {mo me : M D} {apos pos : Pos} (ho : XE X ec W o mo) (he : XE X ec W e me) (hs : starEach [e] X.env = [(false, eval e X.env)] := by rfl) (hbase : attributeBase o "partition" X.env (eval o X.env) = eval o X.env := by rfl) (hline : (apos.endLine == pos.line) = true := by rfl) :
    XE X ec W (.Call (.Attribute o "partition" apos) [e] [] pos) (mM1 gPart mo me) := x_m1 (to := fun _ _ _ => True) (te := fun _ _ _ => True) (fun a b => pe_partition a b hs hbase hline) ho he fun φ S H y v b d S' Q ok rb hg q => by
  unfold gPart at hg
  split at hg
  · rename_i z
    split at hg
    · rename_i hz
      cases hg
      cases rb
      exact ⟨y, z, rfl, rfl, hz.1, szT hz.2, fun p hp => q φ _ _ (ext_imm hp) (ok.imm hp) (.tup upd_same (.cons (.str _) (.cons (.str _) (.cons (.str _) .nil))))⟩
    · cases hg
  · cases hg
theorem rels_strs' {φ : Nat → Addr} {n : Nat} {H : Hp} {K : PySem.W.Frag} : ∀ l : List Str, Rels K φ n H (l.map V.str) (l.map D.str)
  | [] => .nil
  | _ :: r => .cons (.str _) (rels_strs' r)
theorem x_split {o e : Expr} {mo me : M D} {apos pos : Pos} (ho : XE X ec W o mo) (he : XE X ec W e me) (hs : starEach [e] X.env = [(false, eval e X.env)] := by rfl) (hbase : attributeBase o "split" X.env (eval o X.env) = eval o X.env := by rfl) (hline : (apos.endLine == pos.line) = true := by rfl) :
    XE X ec W (.Call (.Attribute o "split" apos) [e] [] pos) (mM1 gSplit mo me) := x_m1 (to := fun _ _ _ => True) (te := fun _ _ _ => True) (fun a b => pe_split a b hs hbase hline) ho he fun φ S H y v b d S' Q ok rb hg q => by
  unfold gSplit at hg
  split at hg
  · rename_i z
    split at hg
    · rename_i hz
      cases hg
      cases rb
      exact ⟨y, z, rfl, rfl, hz.1, szT2 hz.2, fun p hp => q _ _ _ (ext_new' hp) (ok.new hp (.lst (rels_strs' _))) rel_new⟩
    · cases hg
  · cases hg
theorem x_starts {o e : Expr} {mo me : M D} {apos pos : Pos} (ho : XE X ec W o mo) (he : XE X ec W e me) (hs : starEach [e] X.env = [(false, eval e X.env)] := by rfl) (hbase : attributeBase o "startswith" X.env (eval o X.env) = eval o X.env := by rfl) (hline : (apos.endLine == pos.line) = true := by rfl) :
    XE X ec W (.Call (.Attribute o "startswith" apos) [e] [] pos) (mM1 gStarts mo me) := x_m1 (to := fun _ _ _ => True) (te := fun _ _ _ => True) (fun a b => pe_m1 F.slot_str_startswith F.type_str_startswith mt_startswith a b hs hbase hline) ho he fun φ S H y v b d S' Q ok rb hg q => by
  unfold gStarts at hg
  split at hg
  · rename_i z
    cases hg
    cases rb
    exact ⟨y, z, rfl, rfl, q φ H _ (Ext.refl _ _ _) ok (.bl _)⟩
  · cases hg
end
end Rf
namespace Rf
open PySem PySem.Spec PyProof.Rows L2
theorem var0 {d : D} {ρ : Env} {S : Sto} : mVar 0 (some d :: ρ) S = some (.val d S) := rfl
theorem varS {x : Option D} {i : Nat} {ρ : Env} {S : Sto} : mVar (i + 1) (x :: ρ) S = mVar i ρ S := by
  unfold mVar
  rw [List.getElem?_cons_succ]
theorem set0 {α : Type} {x y : α} {ρ : List α} : (x :: ρ).set 0 y = y :: ρ := rfl
theorem setS {α : Type} {x y : α} {i : Nat} {ρ : List α} : (x :: ρ).set (i + 1) y = x :: ρ.set i y := rfl
theorem ixT {k : Nat} {x : D} {xs : List D} {S : Sto} (h : xs[k]? = some x) : gIx (.tup xs) (.int (k : Int)) S = some (x, S) := by
  unfold gIx
  dsimp only
  show (itemsOf S (.tup xs)).bind _ = _
  show (some xs).bind _ = _
  rw [Option.bind_some, atI_nat h]
  rfl
theorem ix0 {x : D} {xs : List D} {S : Sto} : gIx (.tup (x :: xs)) (.int 0) S = some (x, S) := ixT (k := 0) rfl
theorem ix1 {x y : D} {xs : List D} {S : Sto} : gIx (.tup (x :: y :: xs)) (.int 1) S = some (y, S) := ixT (k := 1) rfl
theorem ix2 {x y z : D} {xs : List D} {S : Sto} : gIx (.tup (x :: y :: z :: xs)) (.int 2) S = some (z, S) := ixT (k := 2) rfl
/-- a list of the store -/
theorem ixR {i k : Nat} {x : D} {xs : List D} {S : Sto} (hs : S[i]? = some (.lst xs)) (h : xs[k]? = some x) : gIx (.ref i) (.int (k : Int)) S = some (x, S) := by
  unfold gIx
  dsimp only
  show (itemsOf S (.ref i)).bind _ = _
  have e : itemsOf S (.ref i) = some xs := by
    unfold itemsOf
    dsimp only
    rw [hs]
  rw [e, Option.bind_some, atI_nat h]
  rfl
theorem mul_ii {i j : Int} {S : Sto} (h : mulOk i j = true) : gMul (.int i) (.int j) S = some (.int (i * j), S) := by
  unfold gMul gI
  dsimp only
  rw [if_pos h]
theorem div_ii {i j : Int} {S : Sto} (h : divOk i j = true) : gDiv (.int i) (.int j) S = some (.int (i.fdiv j), S) := by
  unfold gDiv gI
  dsimp only
  rw [if_pos h]
theorem mod_ii {i j : Int} {S : Sto} (h : j ≠ 0) : gMod (.int i) (.int j) S = some (.int (i.fmod j), S) := by
  unfold gMod gI
  dsimp only
  rw [if_pos (decide_eq_true h)]
theorem add_ii {i j : Int} {S : Sto} : gAdd (.int i) (.int j) S = some (.int (i + j), S) := rfl
theorem sub_ii {i j : Int} {S : Sto} : gSub (.int i) (.int j) S = some (.int (i - j), S) := rfl
theorem lt_ii {i j : Int} {S : Sto} : gLt (.int i) (.int j) S = some (.bl (decide (i < j)), S) := rfl
theorem le_ii {i j : Int} {S : Sto} : gLe (.int i) (.int j) S = some (.bl (decide (i ≤ j)), S) := rfl
theorem gt_ii {i j : Int} {S : Sto} : gGt (.int i) (.int j) S = some (.bl (decide (j < i)), S) := rfl
theorem ge_ii {i j : Int} {S : Sto} : gGe (.int i) (.int j) S = some (.bl (decide (j ≤ i)), S) := rfl
theorem eq_ii {i j : Int} {S : Sto} : gEq (.int i) (.int j) S = some (.bl (decide (i = j)), S) := rfl
theorem ne_ii {i j : Int} {S : Sto} : gNe (.int i) (.int j) S = some (.bl (!decide (i = j)), S) := rfl
theorem neg_i {i : Int} {S : Sto} : gNeg (.int i) S = some (.int (-i), S) := rfl
theorem gcd_ii {i j : Int} {S : Sto} : gGcd [.int i, .int j] S = some (.int ((Nat.gcd i.natAbs j.natAbs : Nat) : Int), S) := rfl
theorem abs_i {i : Int} {S : Sto} : gAbs [.int i] S = some (.int (if i < 0 then -i else i), S) := rfl
theorem int_i {i : Int} {S : Sto} : gInt [.int i] S = some (.int i, S) := rfl
theorem int_b {k : Bool} {S : Sto} : gInt [.bl k] S = some (.int (if k then 1 else 0), S) := rfl
theorem tru_b {k : Bool} {S : Sto} : truD (.bl k) S = some k := rfl
end Rf
namespace Rf
open PySem PySem.Spec PyProof.Rows L2
theorem loopW_true {c : M Bool} {b : MS} {n : Nat} {ρ ρ' : Env} {S S1 S' : Sto} (hc : c ρ S = some (.val true S1)) (hb : b ρ S1 = some (.nx ρ' S')) : loopW c b (n + 1) ρ S = loopW c b n ρ' S' := by
  rw [loopW]
  simp only [hc, hb]
theorem loopW_false {c : M Bool} {b : MS} {n : Nat} {ρ : Env} {S S1 : Sto} (hc : c ρ S = some (.val false S1)) : loopW c b (n + 1) ρ S = some (.nx ρ S1) := by
  rw [loopW]
  simp only [hc]
/-- a for over items that stand -/
def forI (t : Tgt) (b : MS) : List D → MS
  | [] => fun ρ S => some (.nx ρ S)
  | x :: xs => fun ρ S => match t x ρ S with
    | none => none
    | some ρ1 => match b ρ1 S with
      | some (.nx ρ' S') => forI t b xs ρ' S'
      | some (.cnt ρ' S') => forI t b xs ρ' S'
      | some (.brk ρ' S') => some (.nx ρ' S')
      | r => r
theorem loopQ_items {t : Tgt} {b : MS} {xs : List D} : ∀ (n i : Nat) (ρ : Env) (S : Sto), xs.length - i < n → loopQ t b (sqIt xs) n i ρ S = forI t b (xs.drop i) ρ S
  | 0, i, ρ, S, h => absurd h (by omega)
  | n + 1, i, ρ, S, h => by
    rw [loopQ]
    by_cases c : i < xs.length
    · have ih := fun ρ S => loopQ_items (t := t) (b := b) (xs := xs) n (i + 1) ρ S (by omega)
      rw [List.drop_eq_getElem_cons c]
      have e1 : sqIt xs i S = some (some xs[i]) := by
        unfold sqIt
        rw [List.getElem?_eq_getElem c]
      simp only [e1, forI]
      cases h1 : t xs[i] ρ S with
      | none => rfl
      | some ρ1 =>
        dsimp only
        cases h2 : b ρ1 S with
        | none => rfl
        | some r =>
          cases r with
          | nx ρ' S' => exact ih ρ' S'
          | cnt ρ' S' => exact ih ρ' S'
          | brk ρ' S' => rfl
          | ret d S' => rfl
          | exc c ρ' S' => rfl
    · have e1 : sqIt xs i S = some none := by
        unfold sqIt
        rw [List.getElem?_eq_none (by omega)]
      rw [List.drop_eq_nil_of_le (by omega)]
      simp only [e1]
      rfl
theorem for_items {t : Tgt} {it : M Sq} {b : MS} {ρ : Env} {S S1 : Sto} {xs : List D} (h : it ρ S = some (.val (sqIt xs) S1)) (hl : xs.length < fuel) : sFor t it b ρ S = forI t b xs ρ S1 := by
  unfold sFor sB
  rw [h]
  exact loopQ_items fuel 0 ρ S1 (by omega)
theorem forI_nx {t : Tgt} {b : MS} {x : D} {xs : List D} {ρ ρ1 ρ' : Env} {S S' : Sto} (ht : t x ρ S = some ρ1) (hb : b ρ1 S = some (.nx ρ' S')) : forI t b (x :: xs) ρ S = forI t b xs ρ' S' := by
  rw [forI]
  simp only [ht, hb]
theorem mRng1_eq {ms : M (List D)} {ρ : Env} {S S1 : Sto} {n : Int} (h : ms ρ S = some (.val [.int n] S1)) (hn : rngOk n = true) : mRng1 ms ρ S = some (.val (sqIt (rngD 0 n.toNat)) S1) := by
  unfold mRng1 mB
  rw [h]
  dsimp only
  rw [if_pos hn]
theorem rngD_succ {lo : Int} {n : Nat} : rngD lo (n + 1) = .int lo :: rngD (lo + 1) n := by
  unfold rngD
  rw [List.range_succ_eq_map, List.map_cons, List.map_map]
  congr 1
  · simp
  · apply List.map_congr_left
    intro a _
    show D.int (lo + ((a + 1 : Nat) : Int)) = D.int (lo + 1 + (a : Int))
    congr 1
    omega
theorem get_last {S : Sto} {o : O} {k : Nat} (h : k = S.length) : (S ++ [o])[k]? = some o := by
  subst h
  rw [List.getElem?_append_right (Nat.le_refl _), Nat.sub_self]
  rfl
theorem set_last {S : Sto} {o o' : O} {k : Nat} (h : k = S.length) : (S ++ [o]).set k o' = S ++ [o'] := by
  subst h
  rw [List.set_append_right _ _ (Nat.le_refl _), Nat.sub_self]
  rfl
/-- append to the newest list -/
theorem app_last {mo me : M D} {ρ : Env} {S : Sto} {k : Nat} {xs : List D} {d : D} (hk : k = S.length) (ho : mo ρ (S ++ [.lst xs]) = some (.val (.ref k) (S ++ [.lst xs]))) (he : me ρ (S ++ [.lst xs]) = some (.val d (S ++ [.lst xs]))) (hl : xs.length < 1000000) :
    mApp mo me ρ (S ++ [.lst xs]) = some (.val .non (S ++ [.lst (xs ++ [d])])) := by
  unfold mApp mB
  rw [ho]
  dsimp only
  rw [get_last hk]
  dsimp only
  rw [he]
  dsimp only
  rw [get_last hk]
  dsimp only
  rw [if_pos hl, set_last hk]
theorem pow_1018 {S : Sto} : gPow (.int 10) (.int 18) S = some (.int 1000000000000000000, S) := by
  unfold gPow gI
  simp
end Rf
namespace Rf
open PySem PySem.Spec PyProof.Rows L2
theorem seq_nx {a b : MS} {ρ ρ' : Env} {S S' : Sto} {r : Option RS} (h : a ρ S = some (.nx ρ' S')) (k : b ρ' S' = r) : sSeq a b ρ S = r := by
  unfold sSeq
  rw [h]
  exact k
theorem seq_ret {a b : MS} {ρ : Env} {S S' : Sto} {d : D} (h : a ρ S = some (.ret d S')) : sSeq a b ρ S = some (.ret d S') := by
  unfold sSeq
  rw [h]
theorem fn_ret {n : Nat} {m : MS} {ds : List D} {S S' : Sto} {d : D} (h : m (ds.map some ++ List.replicate (n - ds.length) none) S = some (.ret d S')) : fnOf n m ds S = some (.val d S') := by
  unfold fnOf
  rw [h]
theorem set_eq {i : Nat} {m : M D} {ρ : Env} {S S1 : Sto} {d : D} (h : m ρ S = some (.val d S1)) : sSet i m ρ S = some (.nx (ρ.set i (some d)) S1) := by
  unfold sSet sB
  rw [h]
theorem ret_eq {m : M D} {ρ : Env} {S S1 : Sto} {d : D} (h : m ρ S = some (.val d S1)) : sRet m ρ S = some (.ret d S1) := by
  unfold sRet sB
  rw [h]
theorem if_t {c : M Bool} {a b : MS} {ρ : Env} {S S1 : Sto} {r : Option RS} (h : c ρ S = some (.val true S1)) (k : a ρ S1 = r) : sIf c a b ρ S = r := by
  unfold sIf sB
  rw [h]
  exact k
theorem if_f {c : M Bool} {a b : MS} {ρ : Env} {S S1 : Sto} {r : Option RS} (h : c ρ S = some (.val false S1)) (k : b ρ S1 = r) : sIf c a b ρ S = r := by
  unfold sIf sB
  rw [h]
  exact k
end Rf
namespace Rf
open PySem PySem.Spec PyProof.Rows L2
/-- a comprehension none of whose items is taken -/
theorem loopC_none {t : Tgt} {c : M Bool} {el : M D} {ρ0 : Env} {n0 : Nat} {xs : List D} (h : ∀ x ∈ xs, ∀ S, ∃ ρ1 G, t x ρ0 S = some ρ1 ∧ c ρ1 S = some (.val false (S ++ G))) : ∀ (n i : Nat) (S : Sto), xs.length - i < n → ∃ G, loopC t c el (sqIt xs) ρ0 n0 n i S = some (S ++ G)
  | 0, i, S, hn => absurd hn (by omega)
  | n + 1, i, S, hn => by
    rw [loopC]
    by_cases k : i < xs.length
    · have e1 : sqIt xs i S = some (some xs[i]) := by
        unfold sqIt
        rw [List.getElem?_eq_getElem k]
      obtain ⟨ρ1, G, h1, h2⟩ := h xs[i] (List.getElem_mem k) S
      obtain ⟨G', ih⟩ := loopC_none (el := el) (n0 := n0) h n (i + 1) (S ++ G) (by omega)
      exact ⟨G ++ G', by simp only [e1, h1, h2, ih, List.append_assoc]⟩
    · have e1 : sqIt xs i S = some none := by
        unfold sqIt
        rw [List.getElem?_eq_none (by omega)]
      exact ⟨[], by simp only [e1, List.append_nil]⟩
theorem lc_none {vs : List Nat} {t : Tgt} {it : M Sq} {c : M Bool} {el : M D} {ρ : Env} {S S1 : Sto} {xs : List D} (hi : it ρ S = some (.val (sqIt xs) S1)) (hl : xs.length < fuel) (h : ∀ x ∈ xs, ∀ S, ∃ ρ1 G, t x (wipeE ρ vs) S = some ρ1 ∧ c ρ1 S = some (.val false (S ++ G))) :
    ∃ G, mLc vs t it c el ρ S = some (.val (.ref S1.length) (S1 ++ (.lst [] :: G))) := by
  obtain ⟨G, e⟩ := loopC_none (el := el) (n0 := S1.length) h fuel 0 (S1 ++ [.lst []]) (by omega)
  refine ⟨G, ?_⟩
  unfold mLc mB
  rw [hi]
  dsimp only
  rw [e]
  dsimp only
  rw [List.append_assoc, List.singleton_append]
theorem isi {a : D} {T n : String} {b : Bool} {S : Sto} (h : tyD S a = some n) (k : kitB n T = some b) : gIsi [a, .ty T] S = some (.bl b, S) := by
  unfold gIsi
  dsimp only
  rw [h, Option.bind_some, k]
  rfl
theorem kit1 : kitB "int" "tuple" = some false := by decide +kernel
theorem kit2 : kitB "int" "list" = some false := by decide +kernel
theorem kit3 : kitB "int" "int" = some true := by decide +kernel
theorem kit4 : kitB "int" "bool" = some false := by decide +kernel
theorem kit5 : kitB "tuple" "tuple" = some true := by decide +kernel
end Rf
namespace Rf
open PySem PySem.Spec PyProof.Rows L2
section
variable {ρ : Env} {S S1 S2 S3 : Sto} {a b c d : D} {as : List D} {ma mb m : M D} {ms : M (List D)} {g : G2}
theorem v_var {i : Nat} (h : ρ[i]? = some (some d)) : mVar i ρ S = some (.val d S) := by
  unfold mVar
  rw [h]
theorem v_ret {α : Type} {a : α} : mRet a ρ S = some (.val a S) := rfl
theorem v_op (ha : ma ρ S = some (.val a S1)) (hb : mb ρ S1 = some (.val b S2)) (hg : g a b S2 = some (c, S3)) : mOp g ma mb ρ S = some (.val c S3) := by
  unfold mOp mB
  simp only [ha, hb, hg]
theorem v_bi {g : GN} (ha : ms ρ S = some (.val as S1)) (hg : g as S1 = some (c, S2)) : mBi g ms ρ S = some (.val c S2) := by
  unfold mBi mB
  simp only [ha, hg]
theorem v_nil : mNil ρ S = some (.val [] S) := rfl
theorem v_cons (ha : ma ρ S = some (.val a S1)) (hs : ms ρ S1 = some (.val as S2)) : mCons ma ms ρ S = some (.val (a :: as) S2) := by
  unfold mCons mB
  simp only [ha, hs]
  rfl
theorem v_call {F : List D → Sto → Option (R D)} {r : Option (R D)} (ha : ms ρ S = some (.val as S1)) (hF : F as S1 = r) : mCall F ms ρ S = r := by
  unfold mCall mB
  simp only [ha, hF]
theorem v_T {k : Bool} (ha : ma ρ S = some (.val (.bl k) S1)) : mT ma ρ S = some (.val k S1) := by
  unfold mT mB
  simp only [ha]
  rfl
theorem v_tru {k : Bool} (ha : ma ρ S = some (.val a S1)) (h : truD a S1 = some k) : mTru ma ρ S = some (.val k S1) := by
  unfold mTru mB
  simp only [ha, h]
theorem v_not {m : M Bool} {k : Bool} (h : m ρ S = some (.val k S1)) : mNotB m ρ S = some (.val (!k) S1) := by
  unfold mNotB mB
  simp only [h]
  rfl
theorem v_or_f {m m' : M Bool} {r : Option (R Bool)} (h : m ρ S = some (.val false S1)) (h' : m' ρ S1 = r) : mOr m m' ρ S = r := by
  unfold mOr mB
  simp only [h, h']
/-- if c: .. (not taken, nothing else) -/
theorem skip {mc : M Bool} {x : MS} (h : mc ρ S = some (.val false S1)) : sIf mc x sNil ρ S = some (.nx ρ S1) := if_f h rfl
end
theorem len_tup {xs : List D} {S : Sto} : gLen [.tup xs] S = some (.int xs.length, S) := rfl
theorem len_ref {i : Nat} {xs : List D} {S : Sto} (h : S[i]? = some (.lst xs)) : gLen [.ref i] S = some (.int xs.length, S) := by
  unfold gLen itemsOf
  simp only [h, Option.map_some]
theorem nth_last {S G : Sto} {o : O} : (S ++ (o :: G))[S.length]? = some o := by
  rw [List.getElem?_append_right (Nat.le_refl _), Nat.sub_self]
  rfl
theorem rngOk_nat {n : Nat} (h : n < 2 ^ 60) : rngOk (n : Int) = true := by
  unfold rngOk
  rw [Bool.and_eq_true]
  exact ⟨decide_eq_true (by omega), decide_eq_true (by omega)⟩
theorem rngD_len {lo : Int} {n : Nat} : (rngD lo n).length = n := by
  unfold rngD
  rw [List.length_map, List.length_range]
theorem rngD_mem {n : Nat} {x : D} (h : x ∈ rngD 0 n) : ∃ k : Nat, k < n ∧ x = .int (k : Int) := by
  unfold rngD at h
  obtain ⟨k, hk, e⟩ := List.mem_map.mp h
  exact ⟨k, List.mem_range.mp hk, by rw [← e]; simp⟩
end Rf
namespace Rf
open PySem PySem.Spec PyProof.Rows L2
/-! ### sizes -/
def szI (n : Nat) (i : Int) : Prop := i.natAbs < 2 ^ n
theorem szI.mono {n m : Nat} {i : Int} (h : szI n i) (k : n ≤ m) : szI m i := Nat.lt_of_lt_of_le h (Nat.pow_le_pow_right (by decide) k)
theorem szI.mul {n m : Nat} {i j : Int} (h : szI n i) (k : szI m j) : szI (n + m) (i * j) := by
  unfold szI at *
  rw [Int.natAbs_mul, Nat.pow_add]
  exact Nat.mul_lt_mul'' h k
theorem szI.add {n m : Nat} {i j : Int} (h : szI n i) (k : szI m j) : szI (max n m + 1) (i + j) := by
  have h1 := h.mono (Nat.le_max_left n m)
  have k1 := k.mono (Nat.le_max_right n m)
  unfold szI at *
  rw [Nat.pow_succ]
  omega
theorem szI.neg {n : Nat} {i : Int} (h : szI n i) : szI n (-i) := by
  unfold szI at *
  rw [Int.natAbs_neg]
  exact h
theorem szI.le {n : Nat} {i j : Int} (h : szI n i) (k : j.natAbs ≤ i.natAbs) : szI n j := Nat.lt_of_le_of_lt k h
theorem szI.log {n : Nat} {i : Int} (h : szI n i) (h0 : 0 < n) : i.natAbs.log2 < n := PySem.Flt.log2_lt_of h0 h
theorem mulOk_sz {n m : Nat} {i j : Int} (h : szI n i) (k : szI m j) (h0 : 0 < n := by omega) (k0 : 0 < m := by omega) (s : n + m ≤ 900000 := by omega) : mulOk i j = true := by
  have h1 := h.log h0
  have k1 := k.log k0
  unfold mulOk
  rw [Bool.or_eq_true]
  exact .inr (decide_eq_true (by omega))
theorem divOk_sz {n : Nat} {i j : Int} (z : j ≠ 0) (h : szI n j) (h0 : 0 < n := by omega) (s : n ≤ 9000 := by omega) : divOk i j = true := by
  have h1 := h.log h0
  unfold divOk
  rw [Bool.and_eq_true]
  exact ⟨decide_eq_true z, decide_eq_true (by omega)⟩
/-! ### fractions -/
/-- a number -/
def nq (q : Rat) : D := .tup [.int q.num, .int (q.den : Int)]
def sz (n : Nat) (q : Rat) : Prop := szI n q.num ∧ szI n (q.den : Int)
theorem sz.mono {n m : Nat} {q : Rat} (h : sz n q) (k : n ≤ m) : sz m q := ⟨h.1.mono k, h.2.mono k⟩
theorem nq_of {q : Rat} {n d : Int} (h1 : n = q.num) (h2 : d = (q.den : Int)) : D.tup [.int n, .int d] = nq q := by
  rw [h1, h2]
  rfl
theorem den_ne (q : Rat) : (q.den : Int) ≠ 0 := by
  have := q.den_pos
  omega
theorem gcd_pos_r {a b : Nat} (h : 0 < b) : 0 < a.gcd b := Nat.gcd_pos_of_pos_right _ h
theorem fdiv_nat {a : Int} {g : Nat} : a.fdiv (g : Int) = a / (g : Int) := Int.fdiv_eq_ediv_of_nonneg a (by omega)
end Rf
namespace Rf
open PySem PySem.Spec PyProof.Rows L2
end Rf
namespace Rf
open PySem PySem.Spec PyProof.Rows L2
/-! ### what an evaluation comes to -/
def WV {α : Type} (r : Option (R α)) (Q : α → Sto → Prop) : Prop := ∃ a S, r = some (.val a S) ∧ Q a S
def WS (r : Option RS) (N : Env → Sto → Prop) (T : D → Sto → Prop) (B C : Env → Sto → Prop) : Prop :=
  (∃ ρ S, r = some (.nx ρ S) ∧ N ρ S) ∨ (∃ d S, r = some (.ret d S) ∧ T d S) ∨ (∃ ρ S, r = some (.brk ρ S) ∧ B ρ S) ∨ (∃ ρ S, r = some (.cnt ρ S) ∧ C ρ S)
def WG {α : Type} (r : Option (α × Sto)) (Q : α → Sto → Prop) : Prop := ∃ a S, r = some (a, S) ∧ Q a S
/-- all that stands in the store stands -/
def Keep (S S' : Sto) : Prop := ∀ (i : Nat) (o : O), S[i]? = some o → S'[i]? = some o
theorem Keep.refl (S : Sto) : Keep S S := fun _ _ h => h
theorem Keep.trans {S S1 S2 : Sto} (a : Keep S S1) (b : Keep S1 S2) : Keep S S2 := fun i o h => b i o (a i o h)
theorem Keep.app (S G : Sto) : Keep S (S ++ G) := fun i o h => by
  rw [List.getElem?_append_left (by
    by_cases c : i < S.length
    · exact c
    · rw [List.getElem?_eq_none (by omega)] at h; cases h)]
  exact h
theorem Keep.len {S S' : Sto} (k : Keep S S') : S.length ≤ S'.length := by
  by_cases c : S.length ≤ S'.length
  · exact c
  · have h : S[S'.length]? = some (S[S'.length]'(by omega)) := List.getElem?_eq_getElem (by omega)
    have := k _ _ h
    rw [List.getElem?_eq_none (Nat.le_refl _)] at this
    cases this
theorem lt_of_get {S : Sto} {i : Nat} {o : O} (h : S[i]? = some o) : i < S.length := by
  by_cases c : i < S.length
  · exact c
  · rw [List.getElem?_eq_none (by omega)] at h; cases h
theorem get_new {S : Sto} {o : O} : (S ++ [o])[S.length]? = some o := by
  rw [List.getElem?_append_right (Nat.le_refl _), Nat.sub_self]; rfl
theorem Keep.put {S S' : Sto} {i : Nat} (k : Keep S S') (h : S.length ≤ i) (o : O) : Keep S (S'.set i o) := fun j u e => by
  rw [List.getElem?_set_ne (by have := lt_of_get e; omega)]
  exact k j u e
section
variable {α β : Type} {ρ : Env} {S : Sto} {N B C : Env → Sto → Prop} {T : D → Sto → Prop}
theorem WV.imp {r : Option (R α)} {Q Q' : α → Sto → Prop} (h : WV r Q) (q : ∀ a S, Q a S → Q' a S) : WV r Q' := by
  obtain ⟨a, S, e, k⟩ := h
  exact ⟨a, S, e, q a S k⟩
theorem WS.imp {r : Option RS} {N' B' C' : Env → Sto → Prop} {T' : D → Sto → Prop} (h : WS r N T B C) (n : ∀ ρ S, N ρ S → N' ρ S) (t : ∀ d S, T d S → T' d S) (b : ∀ ρ S, B ρ S → B' ρ S) (c : ∀ ρ S, C ρ S → C' ρ S) : WS r N' T' B' C' := by
  rcases h with ⟨ρ, S, e, k⟩ | ⟨d, S, e, k⟩ | ⟨ρ, S, e, k⟩ | ⟨ρ, S, e, k⟩
  · exact .inl ⟨ρ, S, e, n _ _ k⟩
  · exact .inr (.inl ⟨d, S, e, t _ _ k⟩)
  · exact .inr (.inr (.inl ⟨ρ, S, e, b _ _ k⟩))
  · exact .inr (.inr (.inr ⟨ρ, S, e, c _ _ k⟩))
theorem wv_of {r : Option (R α)} {a : α} {S : Sto} {Q : α → Sto → Prop} (e : r = some (.val a S)) (q : Q a S) : WV r Q := ⟨a, S, e, q⟩
theorem wg_of {r : Option (α × Sto)} {a : α} {S : Sto} {Q : α → Sto → Prop} (e : r = some (a, S)) (q : Q a S) : WG r Q := ⟨a, S, e, q⟩
theorem wv_b {m : M α} {k : α → M β} {Q : β → Sto → Prop} (h : WV (m ρ S) fun a S1 => WV (k a ρ S1) Q) : WV (mB m k ρ S) Q := by
  obtain ⟨a, S1, e, h2⟩ := h
  unfold mB
  rw [e]
  exact h2
theorem ws_b {m : M α} {k : α → MS} (h : WV (m ρ S) fun a S1 => WS (k a ρ S1) N T B C) : WS (sB m k ρ S) N T B C := by
  obtain ⟨a, S1, e, h2⟩ := h
  unfold sB
  rw [e]
  exact h2
theorem wv_ret {a : α} {Q : α → Sto → Prop} (h : Q a S) : WV (mRet a ρ S) Q := ⟨a, S, rfl, h⟩
theorem wv_var {i : Nat} {d : D} {Q : D → Sto → Prop} (e : ρ[i]? = some (some d)) (h : Q d S) : WV (mVar i ρ S) Q := ⟨d, S, by unfold mVar; rw [e], h⟩
theorem wv_op {g : G2} {ma mb : M D} {Q : D → Sto → Prop} (h : WV (ma ρ S) fun a S1 => WV (mb ρ S1) fun b S2 => WG (g a b S2) Q) : WV (mOp g ma mb ρ S) Q := by
  refine wv_b (h.imp fun a S1 h1 => wv_b (h1.imp fun b S2 h2 => ?_))
  obtain ⟨c, S3, e, q⟩ := h2
  exact ⟨c, S3, by rw [e], q⟩
theorem wv_un {g : G1} {ma : M D} {Q : D → Sto → Prop} (h : WV (ma ρ S) fun a S1 => WG (g a S1) Q) : WV (mUn g ma ρ S) Q := by
  refine wv_b (h.imp fun a S1 h1 => ?_)
  obtain ⟨c, S3, e, q⟩ := h1
  exact ⟨c, S3, by rw [e], q⟩
theorem wv_bi {g : GN} {ms : M (List D)} {Q : D → Sto → Prop} (h : WV (ms ρ S) fun as S1 => WG (g as S1) Q) : WV (mBi g ms ρ S) Q := by
  refine wv_b (h.imp fun a S1 h1 => ?_)
  obtain ⟨c, S3, e, q⟩ := h1
  exact ⟨c, S3, by rw [e], q⟩
theorem wv_call {F : List D → Sto → Option (R D)} {ms : M (List D)} {Q : D → Sto → Prop} (h : WV (ms ρ S) fun as S1 => WV (F as S1) Q) : WV (mCall F ms ρ S) Q := wv_b h
theorem wv_call0 {F : List D → Sto → Option (R D)} {Q : D → Sto → Prop} (h : WV (F [] S) Q) : WV (mCall0 F ρ S) Q := by
  obtain ⟨c, S3, e, q⟩ := h
  exact ⟨c, S3, by unfold mCall0; rw [e], q⟩
theorem wv_nil {Q : List D → Sto → Prop} (h : Q [] S) : WV (mNil ρ S) Q := ⟨[], S, rfl, h⟩
theorem wv_cons {ma : M D} {ms : M (List D)} {Q : List D → Sto → Prop} (h : WV (ma ρ S) fun a S1 => WV (ms ρ S1) fun as S2 => Q (a :: as) S2) : WV (mCons ma ms ρ S) Q :=
  wv_b (h.imp fun a S1 h1 => wv_b (h1.imp fun as S2 h2 => wv_ret h2))
theorem wv_tup {ms : M (List D)} {Q : D → Sto → Prop} (h : WV (ms ρ S) fun as S1 => as.length ≤ 1000 ∧ Q (.tup as) S1) : WV (mTup ms ρ S) Q := by
  refine wv_b (h.imp fun as S1 h1 => ?_)
  rw [if_pos h1.1]
  exact wv_ret h1.2
theorem wv_lst {ms : M (List D)} {Q : D → Sto → Prop} (h : WV (ms ρ S) fun as S1 => as.length ≤ 1000 ∧ Q (.ref S1.length) (S1 ++ [.lst as])) : WV (mLst ms ρ S) Q := by
  refine wv_b (h.imp fun as S1 h1 => ?_)
  rw [if_pos h1.1]
  exact ⟨_, _, rfl, h1.2⟩
theorem wv_dct0 {Q : D → Sto → Prop} (h : Q (.ref S.length) (S ++ [.dct []])) : WV (mDct0 ρ S) Q := ⟨_, _, rfl, h⟩
theorem wv_T {m : M D} {Q : Bool → Sto → Prop} (h : WV (m ρ S) fun a S1 => ∃ c, a = .bl c ∧ Q c S1) : WV (mT m ρ S) Q := by
  refine wv_b (h.imp fun a S1 h1 => ?_)
  obtain ⟨c, e, q⟩ := h1
  subst e
  exact wv_ret q
theorem wv_tru {m : M D} {Q : Bool → Sto → Prop} (h : WV (m ρ S) fun a S1 => ∃ c, truD a S1 = some c ∧ Q c S1) : WV (mTru m ρ S) Q := by
  refine wv_b (h.imp fun a S1 h1 => ?_)
  obtain ⟨c, e, q⟩ := h1
  exact ⟨c, S1, by rw [e], q⟩
theorem wv_not {m : M Bool} {Q : Bool → Sto → Prop} (h : WV (m ρ S) fun c S1 => Q (!c) S1) : WV (mNotB m ρ S) Q := wv_b (h.imp fun _ _ h1 => wv_ret h1)
theorem wv_and {ma mb : M Bool} {Q : Bool → Sto → Prop} (h : WV (ma ρ S) fun c S1 => (c = true → WV (mb ρ S1) Q) ∧ (c = false → Q false S1)) : WV (mAnd ma mb ρ S) Q := by
  refine wv_b (h.imp fun c S1 h1 => ?_)
  cases c with
  | true => exact h1.1 rfl
  | false => exact wv_ret (h1.2 rfl)
theorem wv_or {ma mb : M Bool} {Q : Bool → Sto → Prop} (h : WV (ma ρ S) fun c S1 => (c = false → WV (mb ρ S1) Q) ∧ (c = true → Q true S1)) : WV (mOr ma mb ρ S) Q := by
  refine wv_b (h.imp fun c S1 h1 => ?_)
  cases c with
  | false => exact h1.1 rfl
  | true => exact wv_ret (h1.2 rfl)
theorem wv_if {mc : M Bool} {ma mb : M α} {Q : α → Sto → Prop} (h : WV (mc ρ S) fun c S1 => (c = true → WV (ma ρ S1) Q) ∧ (c = false → WV (mb ρ S1) Q)) : WV (mIf mc ma mb ρ S) Q := by
  refine wv_b (h.imp fun c S1 h1 => ?_)
  cases c with
  | true => exact h1.1 rfl
  | false => exact h1.2 rfl
theorem wv_andV {ma mb : M D} {Q : D → Sto → Prop} (h : WV (ma ρ S) fun a S1 => ∃ c, a = .bl c ∧ (c = true → WV (mb ρ S1) Q) ∧ (c = false → Q (.bl false) S1)) : WV (mAndV ma mb ρ S) Q := by
  refine wv_b (h.imp fun a S1 h1 => ?_)
  obtain ⟨c, rfl, h2, h3⟩ := h1
  cases c with
  | true => exact h2 rfl
  | false => exact wv_ret (h3 rfl)
theorem wv_orV {ma mb : M D} {Q : D → Sto → Prop} (h : WV (ma ρ S) fun a S1 => ∃ c, a = .bl c ∧ (c = false → WV (mb ρ S1) Q) ∧ (c = true → Q (.bl true) S1)) : WV (mOrV ma mb ρ S) Q := by
  refine wv_b (h.imp fun a S1 h1 => ?_)
  obtain ⟨c, rfl, h2, h3⟩ := h1
  cases c with
  | false => exact h2 rfl
  | true => exact wv_ret (h3 rfl)
theorem wv_yes {Q : Bool → Sto → Prop} (h : Q true S) : WV (mYes ρ S) Q := ⟨true, S, rfl, h⟩
theorem wv_seq {m : M D} {Q : Sq → Sto → Prop} (h : WV (m ρ S) fun a S1 => ∃ q, sqOf S1 a = some q ∧ Q q S1) : WV (mSeq m ρ S) Q := by
  refine wv_b (h.imp fun a S1 h1 => ?_)
  obtain ⟨q, e, k⟩ := h1
  exact ⟨q, S1, by rw [e], k⟩
theorem wv_rng1 {ms : M (List D)} {Q : Sq → Sto → Prop} (h : WV (ms ρ S) fun as S1 => ∃ n : Int, as = [.int n] ∧ rngOk n = true ∧ Q (sqIt (rngD 0 n.toNat)) S1) : WV (mRng1 ms ρ S) Q := by
  refine wv_b (h.imp fun a S1 h1 => ?_)
  obtain ⟨n, rfl, e, k⟩ := h1
  exact ⟨_, S1, by dsimp only; rw [if_pos e], k⟩
theorem wv_app {mo me : M D} {Q : D → Sto → Prop} (h : WV (mo ρ S) fun o S1 => ∃ i xs0, o = .ref i ∧ S1[i]? = some (.lst xs0) ∧ WV (me ρ S1) fun d S2 => ∃ xs, S2[i]? = some (.lst xs) ∧ xs.length < 1000000 ∧ Q .non (S2.set i (.lst (xs ++ [d])))) : WV (mApp mo me ρ S) Q := by
  refine wv_b (h.imp fun o S1 h1 => ?_)
  obtain ⟨i, xs0, rfl, e, h2⟩ := h1
  dsimp only
  rw [e]
  dsimp only
  refine wv_b (h2.imp fun d S2 h3 => ?_)
  obtain ⟨xs, e2, e3, q⟩ := h3
  exact ⟨_, _, by rw [e2]; dsimp only; rw [if_pos e3], q⟩
theorem wv_dget {mo mk : M D} {Q : D → Sto → Prop} (h : WV (mo ρ S) fun o S1 => WV (mk ρ S1) fun k S2 => ∃ d, dctGet S2 o k = some (some d) ∧ Q d S2) : WV (mDGet mo mk ρ S) Q := by
  refine wv_b (h.imp fun o S1 h1 => wv_b (h1.imp fun k S2 h2 => ?_))
  obtain ⟨d, e, q⟩ := h2
  exact ⟨d, S2, by rw [e], q⟩
theorem wv_dget2 {mo mk mx : M D} {Q : D → Sto → Prop} (h : WV (mo ρ S) fun o S1 => (∃ kvs, dctOf S1 o = some kvs) ∧ WV (mk ρ S1) fun k S2 => WV (mx ρ S2) fun x S3 => ∃ r, dctGet S3 o k = some r ∧ Q (r.getD x) S3) : WV (mDGet2 mo mk mx ρ S) Q := by
  refine wv_b (h.imp fun o S1 h1 => ?_)
  obtain ⟨⟨kvs, e⟩, h2⟩ := h1
  show WV ((match dctOf S1 o with | some _ => _ | none => none)) Q
  rw [e]
  dsimp only
  refine wv_b (h2.imp fun k S2 h3 => wv_b (h3.imp fun x S3 h4 => ?_))
  obtain ⟨r, e2, q⟩ := h4
  cases r with
  | none => exact ⟨x, S3, by rw [e2], q⟩
  | some d => exact ⟨d, S3, by rw [e2], q⟩
theorem wv_din {neg : Bool} {mk mo : M D} {Q : Bool → Sto → Prop} (h : WV (mk ρ S) fun k S1 => WV (mo ρ S1) fun o S2 => ∃ r, dctGet S2 o k = some r ∧ Q (r.isSome != neg) S2) : WV (mDIn neg mk mo ρ S) Q := by
  refine wv_b (h.imp fun k S1 h1 => wv_b (h1.imp fun o S2 h2 => ?_))
  obtain ⟨r, e, q⟩ := h2
  exact ⟨_, S2, by rw [e], q⟩
theorem wv_dct1 {mk mv : M D} {Q : D → Sto → Prop} (h : WV (mk ρ (S ++ [.dct []])) fun k S1 => WV (mv ρ S1) fun v S2 => ∃ ks, keyD k = some ks ∧ S2[S.length]? = some (.dct []) ∧ Q (.ref S.length) (S2.set S.length (.dct [(ks, v)]))) : WV (mDct1 mk mv ρ S) Q := by
  unfold mDct1
  refine wv_b (h.imp fun k S1 h1 => wv_b (h1.imp fun v S2 h2 => ?_))
  obtain ⟨ks, e1, e2, q⟩ := h2
  exact ⟨_, _, by rw [e1, e2], q⟩
theorem wv_sx2 {m ml mh : M D} {Q : D → Sto → Prop} (h : WV (m ρ S) fun a S1 => WV (ml ρ S1) fun l S2 => ∃ i : Int, l = .int i ∧ WV (mh ρ S2) fun h S3 => ∃ j : Int, h = .int j ∧ WG (slD S3 a (some i) (some j)) Q) : WV (mSx2 m ml mh ρ S) Q := by
  refine wv_b (h.imp fun a S1 h1 => wv_b (h1.imp fun l S2 h2 => ?_))
  obtain ⟨i, rfl, h3⟩ := h2
  refine wv_b (h3.imp fun h S3 h4 => ?_)
  obtain ⟨j, rfl, d, S', e, q⟩ := h4
  exact ⟨d, S', by show (match slD S3 a (some i) (some j) with | some (d, S') => some (R.val d S') | none => none) = _; rw [e], q⟩
theorem wv_sxH {m mh : M D} {Q : D → Sto → Prop} (h : WV (m ρ S) fun a S1 => WV (mh ρ S1) fun h S3 => ∃ j : Int, h = .int j ∧ WG (slD S3 a none (some j)) Q) : WV (mSxH m mh ρ S) Q := by
  refine wv_b (h.imp fun a S1 h1 => wv_b (h1.imp fun h S3 h4 => ?_))
  obtain ⟨j, rfl, d, S', e, q⟩ := h4
  exact ⟨d, S', by show (match slD S3 a none (some j) with | some (d, S') => some (R.val d S') | none => none) = _; rw [e], q⟩
theorem wv_sxL {m ml : M D} {Q : D → Sto → Prop} (h : WV (m ρ S) fun a S1 => WV (ml ρ S1) fun h S3 => ∃ j : Int, h = .int j ∧ WG (slD S3 a (some j) none) Q) : WV (mSxL m ml ρ S) Q := by
  refine wv_b (h.imp fun a S1 h1 => wv_b (h1.imp fun h S3 h4 => ?_))
  obtain ⟨j, rfl, d, S', e, q⟩ := h4
  exact ⟨d, S', by show (match slD S3 a (some j) none with | some (d, S') => some (R.val d S') | none => none) = _; rw [e], q⟩
/-! statements -/
theorem ws_seq {a b : MS} (h : WS (a ρ S) (fun ρ1 S1 => WS (b ρ1 S1) N T B C) T B C) : WS (sSeq a b ρ S) N T B C := by
  unfold sSeq
  rcases h with ⟨ρ1, S1, e, k⟩ | ⟨d, S1, e, k⟩ | ⟨ρ1, S1, e, k⟩ | ⟨ρ1, S1, e, k⟩ <;> rw [e]
  · exact k
  · exact .inr (.inl ⟨d, S1, rfl, k⟩)
  · exact .inr (.inr (.inl ⟨ρ1, S1, rfl, k⟩))
  · exact .inr (.inr (.inr ⟨ρ1, S1, rfl, k⟩))
theorem ws_nil (h : N ρ S) : WS (sNil ρ S) N T B C := .inl ⟨ρ, S, rfl, h⟩
theorem ws_ex {m : M D} (h : WV (m ρ S) fun _ S1 => N ρ S1) : WS (sEx m ρ S) N T B C := ws_b (h.imp fun _ _ h1 => .inl ⟨_, _, rfl, h1⟩)
theorem ws_ret {m : M D} (h : WV (m ρ S) T) : WS (sRet m ρ S) N T B C := ws_b (h.imp fun _ _ h1 => .inr (.inl ⟨_, _, rfl, h1⟩))
theorem ws_retN (h : T .non S) : WS (sRetN ρ S) N T B C := .inr (.inl ⟨_, _, rfl, h⟩)
theorem ws_set {i : Nat} {m : M D} (h : WV (m ρ S) fun d S1 => N (ρ.set i (some d)) S1) : WS (sSet i m ρ S) N T B C := ws_b (h.imp fun _ _ h1 => .inl ⟨_, _, rfl, h1⟩)
theorem ws_if {c : M Bool} {a b : MS} (h : WV (c ρ S) fun k S1 => (k = true → WS (a ρ S1) N T B C) ∧ (k = false → WS (b ρ S1) N T B C)) : WS (sIf c a b ρ S) N T B C := ws_b (h.imp fun k S1 h1 => by
  cases k with
  | true => exact h1.1 rfl
  | false => exact h1.2 rfl)
theorem ws_asg {t : Tgt} {m : M D} (h : WV (m ρ S) fun d S1 => ∃ ρ1, t d ρ S1 = some ρ1 ∧ N ρ1 S1) : WS (sAsg t m ρ S) N T B C := ws_b (h.imp fun d S1 h1 => by
  obtain ⟨ρ1, e, k⟩ := h1
  exact .inl ⟨ρ1, S1, by rw [e]; rfl, k⟩)
theorem ws_par {i j : Nat} {ms : M (List D)} (h : WV (ms ρ S) fun ds S1 => ∃ a b, ds = [a, b] ∧ N ((ρ.set i (some a)).set j (some b)) S1) : WS (sPar i j ms ρ S) N T B C := ws_b (h.imp fun ds S1 h1 => by
  obtain ⟨a, b, rfl, k⟩ := h1
  exact .inl ⟨_, _, rfl, k⟩)
theorem ws_dput {mo mk mv : M D} (h : WV (mv ρ S) fun v S1 => WV (mo ρ S1) fun o S2 => WV (mk ρ S2) fun k S3 => ∃ i kvs ks, o = .ref i ∧ S3[i]? = some (.dct kvs) ∧ keyD k = some ks ∧ kvs.length < 1000000 ∧ N ρ (S3.set i (.dct (putD kvs ks v)))) : WS (sDPut mo mk mv ρ S) N T B C := by
  refine ws_b (h.imp fun v S1 h1 => ws_b (h1.imp fun o S2 h2 => ws_b (h2.imp fun k S3 h3 => ?_)))
  obtain ⟨i, kvs, ks, rfl, e1, e2, e3, q⟩ := h3
  refine .inl ⟨_, _, ?_, q⟩
  have : dctOf S3 (.ref i) = some kvs := by unfold dctOf; dsimp only; rw [e1]
  rw [this, e2]
  dsimp only
  rw [if_pos e3]
  rfl
theorem ws_lput {mo mi mv : M D} (h : WV (mv ρ S) fun v S1 => WV (mo ρ S1) fun o S2 => WV (mi ρ S2) fun k S3 => ∃ (i : Nat) (xs : List D) (n : Int) (j : Nat), o = .ref i ∧ S3[i]? = some (.lst xs) ∧ k = .int n ∧ ixN xs.length n = some j ∧ N ρ (S3.set i (.lst (xs.set j v)))) : WS (sLPut mo mi mv ρ S) N T B C := by
  refine ws_b (h.imp fun v S1 h1 => ws_b (h1.imp fun o S2 h2 => ws_b (h2.imp fun k S3 h3 => ?_)))
  obtain ⟨i, xs, n, j, rfl, e1, rfl, e3, q⟩ := h3
  refine .inl ⟨_, _, ?_, q⟩
  have : lstR S3 (.ref i) = some xs := by unfold lstR; dsimp only; rw [e1]
  rw [this]
  show (match ixN xs.length n with | some j => _ | none => none) = _
  rw [e3]
  rfl
/-! a def -/
theorem wf_fn {n : Nat} {m : MS} {ds : List D} {Q : D → Sto → Prop} (h : WS (m (ds.map some ++ List.replicate (n - ds.length) none) S) (fun _ S1 => Q .non S1) Q (fun _ _ => False) (fun _ _ => False)) : WV (fnOf n m ds S) Q := by
  unfold fnOf
  rcases h with ⟨ρ1, S1, e, k⟩ | ⟨d, S1, e, k⟩ | ⟨ρ1, S1, e, k⟩ | ⟨ρ1, S1, e, k⟩
  · exact ⟨_, _, by rw [e], k⟩
  · exact ⟨_, _, by rw [e], k⟩
  · exact k.elim
  · exact k.elim
/-! loops -/
def SqIs (sq : Sq) (xs : List D) (S : Sto) : Prop := ∀ i, sq i S = some xs[i]?
theorem sqIs_it {xs : List D} {S : Sto} : SqIs (sqIt xs) xs S := fun _ => rfl
theorem sqIs_ref {id : Nat} {xs : List D} {S : Sto} (h : S[id]? = some (.lst xs)) : SqIs (sqRef id) xs S := fun i => by unfold sqRef; rw [h]
theorem loop_inv {t : Tgt} {b : MS} {sq : Sq} {xs : List D} (I : Nat → Env → Sto → Prop) (hsq : ∀ k ρ S, I k ρ S → SqIs sq xs S)
    (hb : ∀ k x ρ S, xs[k]? = some x → I k ρ S → ∃ ρ1, t x ρ S = some ρ1 ∧ WS (b ρ1 S) (I (k + 1)) T N (I (k + 1)))
    (he : ∀ ρ S, I xs.length ρ S → N ρ S) : ∀ (n k : Nat) (ρ : Env) (S : Sto), xs.length - k < n → k ≤ xs.length → I k ρ S → WS (loopQ t b sq n k ρ S) N T B C
  | 0, k, ρ, S, h, _, _ => absurd h (by omega)
  | n + 1, k, ρ, S, h, hk, hi => by
    unfold loopQ
    rw [hsq k ρ S hi k]
    cases hx : xs[k]? with
    | none =>
      have : k = xs.length := by
        have := List.getElem?_eq_none_iff.mp hx
        omega
      subst this
      exact .inl ⟨ρ, S, rfl, he _ _ hi⟩
    | some x =>
      have hlt : k < xs.length := by
        by_cases c : k < xs.length
        · exact c
        · rw [List.getElem?_eq_none (by omega)] at hx; cases hx
      obtain ⟨ρ1, e1, h1⟩ := hb k x ρ S hx hi
      dsimp only
      rw [e1]
      dsimp only
      rcases h1 with ⟨ρ2, S2, e2, q⟩ | ⟨d, S2, e2, q⟩ | ⟨ρ2, S2, e2, q⟩ | ⟨ρ2, S2, e2, q⟩
      · rw [e2]
        exact loop_inv I hsq hb he n (k + 1) ρ2 S2 (by omega) hlt q
      · exact .inr (.inl ⟨d, S2, by rw [e2], q⟩)
      · exact .inl ⟨ρ2, S2, by rw [e2], q⟩
      · rw [e2]
        exact loop_inv I hsq hb he n (k + 1) ρ2 S2 (by omega) hlt q
theorem ws_for {t : Tgt} {it : M Sq} {b : MS} (xs : List D) (I : Nat → Env → Sto → Prop) (hl : xs.length < 1000000)
    (h : WV (it ρ S) fun sq S1 => I 0 ρ S1 ∧ ∀ k ρ S, I k ρ S → SqIs sq xs S)
    (hb : ∀ k x ρ S, xs[k]? = some x → I k ρ S → ∃ ρ1, t x ρ S = some ρ1 ∧ WS (b ρ1 S) (I (k + 1)) T N (I (k + 1)))
    (he : ∀ ρ S, I xs.length ρ S → N ρ S) : WS (sFor t it b ρ S) N T B C :=
  ws_b (h.imp fun sq S1 h1 => loop_inv I h1.2 hb he fuel 0 ρ S1 (lt_fuel (k := 20) (Nat.lt_of_le_of_lt (Nat.sub_le _ _) (Nat.lt_trans hl (by decide))) (by omega)) (Nat.zero_le _) h1.1)
theorem loopC_inv {t : Tgt} {c : M Bool} {el : M D} {sq : Sq} {xs : List D} {ρ0 : Env} {n0 : Nat} {S1 : Sto} {f : D → Option D} (hn : n0 = S1.length) (hl : xs.length < 1000000) (hsq : ∀ S, Keep S1 S → SqIs sq xs S)
    (hb : ∀ x ∈ xs, ∀ S, Keep S1 S → ∃ ρ1, t x ρ0 S = some ρ1 ∧ WV (c ρ1 S) fun k S2 => Keep S S2 ∧ (k = true → WV (el ρ1 S2) fun d S3 => Keep S2 S3 ∧ f x = some d) ∧ (k = false → f x = none)) :
    ∀ (n k : Nat) (S : Sto) (acc : List D), xs.length - k < n → k ≤ xs.length → acc.length ≤ k → Keep S1 S → S[n0]? = some (.lst acc) → ∃ S', loopC t c el sq ρ0 n0 n k S = some S' ∧ Keep S1 S' ∧ S'[n0]? = some (.lst (acc ++ (xs.drop k).filterMap f))
  | 0, k, S, acc, h, _, _, _, _ => absurd h (by omega)
  | n + 1, k, S, acc, h, hk, ha, kp, hs => by
    rw [loopC, hsq S kp k]
    by_cases hlt : k < xs.length
    · have hx : xs[k]? = some xs[k] := List.getElem?_eq_getElem hlt
      rw [hx]
      obtain ⟨ρ1, e1, b, S2, e2, k2, y1, y2⟩ := hb xs[k] (List.getElem_mem hlt) S kp
      dsimp only
      rw [e1]
      dsimp only
      rw [e2, List.drop_eq_getElem_cons hlt, List.filterMap_cons]
      cases b with
      | false =>
        dsimp only
        rw [y2 rfl]
        exact loopC_inv hn hl hsq hb n (k + 1) S2 acc (by omega) hlt (by omega) (kp.trans k2) (k2 _ _ hs)
      | true =>
        obtain ⟨d, S3, e3, k3, e4⟩ := y1 rfl
        have hs3 := k3 _ _ (k2 _ _ hs)
        dsimp only
        rw [e3]
        dsimp only
        rw [hs3]
        dsimp only
        rw [if_pos (by omega), e4]
        obtain ⟨S', a1, a2, a3⟩ := loopC_inv hn hl hsq hb n (k + 1) (S3.set n0 (.lst (acc ++ [d]))) (acc ++ [d]) (by omega) hlt (by rw [List.length_append, List.length_singleton]; omega) ((kp.trans (k2.trans k3)).put (by omega) _) (List.getElem?_set_self (lt_of_get hs3))
        refine ⟨S', a1, a2, ?_⟩
        rw [a3, List.append_assoc, List.singleton_append]
    · have hx : xs[k]? = none := List.getElem?_eq_none (by omega)
      rw [hx, List.drop_eq_nil_of_le (by omega), List.filterMap_nil, List.append_nil]
      exact ⟨S, rfl, kp, hs⟩
theorem wv_lc {vs : List Nat} {t : Tgt} {it : M Sq} {c : M Bool} {el : M D} {Q : D → Sto → Prop} (xs : List D) (f : D → Option D) (hl : xs.length < 1000000)
    (h : WV (it ρ S) fun sq S1 => (∀ S, Keep S1 S → SqIs sq xs S) ∧
      (∀ x ∈ xs, ∀ S, Keep S1 S → ∃ ρ1, t x (wipeE ρ vs) S = some ρ1 ∧ WV (c ρ1 S) fun k S2 => Keep S S2 ∧ (k = true → WV (el ρ1 S2) fun d S3 => Keep S2 S3 ∧ f x = some d) ∧ (k = false → f x = none)) ∧
      ∀ i S2, Keep S1 S2 → S1.length ≤ i → S2[i]? = some (.lst (xs.filterMap f)) → Q (.ref i) S2) : WV (mLc vs t it c el ρ S) Q := by
  refine wv_b (h.imp fun sq S1 h1 => ?_)
  obtain ⟨a1, a2, a3⟩ := h1
  obtain ⟨S', b1, b2, b3⟩ := loopC_inv (S1 := S1) (f := f) (ρ0 := wipeE ρ vs) rfl hl a1 a2 fuel 0 (S1 ++ [.lst []]) [] (lt_fuel (k := 20) (Nat.lt_of_le_of_lt (Nat.sub_le _ _) (Nat.lt_trans hl (by decide))) (by omega)) (Nat.zero_le _) (Nat.zero_le _) (Keep.app _ _) get_new
  refine ⟨.ref S1.length, S', by rw [b1], a3 _ _ b2 (Nat.le_refl _) ?_⟩
  rw [b3, List.drop_zero, List.nil_append]
end

theorem v0  {d : D} {r : List (Option D)} {S : Sto} {Q : D → Sto → Prop} (h : Q d S) : WV (mVar 0 (some d :: r) S) Q := wv_var rfl h
theorem s0  {x : Option D} {r : List (Option D)} {S : Sto} {m : M D} {N B C : Env → Sto → Prop} {T : D → Sto → Prop} (h : WV (m (x :: r) S) fun d S1 => N (some d :: r) S1) : WS (sSet 0 m (x :: r) S) N T B C := ws_set h
theorem v1 {x0 : Option D} {d : D} {r : List (Option D)} {S : Sto} {Q : D → Sto → Prop} (h : Q d S) : WV (mVar 1 (x0 :: some d :: r) S) Q := wv_var rfl h
theorem s1 {x0 : Option D} {x : Option D} {r : List (Option D)} {S : Sto} {m : M D} {N B C : Env → Sto → Prop} {T : D → Sto → Prop} (h : WV (m (x0 :: x :: r) S) fun d S1 => N (x0 :: some d :: r) S1) : WS (sSet 1 m (x0 :: x :: r) S) N T B C := ws_set h
theorem v2 {x0 : Option D} {x1 : Option D} {d : D} {r : List (Option D)} {S : Sto} {Q : D → Sto → Prop} (h : Q d S) : WV (mVar 2 (x0 :: x1 :: some d :: r) S) Q := wv_var rfl h
theorem s2 {x0 : Option D} {x1 : Option D} {x : Option D} {r : List (Option D)} {S : Sto} {m : M D} {N B C : Env → Sto → Prop} {T : D → Sto → Prop} (h : WV (m (x0 :: x1 :: x :: r) S) fun d S1 => N (x0 :: x1 :: some d :: r) S1) : WS (sSet 2 m (x0 :: x1 :: x :: r) S) N T B C := ws_set h
theorem v3 {x0 : Option D} {x1 : Option D} {x2 : Option D} {d : D} {r : List (Option D)} {S : Sto} {Q : D → Sto → Prop} (h : Q d S) : WV (mVar 3 (x0 :: x1 :: x2 :: some d :: r) S) Q := wv_var rfl h
theorem s3 {x0 : Option D} {x1 : Option D} {x2 : Option D} {x : Option D} {r : List (Option D)} {S : Sto} {m : M D} {N B C : Env → Sto → Prop} {T : D → Sto → Prop} (h : WV (m (x0 :: x1 :: x2 :: x :: r) S) fun d S1 => N (x0 :: x1 :: x2 :: some d :: r) S1) : WS (sSet 3 m (x0 :: x1 :: x2 :: x :: r) S) N T B C := ws_set h
theorem v4 {x0 : Option D} {x1 : Option D} {x2 : Option D} {x3 : Option D} {d : D} {r : List (Option D)} {S : Sto} {Q : D → Sto → Prop} (h : Q d S) : WV (mVar 4 (x0 :: x1 :: x2 :: x3 :: some d :: r) S) Q := wv_var rfl h
theorem s4 {x0 : Option D} {x1 : Option D} {x2 : Option D} {x3 : Option D} {x : Option D} {r : List (Option D)} {S : Sto} {m : M D} {N B C : Env → Sto → Prop} {T : D → Sto → Prop} (h : WV (m (x0 :: x1 :: x2 :: x3 :: x :: r) S) fun d S1 => N (x0 :: x1 :: x2 :: x3 :: some d :: r) S1) : WS (sSet 4 m (x0 :: x1 :: x2 :: x3 :: x :: r) S) N T B C := ws_set h
theorem v5 {x0 : Option D} {x1 : Option D} {x2 : Option D} {x3 : Option D} {x4 : Option D} {d : D} {r : List (Option D)} {S : Sto} {Q : D → Sto → Prop} (h : Q d S) : WV (mVar 5 (x0 :: x1 :: x2 :: x3 :: x4 :: some d :: r) S) Q := wv_var rfl h
theorem s5 {x0 : Option D} {x1 : Option D} {x2 : Option D} {x3 : Option D} {x4 : Option D} {x : Option D} {r : List (Option D)} {S : Sto} {m : M D} {N B C : Env → Sto → Prop} {T : D → Sto → Prop} (h : WV (m (x0 :: x1 :: x2 :: x3 :: x4 :: x :: r) S) fun d S1 => N (x0 :: x1 :: x2 :: x3 :: x4 :: some d :: r) S1) : WS (sSet 5 m (x0 :: x1 :: x2 :: x3 :: x4 :: x :: r) S) N T B C := ws_set h
theorem v6 {x0 : Option D} {x1 : Option D} {x2 : Option D} {x3 : Option D} {x4 : Option D} {x5 : Option D} {d : D} {r : List (Option D)} {S : Sto} {Q : D → Sto → Prop} (h : Q d S) : WV (mVar 6 (x0 :: x1 :: x2 :: x3 :: x4 :: x5 :: some d :: r) S) Q := wv_var rfl h
theorem s6 {x0 : Option D} {x1 : Option D} {x2 : Option D} {x3 : Option D} {x4 : Option D} {x5 : Option D} {x : Option D} {r : List (Option D)} {S : Sto} {m : M D} {N B C : Env → Sto → Prop} {T : D → Sto → Prop} (h : WV (m (x0 :: x1 :: x2 :: x3 :: x4 :: x5 :: x :: r) S) fun d S1 => N (x0 :: x1 :: x2 :: x3 :: x4 :: x5 :: some d :: r) S1) : WS (sSet 6 m (x0 :: x1 :: x2 :: x3 :: x4 :: x5 :: x :: r) S) N T B C := ws_set h
theorem v7 {x0 : Option D} {x1 : Option D} {x2 : Option D} {x3 : Option D} {x4 : Option D} {x5 : Option D} {x6 : Option D} {d : D} {r : List (Option D)} {S : Sto} {Q : D → Sto → Prop} (h : Q d S) : WV (mVar 7 (x0 :: x1 :: x2 :: x3 :: x4 :: x5 :: x6 :: some d :: r) S) Q := wv_var rfl h
theorem s7 {x0 : Option D} {x1 : Option D} {x2 : Option D} {x3 : Option D} {x4 : Option D} {x5 : Option D} {x6 : Option D} {x : Option D} {r : List (Option D)} {S : Sto} {m : M D} {N B C : Env → Sto → Prop} {T : D → Sto → Prop} (h : WV (m (x0 :: x1 :: x2 :: x3 :: x4 :: x5 :: x6 :: x :: r) S) fun d S1 => N (x0 :: x1 :: x2 :: x3 :: x4 :: x5 :: x6 :: some d :: r) S1) : WS (sSet 7 m (x0 :: x1 :: x2 :: x3 :: x4 :: x5 :: x6 :: x :: r) S) N T B C := ws_set h
theorem v8 {x0 : Option D} {x1 : Option D} {x2 : Option D} {x3 : Option D} {x4 : Option D} {x5 : Option D} {x6 : Option D} {x7 : Option D} {d : D} {r : List (Option D)} {S : Sto} {Q : D → Sto → Prop} (h : Q d S) : WV (mVar 8 (x0 :: x1 :: x2 :: x3 :: x4 :: x5 :: x6 :: x7 :: some d :: r) S) Q := wv_var rfl h
theorem s8 {x0 : Option D} {x1 : Option D} {x2 : Option D} {x3 : Option D} {x4 : Option D} {x5 : Option D} {x6 : Option D} {x7 : Option D} {x : Option D} {r : List (Option D)} {S : Sto} {m : M D} {N B C : Env → Sto → Prop} {T : D → Sto → Prop} (h : WV (m (x0 :: x1 :: x2 :: x3 :: x4 :: x5 :: x6 :: x7 :: x :: r) S) fun d S1 => N (x0 :: x1 :: x2 :: x3 :: x4 :: x5 :: x6 :: x7 :: some d :: r) S1) : WS (sSet 8 m (x0 :: x1 :: x2 :: x3 :: x4 :: x5 :: x6 :: x7 :: x :: r) S) N T B C := ws_set h
theorem v9 {x0 : Option D} {x1 : Option D} {x2 : Option D} {x3 : Option D} {x4 : Option D} {x5 : Option D} {x6 : Option D} {x7 : Option D} {x8 : Option D} {d : D} {r : List (Option D)} {S : Sto} {Q : D → Sto → Prop} (h : Q d S) : WV (mVar 9 (x0 :: x1 :: x2 :: x3 :: x4 :: x5 :: x6 :: x7 :: x8 :: some d :: r) S) Q := wv_var rfl h
theorem s9 {x0 : Option D} {x1 : Option D} {x2 : Option D} {x3 : Option D} {x4 : Option D} {x5 : Option D} {x6 : Option D} {x7 : Option D} {x8 : Option D} {x : Option D} {r : List (Option D)} {S : Sto} {m : M D} {N B C : Env → Sto → Prop} {T : D → Sto → Prop} (h : WV (m (x0 :: x1 :: x2 :: x3 :: x4 :: x5 :: x6 :: x7 :: x8 :: x :: r) S) fun d S1 => N (x0 :: x1 :: x2 :: x3 :: x4 :: x5 :: x6 :: x7 :: x8 :: some d :: r) S1) : WS (sSet 9 m (x0 :: x1 :: x2 :: x3 :: x4 :: x5 :: x6 :: x7 :: x8 :: x :: r) S) N T B C := ws_set h
theorem v10 {x0 : Option D} {x1 : Option D} {x2 : Option D} {x3 : Option D} {x4 : Option D} {x5 : Option D} {x6 : Option D} {x7 : Option D} {x8 : Option D} {x9 : Option D} {d : D} {r : List (Option D)} {S : Sto} {Q : D → Sto → Prop} (h : Q d S) : WV (mVar 10 (x0 :: x1 :: x2 :: x3 :: x4 :: x5 :: x6 :: x7 :: x8 :: x9 :: some d :: r) S) Q := wv_var rfl h
theorem s10 {x0 : Option D} {x1 : Option D} {x2 : Option D} {x3 : Option D} {x4 : Option D} {x5 : Option D} {x6 : Option D} {x7 : Option D} {x8 : Option D} {x9 : Option D} {x : Option D} {r : List (Option D)} {S : Sto} {m : M D} {N B C : Env → Sto → Prop} {T : D → Sto → Prop} (h : WV (m (x0 :: x1 :: x2 :: x3 :: x4 :: x5 :: x6 :: x7 :: x8 :: x9 :: x :: r) S) fun d S1 => N (x0 :: x1 :: x2 :: x3 :: x4 :: x5 :: x6 :: x7 :: x8 :: x9 :: some d :: r) S1) : WS (sSet 10 m (x0 :: x1 :: x2 :: x3 :: x4 :: x5 :: x6 :: x7 :: x8 :: x9 :: x :: r) S) N T B C := ws_set h
theorem v11 {x0 : Option D} {x1 : Option D} {x2 : Option D} {x3 : Option D} {x4 : Option D} {x5 : Option D} {x6 : Option D} {x7 : Option D} {x8 : Option D} {x9 : Option D} {x10 : Option D} {d : D} {r : List (Option D)} {S : Sto} {Q : D → Sto → Prop} (h : Q d S) : WV (mVar 11 (x0 :: x1 :: x2 :: x3 :: x4 :: x5 :: x6 :: x7 :: x8 :: x9 :: x10 :: some d :: r) S) Q := wv_var rfl h
theorem s11 {x0 : Option D} {x1 : Option D} {x2 : Option D} {x3 : Option D} {x4 : Option D} {x5 : Option D} {x6 : Option D} {x7 : Option D} {x8 : Option D} {x9 : Option D} {x10 : Option D} {x : Option D} {r : List (Option D)} {S : Sto} {m : M D} {N B C : Env → Sto → Prop} {T : D → Sto → Prop} (h : WV (m (x0 :: x1 :: x2 :: x3 :: x4 :: x5 :: x6 :: x7 :: x8 :: x9 :: x10 :: x :: r) S) fun d S1 => N (x0 :: x1 :: x2 :: x3 :: x4 :: x5 :: x6 :: x7 :: x8 :: x9 :: x10 :: some d :: r) S1) : WS (sSet 11 m (x0 :: x1 :: x2 :: x3 :: x4 :: x5 :: x6 :: x7 :: x8 :: x9 :: x10 :: x :: r) S) N T B C := ws_set h
theorem v12 {x0 : Option D} {x1 : Option D} {x2 : Option D} {x3 : Option D} {x4 : Option D} {x5 : Option D} {x6 : Option D} {x7 : Option D} {x8 : Option D} {x9 : Option D} {x10 : Option D} {x11 : Option D} {d : D} {r : List (Option D)} {S : Sto} {Q : D → Sto → Prop} (h : Q d S) : WV (mVar 12 (x0 :: x1 :: x2 :: x3 :: x4 :: x5 :: x6 :: x7 :: x8 :: x9 :: x10 :: x11 :: some d :: r) S) Q := wv_var rfl h
theorem s12 {x0 : Option D} {x1 : Option D} {x2 : Option D} {x3 : Option D} {x4 : Option D} {x5 : Option D} {x6 : Option D} {x7 : Option D} {x8 : Option D} {x9 : Option D} {x10 : Option D} {x11 : Option D} {x : Option D} {r : List (Option D)} {S : Sto} {m : M D} {N B C : Env → Sto → Prop} {T : D → Sto → Prop} (h : WV (m (x0 :: x1 :: x2 :: x3 :: x4 :: x5 :: x6 :: x7 :: x8 :: x9 :: x10 :: x11 :: x :: r) S) fun d S1 => N (x0 :: x1 :: x2 :: x3 :: x4 :: x5 :: x6 :: x7 :: x8 :: x9 :: x10 :: x11 :: some d :: r) S1) : WS (sSet 12 m (x0 :: x1 :: x2 :: x3 :: x4 :: x5 :: x6 :: x7 :: x8 :: x9 :: x10 :: x11 :: x :: r) S) N T B C := ws_set h
theorem v13 {x0 : Option D} {x1 : Option D} {x2 : Option D} {x3 : Option D} {x4 : Option D} {x5 : Option D} {x6 : Option D} {x7 : Option D} {x8 : Option D} {x9 : Option D} {x10 : Option D} {x11 : Option D} {x12 : Option D} {d : D} {r : List (Option D)} {S : Sto} {Q : D → Sto → Prop} (h : Q d S) : WV (mVar 13 (x0 :: x1 :: x2 :: x3 :: x4 :: x5 :: x6 :: x7 :: x8 :: x9 :: x10 :: x11 :: x12 :: some d :: r) S) Q := wv_var rfl h
theorem s13 {x0 : Option D} {x1 : Option D} {x2 : Option D} {x3 : Option D} {x4 : Option D} {x5 : Option D} {x6 : Option D} {x7 : Option D} {x8 : Option D} {x9 : Option D} {x10 : Option D} {x11 : Option D} {x12 : Option D} {x : Option D} {r : List (Option D)} {S : Sto} {m : M D} {N B C : Env → Sto → Prop} {T : D → Sto → Prop} (h : WV (m (x0 :: x1 :: x2 :: x3 :: x4 :: x5 :: x6 :: x7 :: x8 :: x9 :: x10 :: x11 :: x12 :: x :: r) S) fun d S1 => N (x0 :: x1 :: x2 :: x3 :: x4 :: x5 :: x6 :: x7 :: x8 :: x9 :: x10 :: x11 :: x12 :: some d :: r) S1) : WS (sSet 13 m (x0 :: x1 :: x2 :: x3 :: x4 :: x5 :: x6 :: x7 :: x8 :: x9 :: x10 :: x11 :: x12 :: x :: r) S) N T B C := ws_set h
theorem v14 {x0 : Option D} {x1 : Option D} {x2 : Option D} {x3 : Option D} {x4 : Option D} {x5 : Option D} {x6 : Option D} {x7 : Option D} {x8 : Option D} {x9 : Option D} {x10 : Option D} {x11 : Option D} {x12 : Option D} {x13 : Option D} {d : D} {r : List (Option D)} {S : Sto} {Q : D → Sto → Prop} (h : Q d S) : WV (mVar 14 (x0 :: x1 :: x2 :: x3 :: x4 :: x5 :: x6 :: x7 :: x8 :: x9 :: x10 :: x11 :: x12 :: x13 :: some d :: r) S) Q := wv_var rfl h
theorem s14 {x0 : Option D} {x1 : Option D} {x2 : Option D} {x3 : Option D} {x4 : Option D} {x5 : Option D} {x6 : Option D} {x7 : Option D} {x8 : Option D} {x9 : Option D} {x10 : Option D} {x11 : Option D} {x12 : Option D} {x13 : Option D} {x : Option D} {r : List (Option D)} {S : Sto} {m : M D} {N B C : Env → Sto → Prop} {T : D → Sto → Prop} (h : WV (m (x0 :: x1 :: x2 :: x3 :: x4 :: x5 :: x6 :: x7 :: x8 :: x9 :: x10 :: x11 :: x12 :: x13 :: x :: r) S) fun d S1 => N (x0 :: x1 :: x2 :: x3 :: x4 :: x5 :: x6 :: x7 :: x8 :: x9 :: x10 :: x11 :: x12 :: x13 :: some d :: r) S1) : WS (sSet 14 m (x0 :: x1 :: x2 :: x3 :: x4 :: x5 :: x6 :: x7 :: x8 :: x9 :: x10 :: x11 :: x12 :: x13 :: x :: r) S) N T B C := ws_set h
theorem v15 {x0 : Option D} {x1 : Option D} {x2 : Option D} {x3 : Option D} {x4 : Option D} {x5 : Option D} {x6 : Option D} {x7 : Option D} {x8 : Option D} {x9 : Option D} {x10 : Option D} {x11 : Option D} {x12 : Option D} {x13 : Option D} {x14 : Option D} {d : D} {r : List (Option D)} {S : Sto} {Q : D → Sto → Prop} (h : Q d S) : WV (mVar 15 (x0 :: x1 :: x2 :: x3 :: x4 :: x5 :: x6 :: x7 :: x8 :: x9 :: x10 :: x11 :: x12 :: x13 :: x14 :: some d :: r) S) Q := wv_var rfl h
theorem s15 {x0 : Option D} {x1 : Option D} {x2 : Option D} {x3 : Option D} {x4 : Option D} {x5 : Option D} {x6 : Option D} {x7 : Option D} {x8 : Option D} {x9 : Option D} {x10 : Option D} {x11 : Option D} {x12 : Option D} {x13 : Option D} {x14 : Option D} {x : Option D} {r : List (Option D)} {S : Sto} {m : M D} {N B C : Env → Sto → Prop} {T : D → Sto → Prop} (h : WV (m (x0 :: x1 :: x2 :: x3 :: x4 :: x5 :: x6 :: x7 :: x8 :: x9 :: x10 :: x11 :: x12 :: x13 :: x14 :: x :: r) S) fun d S1 => N (x0 :: x1 :: x2 :: x3 :: x4 :: x5 :: x6 :: x7 :: x8 :: x9 :: x10 :: x11 :: x12 :: x13 :: x14 :: some d :: r) S1) : WS (sSet 15 m (x0 :: x1 :: x2 :: x3 :: x4 :: x5 :: x6 :: x7 :: x8 :: x9 :: x10 :: x11 :: x12 :: x13 :: x14 :: x :: r) S) N T B C := ws_set h
theorem v16 {x0 : Option D} {x1 : Option D} {x2 : Option D} {x3 : Option D} {x4 : Option D} {x5 : Option D} {x6 : Option D} {x7 : Option D} {x8 : Option D} {x9 : Option D} {x10 : Option D} {x11 : Option D} {x12 : Option D} {x13 : Option D} {x14 : Option D} {x15 : Option D} {d : D} {r : List (Option D)} {S : Sto} {Q : D → Sto → Prop} (h : Q d S) : WV (mVar 16 (x0 :: x1 :: x2 :: x3 :: x4 :: x5 :: x6 :: x7 :: x8 :: x9 :: x10 :: x11 :: x12 :: x13 :: x14 :: x15 :: some d :: r) S) Q := wv_var rfl h
theorem s16 {x0 : Option D} {x1 : Option D} {x2 : Option D} {x3 : Option D} {x4 : Option D} {x5 : Option D} {x6 : Option D} {x7 : Option D} {x8 : Option D} {x9 : Option D} {x10 : Option D} {x11 : Option D} {x12 : Option D} {x13 : Option D} {x14 : Option D} {x15 : Option D} {x : Option D} {r : List (Option D)} {S : Sto} {m : M D} {N B C : Env → Sto → Prop} {T : D → Sto → Prop} (h : WV (m (x0 :: x1 :: x2 :: x3 :: x4 :: x5 :: x6 :: x7 :: x8 :: x9 :: x10 :: x11 :: x12 :: x13 :: x14 :: x15 :: x :: r) S) fun d S1 => N (x0 :: x1 :: x2 :: x3 :: x4 :: x5 :: x6 :: x7 :: x8 :: x9 :: x10 :: x11 :: x12 :: x13 :: x14 :: x15 :: some d :: r) S1) : WS (sSet 16 m (x0 :: x1 :: x2 :: x3 :: x4 :: x5 :: x6 :: x7 :: x8 :: x9 :: x10 :: x11 :: x12 :: x13 :: x14 :: x15 :: x :: r) S) N T B C := ws_set h
theorem v17 {x0 : Option D} {x1 : Option D} {x2 : Option D} {x3 : Option D} {x4 : Option D} {x5 : Option D} {x6 : Option D} {x7 : Option D} {x8 : Option D} {x9 : Option D} {x10 : Option D} {x11 : Option D} {x12 : Option D} {x13 : Option D} {x14 : Option D} {x15 : Option D} {x16 : Option D} {d : D} {r : List (Option D)} {S : Sto} {Q : D → Sto → Prop} (h : Q d S) : WV (mVar 17 (x0 :: x1 :: x2 :: x3 :: x4 :: x5 :: x6 :: x7 :: x8 :: x9 :: x10 :: x11 :: x12 :: x13 :: x14 :: x15 :: x16 :: some d :: r) S) Q := wv_var rfl h
theorem s17 {x0 : Option D} {x1 : Option D} {x2 : Option D} {x3 : Option D} {x4 : Option D} {x5 : Option D} {x6 : Option D} {x7 : Option D} {x8 : Option D} {x9 : Option D} {x10 : Option D} {x11 : Option D} {x12 : Option D} {x13 : Option D} {x14 : Option D} {x15 : Option D} {x16 : Option D} {x : Option D} {r : List (Option D)} {S : Sto} {m : M D} {N B C : Env → Sto → Prop} {T : D → Sto → Prop} (h : WV (m (x0 :: x1 :: x2 :: x3 :: x4 :: x5 :: x6 :: x7 :: x8 :: x9 :: x10 :: x11 :: x12 :: x13 :: x14 :: x15 :: x16 :: x :: r) S) fun d S1 => N (x0 :: x1 :: x2 :: x3 :: x4 :: x5 :: x6 :: x7 :: x8 :: x9 :: x10 :: x11 :: x12 :: x13 :: x14 :: x15 :: x16 :: some d :: r) S1) : WS (sSet 17 m (x0 :: x1 :: x2 :: x3 :: x4 :: x5 :: x6 :: x7 :: x8 :: x9 :: x10 :: x11 :: x12 :: x13 :: x14 :: x15 :: x16 :: x :: r) S) N T B C := ws_set h
theorem v18 {x0 : Option D} {x1 : Option D} {x2 : Option D} {x3 : Option D} {x4 : Option D} {x5 : Option D} {x6 : Option D} {x7 : Option D} {x8 : Option D} {x9 : Option D} {x10 : Option D} {x11 : Option D} {x12 : Option D} {x13 : Option D} {x14 : Option D} {x15 : Option D} {x16 : Option D} {x17 : Option D} {d : D} {r : List (Option D)} {S : Sto} {Q : D → Sto → Prop} (h : Q d S) : WV (mVar 18 (x0 :: x1 :: x2 :: x3 :: x4 :: x5 :: x6 :: x7 :: x8 :: x9 :: x10 :: x11 :: x12 :: x13 :: x14 :: x15 :: x16 :: x17 :: some d :: r) S) Q := wv_var rfl h
theorem s18 {x0 : Option D} {x1 : Option D} {x2 : Option D} {x3 : Option D} {x4 : Option D} {x5 : Option D} {x6 : Option D} {x7 : Option D} {x8 : Option D} {x9 : Option D} {x10 : Option D} {x11 : Option D} {x12 : Option D} {x13 : Option D} {x14 : Option D} {x15 : Option D} {x16 : Option D} {x17 : Option D} {x : Option D} {r : List (Option D)} {S : Sto} {m : M D} {N B C : Env → Sto → Prop} {T : D → Sto → Prop} (h : WV (m (x0 :: x1 :: x2 :: x3 :: x4 :: x5 :: x6 :: x7 :: x8 :: x9 :: x10 :: x11 :: x12 :: x13 :: x14 :: x15 :: x16 :: x17 :: x :: r) S) fun d S1 => N (x0 :: x1 :: x2 :: x3 :: x4 :: x5 :: x6 :: x7 :: x8 :: x9 :: x10 :: x11 :: x12 :: x13 :: x14 :: x15 :: x16 :: x17 :: some d :: r) S1) : WS (sSet 18 m (x0 :: x1 :: x2 :: x3 :: x4 :: x5 :: x6 :: x7 :: x8 :: x9 :: x10 :: x11 :: x12 :: x13 :: x14 :: x15 :: x16 :: x17 :: x :: r) S) N T B C := ws_set h
theorem v19 {x0 : Option D} {x1 : Option D} {x2 : Option D} {x3 : Option D} {x4 : Option D} {x5 : Option D} {x6 : Option D} {x7 : Option D} {x8 : Option D} {x9 : Option D} {x10 : Option D} {x11 : Option D} {x12 : Option D} {x13 : Option D} {x14 : Option D} {x15 : Option D} {x16 : Option D} {x17 : Option D} {x18 : Option D} {d : D} {r : List (Option D)} {S : Sto} {Q : D → Sto → Prop} (h : Q d S) : WV (mVar 19 (x0 :: x1 :: x2 :: x3 :: x4 :: x5 :: x6 :: x7 :: x8 :: x9 :: x10 :: x11 :: x12 :: x13 :: x14 :: x15 :: x16 :: x17 :: x18 :: some d :: r) S) Q := wv_var rfl h
theorem s19 {x0 : Option D} {x1 : Option D} {x2 : Option D} {x3 : Option D} {x4 : Option D} {x5 : Option D} {x6 : Option D} {x7 : Option D} {x8 : Option D} {x9 : Option D} {x10 : Option D} {x11 : Option D} {x12 : Option D} {x13 : Option D} {x14 : Option D} {x15 : Option D} {x16 : Option D} {x17 : Option D} {x18 : Option D} {x : Option D} {r : List (Option D)} {S : Sto} {m : M D} {N B C : Env → Sto → Prop} {T : D → Sto → Prop} (h : WV (m (x0 :: x1 :: x2 :: x3 :: x4 :: x5 :: x6 :: x7 :: x8 :: x9 :: x10 :: x11 :: x12 :: x13 :: x14 :: x15 :: x16 :: x17 :: x18 :: x :: r) S) fun d S1 => N (x0 :: x1 :: x2 :: x3 :: x4 :: x5 :: x6 :: x7 :: x8 :: x9 :: x10 :: x11 :: x12 :: x13 :: x14 :: x15 :: x16 :: x17 :: x18 :: some d :: r) S1) : WS (sSet 19 m (x0 :: x1 :: x2 :: x3 :: x4 :: x5 :: x6 :: x7 :: x8 :: x9 :: x10 :: x11 :: x12 :: x13 :: x14 :: x15 :: x16 :: x17 :: x18 :: x :: r) S) N T B C := ws_set h
theorem v20 {x0 : Option D} {x1 : Option D} {x2 : Option D} {x3 : Option D} {x4 : Option D} {x5 : Option D} {x6 : Option D} {x7 : Option D} {x8 : Option D} {x9 : Option D} {x10 : Option D} {x11 : Option D} {x12 : Option D} {x13 : Option D} {x14 : Option D} {x15 : Option D} {x16 : Option D} {x17 : Option D} {x18 : Option D} {x19 : Option D} {d : D} {r : List (Option D)} {S : Sto} {Q : D → Sto → Prop} (h : Q d S) : WV (mVar 20 (x0 :: x1 :: x2 :: x3 :: x4 :: x5 :: x6 :: x7 :: x8 :: x9 :: x10 :: x11 :: x12 :: x13 :: x14 :: x15 :: x16 :: x17 :: x18 :: x19 :: some d :: r) S) Q := wv_var rfl h
theorem s20 {x0 : Option D} {x1 : Option D} {x2 : Option D} {x3 : Option D} {x4 : Option D} {x5 : Option D} {x6 : Option D} {x7 : Option D} {x8 : Option D} {x9 : Option D} {x10 : Option D} {x11 : Option D} {x12 : Option D} {x13 : Option D} {x14 : Option D} {x15 : Option D} {x16 : Option D} {x17 : Option D} {x18 : Option D} {x19 : Option D} {x : Option D} {r : List (Option D)} {S : Sto} {m : M D} {N B C : Env → Sto → Prop} {T : D → Sto → Prop} (h : WV (m (x0 :: x1 :: x2 :: x3 :: x4 :: x5 :: x6 :: x7 :: x8 :: x9 :: x10 :: x11 :: x12 :: x13 :: x14 :: x15 :: x16 :: x17 :: x18 :: x19 :: x :: r) S) fun d S1 => N (x0 :: x1 :: x2 :: x3 :: x4 :: x5 :: x6 :: x7 :: x8 :: x9 :: x10 :: x11 :: x12 :: x13 :: x14 :: x15 :: x16 :: x17 :: x18 :: x19 :: some d :: r) S1) : WS (sSet 20 m (x0 :: x1 :: x2 :: x3 :: x4 :: x5 :: x6 :: x7 :: x8 :: x9 :: x10 :: x11 :: x12 :: x13 :: x14 :: x15 :: x16 :: x17 :: x18 :: x19 :: x :: r) S) N T B C := ws_set h
theorem v21 {x0 : Option D} {x1 : Option D} {x2 : Option D} {x3 : Option D} {x4 : Option D} {x5 : Option D} {x6 : Option D} {x7 : Option D} {x8 : Option D} {x9 : Option D} {x10 : Option D} {x11 : Option D} {x12 : Option D} {x13 : Option D} {x14 : Option D} {x15 : Option D} {x16 : Option D} {x17 : Option D} {x18 : Option D} {x19 : Option D} {x20 : Option D} {d : D} {r : List (Option D)} {S : Sto} {Q : D → Sto → Prop} (h : Q d S) : WV (mVar 21 (x0 :: x1 :: x2 :: x3 :: x4 :: x5 :: x6 :: x7 :: x8 :: x9 :: x10 :: x11 :: x12 :: x13 :: x14 :: x15 :: x16 :: x17 :: x18 :: x19 :: x20 :: some d :: r) S) Q := wv_var rfl h
theorem s21 {x0 : Option D} {x1 : Option D} {x2 : Option D} {x3 : Option D} {x4 : Option D} {x5 : Option D} {x6 : Option D} {x7 : Option D} {x8 : Option D} {x9 : Option D} {x10 : Option D} {x11 : Option D} {x12 : Option D} {x13 : Option D} {x14 : Option D} {x15 : Option D} {x16 : Option D} {x17 : Option D} {x18 : Option D} {x19 : Option D} {x20 : Option D} {x : Option D} {r : List (Option D)} {S : Sto} {m : M D} {N B C : Env → Sto → Prop} {T : D → Sto → Prop} (h : WV (m (x0 :: x1 :: x2 :: x3 :: x4 :: x5 :: x6 :: x7 :: x8 :: x9 :: x10 :: x11 :: x12 :: x13 :: x14 :: x15 :: x16 :: x17 :: x18 :: x19 :: x20 :: x :: r) S) fun d S1 => N (x0 :: x1 :: x2 :: x3 :: x4 :: x5 :: x6 :: x7 :: x8 :: x9 :: x10 :: x11 :: x12 :: x13 :: x14 :: x15 :: x16 :: x17 :: x18 :: x19 :: x20 :: some d :: r) S1) : WS (sSet 21 m (x0 :: x1 :: x2 :: x3 :: x4 :: x5 :: x6 :: x7 :: x8 :: x9 :: x10 :: x11 :: x12 :: x13 :: x14 :: x15 :: x16 :: x17 :: x18 :: x19 :: x20 :: x :: r) S) N T B C := ws_set h
theorem v22 {x0 : Option D} {x1 : Option D} {x2 : Option D} {x3 : Option D} {x4 : Option D} {x5 : Option D} {x6 : Option D} {x7 : Option D} {x8 : Option D} {x9 : Option D} {x10 : Option D} {x11 : Option D} {x12 : Option D} {x13 : Option D} {x14 : Option D} {x15 : Option D} {x16 : Option D} {x17 : Option D} {x18 : Option D} {x19 : Option D} {x20 : Option D} {x21 : Option D} {d : D} {r : List (Option D)} {S : Sto} {Q : D → Sto → Prop} (h : Q d S) : WV (mVar 22 (x0 :: x1 :: x2 :: x3 :: x4 :: x5 :: x6 :: x7 :: x8 :: x9 :: x10 :: x11 :: x12 :: x13 :: x14 :: x15 :: x16 :: x17 :: x18 :: x19 :: x20 :: x21 :: some d :: r) S) Q := wv_var rfl h
theorem s22 {x0 : Option D} {x1 : Option D} {x2 : Option D} {x3 : Option D} {x4 : Option D} {x5 : Option D} {x6 : Option D} {x7 : Option D} {x8 : Option D} {x9 : Option D} {x10 : Option D} {x11 : Option D} {x12 : Option D} {x13 : Option D} {x14 : Option D} {x15 : Option D} {x16 : Option D} {x17 : Option D} {x18 : Option D} {x19 : Option D} {x20 : Option D} {x21 : Option D} {x : Option D} {r : List (Option D)} {S : Sto} {m : M D} {N B C : Env → Sto → Prop} {T : D → Sto → Prop} (h : WV (m (x0 :: x1 :: x2 :: x3 :: x4 :: x5 :: x6 :: x7 :: x8 :: x9 :: x10 :: x11 :: x12 :: x13 :: x14 :: x15 :: x16 :: x17 :: x18 :: x19 :: x20 :: x21 :: x :: r) S) fun d S1 => N (x0 :: x1 :: x2 :: x3 :: x4 :: x5 :: x6 :: x7 :: x8 :: x9 :: x10 :: x11 :: x12 :: x13 :: x14 :: x15 :: x16 :: x17 :: x18 :: x19 :: x20 :: x21 :: some d :: r) S1) : WS (sSet 22 m (x0 :: x1 :: x2 :: x3 :: x4 :: x5 :: x6 :: x7 :: x8 :: x9 :: x10 :: x11 :: x12 :: x13 :: x14 :: x15 :: x16 :: x17 :: x18 :: x19 :: x20 :: x21 :: x :: r) S) N T B C := ws_set h
theorem v23 {x0 : Option D} {x1 : Option D} {x2 : Option D} {x3 : Option D} {x4 : Option D} {x5 : Option D} {x6 : Option D} {x7 : Option D} {x8 : Option D} {x9 : Option D} {x10 : Option D} {x11 : Option D} {x12 : Option D} {x13 : Option D} {x14 : Option D} {x15 : Option D} {x16 : Option D} {x17 : Option D} {x18 : Option D} {x19 : Option D} {x20 : Option D} {x21 : Option D} {x22 : Option D} {d : D} {r : List (Option D)} {S : Sto} {Q : D → Sto → Prop} (h : Q d S) : WV (mVar 23 (x0 :: x1 :: x2 :: x3 :: x4 :: x5 :: x6 :: x7 :: x8 :: x9 :: x10 :: x11 :: x12 :: x13 :: x14 :: x15 :: x16 :: x17 :: x18 :: x19 :: x20 :: x21 :: x22 :: some d :: r) S) Q := wv_var rfl h
theorem s23 {x0 : Option D} {x1 : Option D} {x2 : Option D} {x3 : Option D} {x4 : Option D} {x5 : Option D} {x6 : Option D} {x7 : Option D} {x8 : Option D} {x9 : Option D} {x10 : Option D} {x11 : Option D} {x12 : Option D} {x13 : Option D} {x14 : Option D} {x15 : Option D} {x16 : Option D} {x17 : Option D} {x18 : Option D} {x19 : Option D} {x20 : Option D} {x21 : Option D} {x22 : Option D} {x : Option D} {r : List (Option D)} {S : Sto} {m : M D} {N B C : Env → Sto → Prop} {T : D → Sto → Prop} (h : WV (m (x0 :: x1 :: x2 :: x3 :: x4 :: x5 :: x6 :: x7 :: x8 :: x9 :: x10 :: x11 :: x12 :: x13 :: x14 :: x15 :: x16 :: x17 :: x18 :: x19 :: x20 :: x21 :: x22 :: x :: r) S) fun d S1 => N (x0 :: x1 :: x2 :: x3 :: x4 :: x5 :: x6 :: x7 :: x8 :: x9 :: x10 :: x11 :: x12 :: x13 :: x14 :: x15 :: x16 :: x17 :: x18 :: x19 :: x20 :: x21 :: x22 :: some d :: r) S1) : WS (sSet 23 m (x0 :: x1 :: x2 :: x3 :: x4 :: x5 :: x6 :: x7 :: x8 :: x9 :: x10 :: x11 :: x12 :: x13 :: x14 :: x15 :: x16 :: x17 :: x18 :: x19 :: x20 :: x21 :: x22 :: x :: r) S) N T B C := ws_set h
theorem v24 {x0 : Option D} {x1 : Option D} {x2 : Option D} {x3 : Option D} {x4 : Option D} {x5 : Option D} {x6 : Option D} {x7 : Option D} {x8 : Option D} {x9 : Option D} {x10 : Option D} {x11 : Option D} {x12 : Option D} {x13 : Option D} {x14 : Option D} {x15 : Option D} {x16 : Option D} {x17 : Option D} {x18 : Option D} {x19 : Option D} {x20 : Option D} {x21 : Option D} {x22 : Option D} {x23 : Option D} {d : D} {r : List (Option D)} {S : Sto} {Q : D → Sto → Prop} (h : Q d S) : WV (mVar 24 (x0 :: x1 :: x2 :: x3 :: x4 :: x5 :: x6 :: x7 :: x8 :: x9 :: x10 :: x11 :: x12 :: x13 :: x14 :: x15 :: x16 :: x17 :: x18 :: x19 :: x20 :: x21 :: x22 :: x23 :: some d :: r) S) Q := wv_var rfl h
theorem s24 {x0 : Option D} {x1 : Option D} {x2 : Option D} {x3 : Option D} {x4 : Option D} {x5 : Option D} {x6 : Option D} {x7 : Option D} {x8 : Option D} {x9 : Option D} {x10 : Option D} {x11 : Option D} {x12 : Option D} {x13 : Option D} {x14 : Option D} {x15 : Option D} {x16 : Option D} {x17 : Option D} {x18 : Option D} {x19 : Option D} {x20 : Option D} {x21 : Option D} {x22 : Option D} {x23 : Option D} {x : Option D} {r : List (Option D)} {S : Sto} {m : M D} {N B C : Env → Sto → Prop} {T : D → Sto → Prop} (h : WV (m (x0 :: x1 :: x2 :: x3 :: x4 :: x5 :: x6 :: x7 :: x8 :: x9 :: x10 :: x11 :: x12 :: x13 :: x14 :: x15 :: x16 :: x17 :: x18 :: x19 :: x20 :: x21 :: x22 :: x23 :: x :: r) S) fun d S1 => N (x0 :: x1 :: x2 :: x3 :: x4 :: x5 :: x6 :: x7 :: x8 :: x9 :: x10 :: x11 :: x12 :: x13 :: x14 :: x15 :: x16 :: x17 :: x18 :: x19 :: x20 :: x21 :: x22 :: x23 :: some d :: r) S1) : WS (sSet 24 m (x0 :: x1 :: x2 :: x3 :: x4 :: x5 :: x6 :: x7 :: x8 :: x9 :: x10 :: x11 :: x12 :: x13 :: x14 :: x15 :: x16 :: x17 :: x18 :: x19 :: x20 :: x21 :: x22 :: x23 :: x :: r) S) N T B C := ws_set h
theorem v25 {x0 : Option D} {x1 : Option D} {x2 : Option D} {x3 : Option D} {x4 : Option D} {x5 : Option D} {x6 : Option D} {x7 : Option D} {x8 : Option D} {x9 : Option D} {x10 : Option D} {x11 : Option D} {x12 : Option D} {x13 : Option D} {x14 : Option D} {x15 : Option D} {x16 : Option D} {x17 : Option D} {x18 : Option D} {x19 : Option D} {x20 : Option D} {x21 : Option D} {x22 : Option D} {x23 : Option D} {x24 : Option D} {d : D} {r : List (Option D)} {S : Sto} {Q : D → Sto → Prop} (h : Q d S) : WV (mVar 25 (x0 :: x1 :: x2 :: x3 :: x4 :: x5 :: x6 :: x7 :: x8 :: x9 :: x10 :: x11 :: x12 :: x13 :: x14 :: x15 :: x16 :: x17 :: x18 :: x19 :: x20 :: x21 :: x22 :: x23 :: x24 :: some d :: r) S) Q := wv_var rfl h
theorem s25 {x0 : Option D} {x1 : Option D} {x2 : Option D} {x3 : Option D} {x4 : Option D} {x5 : Option D} {x6 : Option D} {x7 : Option D} {x8 : Option D} {x9 : Option D} {x10 : Option D} {x11 : Option D} {x12 : Option D} {x13 : Option D} {x14 : Option D} {x15 : Option D} {x16 : Option D} {x17 : Option D} {x18 : Option D} {x19 : Option D} {x20 : Option D} {x21 : Option D} {x22 : Option D} {x23 : Option D} {x24 : Option D} {x : Option D} {r : List (Option D)} {S : Sto} {m : M D} {N B C : Env → Sto → Prop} {T : D → Sto → Prop} (h : WV (m (x0 :: x1 :: x2 :: x3 :: x4 :: x5 :: x6 :: x7 :: x8 :: x9 :: x10 :: x11 :: x12 :: x13 :: x14 :: x15 :: x16 :: x17 :: x18 :: x19 :: x20 :: x21 :: x22 :: x23 :: x24 :: x :: r) S) fun d S1 => N (x0 :: x1 :: x2 :: x3 :: x4 :: x5 :: x6 :: x7 :: x8 :: x9 :: x10 :: x11 :: x12 :: x13 :: x14 :: x15 :: x16 :: x17 :: x18 :: x19 :: x20 :: x21 :: x22 :: x23 :: x24 :: some d :: r) S1) : WS (sSet 25 m (x0 :: x1 :: x2 :: x3 :: x4 :: x5 :: x6 :: x7 :: x8 :: x9 :: x10 :: x11 :: x12 :: x13 :: x14 :: x15 :: x16 :: x17 :: x18 :: x19 :: x20 :: x21 :: x22 :: x23 :: x24 :: x :: r) S) N T B C := ws_set h
theorem exI {i : Int} {P : Int → Prop} (h : P i) : ∃ j, D.int i = .int j ∧ P j := ⟨i, rfl, h⟩
theorem exT {c : Bool} {P : Bool → Prop} (h : P c) : ∃ c', D.bl c = .bl c' ∧ P c' := ⟨c, rfl, h⟩
theorem exTru {c : Bool} {S : Sto} {P : Bool → Prop} (h : P c) : ∃ c', truD (.bl c) S = some c' ∧ P c' := ⟨c, rfl, h⟩
theorem ifT {A B : Prop} (h : A) : (true = true → A) ∧ (true = false → B) := ⟨fun _ => h, fun z => nomatch z⟩
theorem ifF {A B : Prop} (h : B) : (false = true → A) ∧ (false = false → B) := ⟨fun z => (nomatch z), fun _ => h⟩
theorem ifT' {A B : Prop} (h : A) : (true = false → B) ∧ (true = true → A) := ⟨fun z => (nomatch z), fun _ => h⟩
theorem ifF' {A B : Prop} (h : B) : (false = false → B) ∧ (false = true → A) := ⟨fun _ => h, fun z => (nomatch z)⟩
theorem nf1 {A B : Prop} (h : A) : ((!true) = false → A) ∧ ((!true) = true → B) := ⟨fun _ => h, fun z => (nomatch z)⟩
theorem nf2 {A B : Prop} (h : B) : ((!true) = true → A) ∧ ((!true) = false → B) := ⟨fun z => (nomatch z), fun _ => h⟩
theorem nf3 {A B : Prop} (h : B) : ((!false) = false → A) ∧ ((!false) = true → B) := ⟨fun z => (nomatch z), fun _ => h⟩
theorem nf4 {A B : Prop} (h : A) : ((!false) = true → A) ∧ ((!false) = false → B) := ⟨fun _ => h, fun z => (nomatch z)⟩
theorem len0 {P : Prop} (h : P) : ([] : List D).length ≤ 1000 ∧ P := ⟨by decide, h⟩
theorem len1 {a : D} {P : Prop} (h : P) : [a].length ≤ 1000 ∧ P := ⟨by show 1 ≤ 1000; decide, h⟩
theorem len2 {a b : D} {P : Prop} (h : P) : [a, b].length ≤ 1000 ∧ P := ⟨by show 2 ≤ 1000; decide, h⟩
theorem len3 {a b c : D} {P : Prop} (h : P) : [a, b, c].length ≤ 1000 ∧ P := ⟨by show 3 ≤ 1000; decide, h⟩
theorem len4 {a b c d : D} {P : Prop} (h : P) : [a, b, c, d].length ≤ 1000 ∧ P := ⟨by show 4 ≤ 1000; decide, h⟩

/-! operations -/

section
variable {S : Sto} {Q : D → Sto → Prop} {i j : Int}
theorem g_add (h : Q (.int (i + j)) S) : WG (gAdd (.int i) (.int j) S) Q := ⟨_, _, rfl, h⟩
theorem g_sub (h : Q (.int (i - j)) S) : WG (gSub (.int i) (.int j) S) Q := ⟨_, _, rfl, h⟩
theorem g_iadd (h : Q (.int (i + j)) S) : WG (giAdd (.int i) (.int j) S) Q := ⟨_, _, rfl, h⟩
theorem g_isub (h : Q (.int (i - j)) S) : WG (giSub (.int i) (.int j) S) Q := ⟨_, _, rfl, h⟩
theorem g_mod (k : j ≠ 0) (h : Q (.int (i.fmod j)) S) : WG (gMod (.int i) (.int j) S) Q := ⟨_, _, mod_ii k, h⟩
theorem g_lt (h : Q (.bl (decide (i < j))) S) : WG (gLt (.int i) (.int j) S) Q := ⟨_, _, rfl, h⟩
theorem g_le (h : Q (.bl (decide (i ≤ j))) S) : WG (gLe (.int i) (.int j) S) Q := ⟨_, _, rfl, h⟩
theorem g_gt (h : Q (.bl (decide (j < i))) S) : WG (gGt (.int i) (.int j) S) Q := ⟨_, _, rfl, h⟩
theorem g_ge (h : Q (.bl (decide (j ≤ i))) S) : WG (gGe (.int i) (.int j) S) Q := ⟨_, _, rfl, h⟩
theorem g_eq (h : Q (.bl (decide (i = j))) S) : WG (gEq (.int i) (.int j) S) Q := ⟨_, _, rfl, h⟩
theorem g_ne (h : Q (.bl (!decide (i = j))) S) : WG (gNe (.int i) (.int j) S) Q := ⟨_, _, rfl, h⟩
theorem g_neg (h : Q (.int (-i)) S) : WG (gNeg (.int i) S) Q := ⟨_, _, rfl, h⟩
theorem g_not {c : Bool} (h : Q (.bl (!c)) S) : WG (gNot (.bl c) S) Q := ⟨_, _, rfl, h⟩
theorem g_gcd (h : Q (.int ((Nat.gcd i.natAbs j.natAbs : Nat) : Int)) S) : WG (gGcd [.int i, .int j] S) Q := ⟨_, _, rfl, h⟩
theorem g_abs (h : Q (.int (if i < 0 then -i else i)) S) : WG (gAbs [.int i] S) Q := ⟨_, _, rfl, h⟩
theorem g_int (h : Q (.int i) S) : WG (gInt [.int i] S) Q := ⟨_, _, rfl, h⟩
theorem g_intb {k : Bool} (h : Q (.int (if k then 1 else 0)) S) : WG (gInt [.bl k] S) Q := ⟨_, _, rfl, h⟩
theorem g_ixR {id k : Nat} {x : D} {xs : List D} (hs : S[id]? = some (.lst xs)) (e : xs[k]? = some x) (h : Q x S) : WG (gIx (.ref id) (.int (k : Int)) S) Q := ⟨_, _, ixR hs e, h⟩
theorem g_ix0 {x : D} {xs : List D} (h : Q x S) : WG (gIx (.tup (x :: xs)) (.int 0) S) Q := ⟨_, _, ix0, h⟩
theorem g_ix1 {x y : D} {xs : List D} (h : Q y S) : WG (gIx (.tup (x :: y :: xs)) (.int 1) S) Q := ⟨_, _, ix1, h⟩
theorem g_ix2 {x y z : D} {xs : List D} (h : Q z S) : WG (gIx (.tup (x :: y :: z :: xs)) (.int 2) S) Q := ⟨_, _, ix2, h⟩
theorem g_nq0 {q : Rat} (h : Q (.int q.num) S) : WG (gIx (nq q) (.int 0) S) Q := ⟨_, _, ix0, h⟩
theorem g_nq1 {q : Rat} (h : Q (.int (q.den : Int)) S) : WG (gIx (nq q) (.int 1) S) Q := ⟨_, _, ix1, h⟩
theorem g_lenT {xs : List D} (h : Q (.int xs.length) S) : WG (gLen [.tup xs] S) Q := ⟨_, _, len_tup, h⟩
theorem g_isi {a : D} {T n : String} {b : Bool} (e : tyD S a = some n) (k : kitB n T = some b) (h : Q (.bl b) S) : WG (gIsi [a, .ty T] S) Q := ⟨_, _, isi e k, h⟩
end
end Rf
namespace Rf
open PySem PySem.Spec PyProof.Rows L2
theorem kWS {r : Option RS} {N B C : Env → Sto → Prop} {T : D → Sto → Prop} (h : WS r N T B C) : WS r N T B C := h
theorem kSet {i : Nat} {m : M D} {ρ : Env} {S : Sto} {N B C : Env → Sto → Prop} {T : D → Sto → Prop} (h : WS (sSet i m ρ S) N T B C) : WS (sSet i m ρ S) N T B C := h
theorem kWV {α : Type} {r : Option (R α)} {Q : α → Sto → Prop} (h : WV r Q) : WV r Q := h
theorem kVar {i : Nat} {ρ : Env} {S : Sto} {Q : D → Sto → Prop} (h : WV (mVar i ρ S) Q) : WV (mVar i ρ S) Q := h
theorem kWG {α : Type} {r : Option (α × Sto)} {Q : α → Sto → Prop} (h : WG r Q) : WG r Q := h
end Rf
namespace Rf
open PySem PySem.Spec PyProof.Rows L2
/-! ### tables by exponents -/
section
variable {α β : Type}
abbrev Tab (α : Type) := List (List Int × α)
def lookA (T : Tab α) (e : List Int) : Option α := (T.find? fun t => decide (t.1 = e)).map (·.2)
def putA (T : Tab α) (e : List Int) (x : α) : Tab α := if (T.any fun t => decide (t.1 = e)) = true then T.map (fun t => if t.1 = e then (t.1, x) else t) else T ++ [(e, x)]
def keysA (T : Tab α) : List (List Int) := T.map (·.1)
theorem lookA_nil {e : List Int} : lookA ([] : Tab α) e = none := rfl
theorem lookA_cons {t : List Int × α} {T : Tab α} {e : List Int} : lookA (t :: T) e = if t.1 = e then some t.2 else lookA T e := by
  unfold lookA
  rw [List.find?_cons]
  by_cases c : t.1 = e
  · simp [c]
  · simp [c]
theorem any_keys {T : Tab α} {e : List Int} : (T.any fun t => decide (t.1 = e)) = true ↔ e ∈ keysA T := by
  unfold keysA
  rw [List.any_eq_true, List.mem_map]
  exact ⟨fun ⟨t, h, k⟩ => ⟨t, h, of_decide_eq_true k⟩, fun ⟨t, h, k⟩ => ⟨t, h, decide_eq_true k⟩⟩
theorem lookA_none {T : Tab α} {e : List Int} : lookA T e = none ↔ e ∉ keysA T := by
  induction T with
  | nil => simp [lookA_nil, keysA]
  | cons t T ih =>
    rw [lookA_cons]
    by_cases c : t.1 = e
    · simp [c, keysA]
    · rw [if_neg c, ih]
      simp only [keysA, List.map_cons, List.mem_cons, not_or]
      exact ⟨fun h => ⟨fun z => c z.symm, h⟩, fun h => h.2⟩
theorem lookA_map {T : Tab α} {f : α → β} {e : List Int} : lookA (T.map fun t => (t.1, f t.2)) e = (lookA T e).map f := by
  induction T with
  | nil => rfl
  | cons t T ih =>
    rw [List.map_cons, lookA_cons, lookA_cons, ih]
    by_cases c : t.1 = e
    · simp [c]
    · simp [c]
theorem lookA_append {T U : Tab α} {e : List Int} : lookA (T ++ U) e = (lookA T e).or (lookA U e) := by
  induction T with
  | nil => simp [lookA_nil]
  | cons t T ih =>
    rw [List.cons_append, lookA_cons, lookA_cons, ih]
    by_cases c : t.1 = e
    · simp [c]
    · simp [c]
theorem lookA_repl {T : Tab α} {e e' : List Int} {x : α} : lookA (T.map fun t => if t.1 = e then (t.1, x) else t) e' = if e' = e then (lookA T e').map (fun _ => x) else lookA T e' := by
  induction T with
  | nil => simp [lookA_nil]
  | cons t T ih =>
    rw [List.map_cons, lookA_cons, lookA_cons, ih]
    by_cases c : t.1 = e
    · by_cases c2 : e' = e
      · simp [c, c2]
      · have : ¬ e = e' := fun z => c2 z.symm
        simp [c, c2, this]
    · by_cases c2 : e' = e
      · subst c2
        simp [c]
      · simp [c, c2]
theorem lookA_put {T : Tab α} {e e' : List Int} {x : α} : lookA (putA T e x) e' = if e' = e then some x else lookA T e' := by
  unfold putA
  by_cases h : (T.any fun t => decide (t.1 = e)) = true
  · rw [if_pos h, lookA_repl]
    by_cases c : e' = e
    · subst c
      have : lookA T e' ≠ none := fun z => (lookA_none.mp z) (any_keys.mp h)
      cases h2 : lookA T e' with
      | none => exact absurd h2 this
      | some y => simp
    · simp [c]
  · rw [if_neg h, lookA_append, lookA_cons, lookA_nil]
    have h' : lookA T e = none := lookA_none.mpr fun z => h (any_keys.mpr z)
    by_cases c : e' = e
    · subst c
      simp [h']
    · have : ¬ e = e' := fun z => c z.symm
      simp [c, this]
theorem keys_put {T : Tab α} {e : List Int} {x : α} : keysA (putA T e x) = if e ∈ keysA T then keysA T else keysA T ++ [e] := by
  unfold putA
  by_cases h : (T.any fun t => decide (t.1 = e)) = true
  · rw [if_pos h, if_pos (any_keys.mp h)]
    unfold keysA
    rw [List.map_map]
    apply List.map_congr_left
    intro t _
    show (if t.1 = e then (t.1, x) else t).1 = t.1
    split <;> rfl
  · rw [if_neg h, if_neg (fun z => h (any_keys.mpr z))]
    unfold keysA
    rw [List.map_append]; rfl
theorem mem_keys_put {T : Tab α} {e e' : List Int} {x : α} : e' ∈ keysA (putA T e x) ↔ e' ∈ keysA T ∨ e' = e := by
  rw [keys_put]
  by_cases h : e ∈ keysA T
  · rw [if_pos h]
    exact ⟨.inl, fun z => z.elim id fun z => z ▸ h⟩
  · rw [if_neg h, List.mem_append, List.mem_singleton]
theorem nodup_put {T : Tab α} {e : List Int} {x : α} (h : (keysA T).Nodup) : (keysA (putA T e x)).Nodup := by
  rw [keys_put]
  split
  · exact h
  · rename_i c
    rw [List.nodup_append]
    exact ⟨h, List.nodup_cons.mpr ⟨fun z => (by cases z), List.nodup_nil⟩, fun a ha b hb z => c (by rw [List.mem_singleton] at hb; rw [← hb, ← z]; exact ha)⟩
theorem len_put {T : Tab α} {e : List Int} {x : α} : (putA T e x).length ≤ T.length + 1 := by
  have h := congrArg List.length (keys_put (T := T) (e := e) (x := x))
  unfold keysA at h
  rw [List.length_map] at h
  rw [h]
  split
  · rw [List.length_map]; omega
  · rw [List.length_append, List.length_map]; simp
end
/-! ### polynomials -/
abbrev Pol := Tab Rat
def co (p : Pol) (e : List Int) : Rat := (lookA p e).getD 0
def EOk (n : Nat) (e : List Int) : Prop := e.length = n ∧ TS.Bd 1048576 e
def KOk (n : Nat) (l : List (List Int)) : Prop := ∀ e ∈ l, EOk n e
structure WF (n : Nat) (p : Pol) : Prop where
  srt : (keysA p).Pairwise (fun a b => lexLt a b = true)
  ok : KOk n (keysA p)
  nz : ∀ t ∈ p, t.2 ≠ 0
theorem EOk.lt_irrefl {n : Nat} {e : List Int} (h : EOk n e) : lexLt e e = false := by
  cases c : lexLt e e with
  | false => rfl
  | true => exact absurd ((lex_code rfl h.2 h.2).mp c) (Int.lt_irrefl _)
theorem EOk.trans {n : Nat} {a b c : List Int} (ha : EOk n a) (hb : EOk n b) (hc : EOk n c) (h1 : lexLt a b = true) (h2 : lexLt b c = true) : lexLt a c = true := by
  have e1 := (lex_code (ha.1.trans hb.1.symm) ha.2 hb.2).mp h1
  have e2 := (lex_code (hb.1.trans hc.1.symm) hb.2 hc.2).mp h2
  exact (lex_code (ha.1.trans hc.1.symm) ha.2 hc.2).mpr (by omega)
theorem WF.nodup {n : Nat} {p : Pol} (h : WF n p) : (keysA p).Nodup := by
  refine List.Pairwise.imp_of_mem (fun {a b} ha hb hl e => ?_) h.srt
  subst e
  rw [(h.ok a ha).lt_irrefl] at hl
  cases hl
theorem srt_ext {n : Nat} : ∀ {l m : List (List Int)}, KOk n l → KOk n m → l.Pairwise (fun a b => lexLt a b = true) → m.Pairwise (fun a b => lexLt a b = true) → (∀ e, e ∈ l ↔ e ∈ m) → l = m
  | [], [], _, _, _, _, _ => rfl
  | [], y :: m, _, _, _, _, h => by have := (h y).mpr List.mem_cons_self; cases this
  | x :: l, [], _, _, _, _, h => by have := (h x).mp List.mem_cons_self; cases this
  | x :: l, y :: m, hl, hm, sl, sm, h => by
    rw [List.pairwise_cons] at sl sm
    have ox := hl x List.mem_cons_self
    have oy := hm y List.mem_cons_self
    have e : x = y := by
      rcases List.mem_cons.mp ((h x).mp List.mem_cons_self) with e | hx
      · exact e
      · rcases List.mem_cons.mp ((h y).mpr List.mem_cons_self) with e | hy
        · exact e.symm
        · have a := sm.1 x hx
          have b := sl.1 y hy
          have := ox.trans oy ox b a
          rw [ox.lt_irrefl] at this
          cases this
    subst e
    refine congrArg (x :: ·) (srt_ext (fun e he => hl e (List.mem_cons_of_mem _ he)) (fun e he => hm e (List.mem_cons_of_mem _ he)) sl.2 sm.2 fun e => ⟨fun he => ?_, fun he => ?_⟩)
    · rcases List.mem_cons.mp ((h e).mp (List.mem_cons_of_mem _ he)) with z | z
      · subst z
        have := sl.1 e he
        rw [ox.lt_irrefl] at this; cases this
      · exact z
    · rcases List.mem_cons.mp ((h e).mpr (List.mem_cons_of_mem _ he)) with z | z
      · subst z
        have := sm.1 e he
        rw [ox.lt_irrefl] at this; cases this
      · exact z
theorem lookA_mem {α : Type} {T : Tab α} {e : List Int} {x : α} (h : lookA T e = some x) : (e, x) ∈ T := by
  induction T with
  | nil => cases h
  | cons t T ih =>
    rw [lookA_cons] at h
    by_cases c : t.1 = e
    · rw [if_pos c] at h
      cases h
      subst c
      exact List.mem_cons_self
    · rw [if_neg c] at h
      exact List.mem_cons_of_mem _ (ih h)
theorem lookA_of {α : Type} {T : Tab α} (hn : (keysA T).Nodup) {e : List Int} {x : α} (h : (e, x) ∈ T) : lookA T e = some x := by
  induction T with
  | nil => cases h
  | cons t T ih =>
    unfold keysA at hn
    rw [List.map_cons, List.nodup_cons] at hn
    rw [lookA_cons]
    rcases List.mem_cons.mp h with z | z
    · subst z; simp
    · have : ¬ t.1 = e := fun c => hn.1 (by rw [c]; exact List.mem_map.mpr ⟨_, z, rfl⟩)
      rw [if_neg this]
      exact ih hn.2 z
theorem WF.mem_iff {n : Nat} {p : Pol} (h : WF n p) {e : List Int} : e ∈ keysA p ↔ co p e ≠ 0 := by
  unfold co
  constructor
  · intro he
    obtain ⟨t, ht, rfl⟩ := List.mem_map.mp he
    rw [lookA_of h.nodup (show (t.1, t.2) ∈ p from ht)]
    exact h.nz t ht
  · intro hc
    cases h2 : lookA p e with
    | none => rw [h2] at hc; exact absurd rfl hc
    | some x => exact List.mem_map.mpr ⟨_, lookA_mem h2, rfl⟩
theorem tab_ext {α : Type} : ∀ {T U : Tab α}, (keysA T).Nodup → keysA T = keysA U → (∀ e, lookA T e = lookA U e) → T = U
  | [], [], _, _, _ => rfl
  | [], _ :: _, _, h, _ => by cases h
  | _ :: _, [], _, h, _ => by cases h
  | t :: T, u :: U, hn, hk, h => by
    unfold keysA at hk hn
    rw [List.map_cons, List.map_cons, List.cons.injEq] at hk
    rw [List.map_cons, List.nodup_cons] at hn
    have e1 := h t.1
    rw [lookA_cons, lookA_cons, if_pos rfl, if_pos hk.1.symm] at e1
    have e2 : t = u := Prod.ext hk.1 (Option.some.inj e1)
    subst e2
    refine congrArg (t :: ·) (tab_ext hn.2 hk.2 fun e => ?_)
    by_cases c : t.1 = e
    · subst c
      have a : lookA T t.1 = none := lookA_none.mpr hn.1
      have b : lookA U t.1 = none := lookA_none.mpr (by unfold keysA; rw [← hk.2]; exact hn.1)
      rw [a, b]
    · have := h e
      rw [lookA_cons, lookA_cons, if_neg c, if_neg c] at this
      exact this
theorem WF.ext {n : Nat} {p q : Pol} (hp : WF n p) (hq : WF n q) (h : ∀ e, co p e = co q e) : p = q := by
  have hk : keysA p = keysA q := srt_ext hp.ok hq.ok hp.srt hq.srt fun e => by rw [hp.mem_iff, hq.mem_iff, h]
  refine tab_ext hp.nodup hk fun e => ?_
  cases h1 : lookA p e with
  | none =>
    have : e ∉ keysA q := by rw [← hk]; exact lookA_none.mp h1
    rw [lookA_none.mpr this]
  | some x =>
    cases h2 : lookA q e with
    | none =>
      have : e ∉ keysA p := by rw [hk]; exact lookA_none.mp h2
      rw [lookA_none.mpr this] at h1
      cases h1
    | some y =>
      have := h e
      unfold co at this
      rw [h1, h2] at this
      rw [show x = y from this]
/-- the polynomial of a table -/
def tidy (T : Pol) : Pol := (sortL (keysA T)).filterMap fun e => if co T e = 0 then none else some (e, co T e)
theorem sort_strict {n : Nat} {l : List (List Int)} (hk : KOk n l) (hn : l.Nodup) : (sortL l).Pairwise (fun a b => lexLt a b = true) := by
  have h1 : (sortL l).Pairwise (fun a b => TS.code 1048576 a ≤ TS.code 1048576 b) := sort_sorted (d := n) hk
  have h2 : (sortL l).Nodup := (perm_sort l).nodup_iff.mpr hn
  have h3 := h1.and h2
  refine List.Pairwise.imp_of_mem (fun {a b} ha hb h => ?_) h3
  have oa := hk a ((perm_sort l).mem_iff.mp ha)
  have ob := hk b ((perm_sort l).mem_iff.mp hb)
  rw [lex_code (oa.1.trans ob.1.symm) oa.2 ob.2]
  have : TS.code 1048576 a ≠ TS.code 1048576 b := fun z => h.2 (code_inj (oa.1.trans ob.1.symm) oa.2 ob.2 z)
  have := h.1
  omega
theorem keys_filterMap {l : List (List Int)} {f : List Int → Rat} : keysA (l.filterMap fun e => if f e = 0 then none else some (e, f e)) = l.filter fun e => decide (f e ≠ 0) := by
  induction l with
  | nil => rfl
  | cons x l ih =>
    rw [List.filterMap_cons, List.filter_cons]
    by_cases c : f x = 0
    · simp only [c, if_true, ne_eq, not_true, decide_false]
      exact ih
    · simp only [c, if_false, ne_eq, not_false_eq_true, decide_true, if_true]
      unfold keysA at *
      rw [List.map_cons, ih]
theorem tidy_wf {n : Nat} {T : Pol} (hk : KOk n (keysA T)) (hn : (keysA T).Nodup) : WF n (tidy T) where
  srt := by
    unfold tidy
    rw [keys_filterMap]
    exact (sort_strict hk hn).filter _
  ok := fun e he => by
    unfold tidy at he
    rw [keys_filterMap, List.mem_filter] at he
    exact hk e ((perm_sort _).mem_iff.mp he.1)
  nz := fun t ht => by
    unfold tidy at ht
    obtain ⟨e, _, h⟩ := List.mem_filterMap.mp ht
    by_cases c : co T e = 0
    · rw [if_pos c] at h; cases h
    · rw [if_neg c] at h; cases h; exact c
theorem tidy_co {n : Nat} {T : Pol} (hk : KOk n (keysA T)) (hn : (keysA T).Nodup) (e : List Int) : co (tidy T) e = co T e := by
  by_cases c : co T e = 0
  · rw [c]
    have : e ∉ keysA (tidy T) := fun he => by
      unfold tidy at he
      rw [keys_filterMap, List.mem_filter] at he
      exact (of_decide_eq_true he.2) c
    unfold co
    rw [lookA_none.mpr this]; rfl
  · have he : e ∈ keysA T := by
      unfold co at c
      cases h2 : lookA T e with
      | none => rw [h2] at c; exact absurd rfl c
      | some x => exact List.mem_map.mpr ⟨_, lookA_mem h2, rfl⟩
    have hm : (e, co T e) ∈ tidy T := by
      unfold tidy
      exact List.mem_filterMap.mpr ⟨e, (perm_sort _).mem_iff.mpr he, by rw [if_neg c]⟩
    have := lookA_of (tidy_wf hk hn).nodup hm
    show (lookA (tidy T) e).getD 0 = co T e
    rw [this]; rfl
end Rf
namespace Rf
open PySem PySem.Spec PyProof.Rows L2
/-! ### pairs that stand for fractions, bounded -/
def valP (x : Int × Int) : Rat := Rat.divInt x.1 x.2
structure BP (L M : Nat) (x : Int × Int) : Prop where
  pos : 0 < x.2
  dvd : x.2 ∣ (L : Int)
  bd : x.1.natAbs ≤ M * x.2.natAbs
def qp (q : Rat) : Int × Int := (q.num, (q.den : Int))
abbrev BQ (L M : Nat) (q : Rat) : Prop := BP L M (qp q)
theorem val_qp (q : Rat) : valP (qp q) = q := Rat.num_divInt_den q
theorem BP.mono {L M M' : Nat} {x : Int × Int} (h : BP L M x) (k : M ≤ M') : BP L M' x := ⟨h.pos, h.dvd, Nat.le_trans h.bd (Nat.mul_le_mul_right _ k)⟩
theorem BP.le {L M : Nat} {x : Int × Int} (h : BP L M x) (hL : 0 < L) : x.2.natAbs ≤ L := by
  have h1 : x.2.natAbs ∣ L := by
    have := Int.natAbs_dvd_natAbs.mpr h.dvd
    simpa using this
  exact Nat.le_of_dvd hL h1
theorem BP.num {L M : Nat} {x : Int × Int} (h : BP L M x) (hL : 0 < L) : x.1.natAbs ≤ M * L := Nat.le_trans h.bd (Nat.mul_le_mul_left _ (h.le hL))
theorem val_num {a b : Int} (hb : 0 < b) : (Rat.divInt a b).num * b = a * ((Rat.divInt a b).den : Int) := by
  have h1 := Rat.num_divInt_den (Rat.divInt a b)
  have h2 : ((Rat.divInt a b).den : Int) ≠ 0 := den_ne _
  exact (Rat.divInt_eq_divInt_iff h2 (by omega)).mp h1
/-- brought to lowest terms -/
theorem BP.norm {L M : Nat} {x : Int × Int} (h : BP L M x) : BQ L M (valP x) := by
  obtain ⟨a, b⟩ := x
  obtain ⟨hb, hd, hm⟩ := h
  dsimp only at hb hd hm
  have e := val_num (a := a) hb
  have cop := (Rat.divInt a b).reduced
  unfold valP
  dsimp only
  generalize Rat.divInt a b = q at e cop
  have dd : q.den ∣ b.natAbs := by
    have h1 : q.den ∣ q.num.natAbs * b.natAbs := by
      rw [← Int.natAbs_mul, e, Int.natAbs_mul]
      exact Nat.dvd_mul_left _ _
    exact Nat.Coprime.dvd_of_dvd_mul_left cop.symm h1
  have hp := q.den_pos
  refine ⟨by show (0 : Int) < (q.den : Int); omega, ?_, ?_⟩
  · show (q.den : Int) ∣ (L : Int)
    refine Int.dvd_trans ?_ hd
    have := Int.ofNat_dvd.mpr dd
    rwa [Int.natAbs_of_nonneg (by omega)] at this
  · show q.num.natAbs ≤ M * (q.den : Int).natAbs
    have e2 : q.num.natAbs * b.natAbs = a.natAbs * q.den := by
      have := congrArg Int.natAbs e
      rwa [Int.natAbs_mul, Int.natAbs_mul] at this
    have hb' : 0 < b.natAbs := by omega
    refine Nat.le_of_mul_le_mul_right (c := b.natAbs) ?_ hb'
    rw [e2, show (q.den : Int).natAbs = q.den from rfl]
    calc a.natAbs * q.den ≤ (M * b.natAbs) * q.den := Nat.mul_le_mul_right _ hm
      _ = M * q.den * b.natAbs := by rw [Nat.mul_assoc, Nat.mul_comm b.natAbs, ← Nat.mul_assoc]
theorem BP.mul {L M L' M' : Nat} {x y : Int × Int} (h : BP L M x) (k : BP L' M' y) : BP (L * L') (M * M') (x.1 * y.1, x.2 * y.2) := by
  refine ⟨Int.mul_pos h.pos k.pos, ?_, ?_⟩
  · rw [Int.natCast_mul]
    exact Int.mul_dvd_mul h.dvd k.dvd
  · show (x.1 * y.1).natAbs ≤ M * M' * (x.2 * y.2).natAbs
    rw [Int.natAbs_mul, Int.natAbs_mul]
    calc x.1.natAbs * y.1.natAbs ≤ (M * x.2.natAbs) * (M' * y.2.natAbs) := Nat.mul_le_mul h.bd k.bd
      _ = M * M' * (x.2.natAbs * y.2.natAbs) := by rw [Nat.mul_mul_mul_comm]
theorem val_mul {x y : Int × Int} (hx : x.2 ≠ 0) (hy : y.2 ≠ 0) : valP (x.1 * y.1, x.2 * y.2) = valP x * valP y := by
  unfold valP
  rw [Rat.divInt_mul_divInt]
def lcmI (b d : Int) : Int := ((Nat.lcm b.natAbs d.natAbs : Nat) : Int)
def lsum (x y : Int × Int) : Int × Int := if x.2 = y.2 then (x.1 + y.1, x.2) else (x.1 * (lcmI x.2 y.2).fdiv x.2 + y.1 * (lcmI x.2 y.2).fdiv y.2, lcmI x.2 y.2)
theorem lcm_facts {L M M' : Nat} {x y : Int × Int} (h : BP L M x) (k : BP L M' y) : 0 < lcmI x.2 y.2 ∧ lcmI x.2 y.2 ∣ (L : Int) ∧ (∃ u : Int, lcmI x.2 y.2 = x.2 * u ∧ (lcmI x.2 y.2).fdiv x.2 = u ∧ 0 < u) ∧ ∃ v : Int, lcmI x.2 y.2 = y.2 * v ∧ (lcmI x.2 y.2).fdiv y.2 = v ∧ 0 < v := by
  have hx := h.pos
  have hy := k.pos
  have p : 0 < lcmI x.2 y.2 := by
    have := Nat.lcm_pos (m := x.2.natAbs) (n := y.2.natAbs) (by omega) (by omega)
    unfold lcmI; omega
  have d1 : x.2 ∣ lcmI x.2 y.2 := by
    have := Int.ofNat_dvd.mpr (Nat.dvd_lcm_left x.2.natAbs y.2.natAbs)
    rwa [Int.natAbs_of_nonneg (by omega)] at this
  have d2 : y.2 ∣ lcmI x.2 y.2 := by
    have := Int.ofNat_dvd.mpr (Nat.dvd_lcm_right x.2.natAbs y.2.natAbs)
    rwa [Int.natAbs_of_nonneg (by omega : 0 ≤ y.2)] at this
  have dl : lcmI x.2 y.2 ∣ (L : Int) := by
    have a1 : x.2.natAbs ∣ L := by have := Int.natAbs_dvd_natAbs.mpr h.dvd; simpa using this
    have a2 : y.2.natAbs ∣ L := by have := Int.natAbs_dvd_natAbs.mpr k.dvd; simpa using this
    exact Int.ofNat_dvd.mpr (Nat.lcm_dvd a1 a2)
  have fact : ∀ {b l : Int}, 0 < b → 0 < l → b ∣ l → ∃ u : Int, l = b * u ∧ l.fdiv b = u ∧ 0 < u := fun {b l} hb hl ⟨u, hu⟩ => by
    refine ⟨u, hu, ?_, ?_⟩
    · rw [hu, Int.mul_fdiv_cancel_left u (by omega)]
    · exact Int.pos_of_mul_pos_right (hu ▸ hl) hb |> fun z => z
  exact ⟨p, dl, fact hx p d1, fact hy p d2⟩
theorem lsum_bp {L M M' : Nat} {x y : Int × Int} (h : BP L M x) (k : BP L M' y) : BP L (M + M') (lsum x y) := by
  unfold lsum
  split
  · rename_i c
    refine ⟨h.pos, h.dvd, ?_⟩
    have h1 := h.bd
    have h2 := k.bd
    rw [← c] at h2
    show (x.1 + y.1).natAbs ≤ (M + M') * x.2.natAbs
    rw [Nat.add_mul]
    omega
  · obtain ⟨p, dl, ⟨u, e1, e2, u0⟩, v, e3, e4, v0⟩ := lcm_facts h k
    refine ⟨p, dl, ?_⟩
    show (x.1 * (lcmI x.2 y.2).fdiv x.2 + y.1 * (lcmI x.2 y.2).fdiv y.2).natAbs ≤ (M + M') * (lcmI x.2 y.2).natAbs
    rw [e2, e4, Nat.add_mul]
    have a1 : (x.1 * u).natAbs ≤ M * (lcmI x.2 y.2).natAbs := by
      rw [e1, Int.natAbs_mul, Int.natAbs_mul, ← Nat.mul_assoc]
      exact Nat.mul_le_mul_right _ h.bd
    have a2 : (y.1 * v).natAbs ≤ M' * (lcmI x.2 y.2).natAbs := by
      rw [e3, Int.natAbs_mul, Int.natAbs_mul, ← Nat.mul_assoc]
      exact Nat.mul_le_mul_right _ k.bd
    omega
theorem lsum_val {L M M' : Nat} {x y : Int × Int} (h : BP L M x) (k : BP L M' y) : valP (lsum x y) = valP x + valP y := by
  have hx := h.pos
  have hy := k.pos
  unfold lsum
  split
  · rename_i c
    unfold valP
    dsimp only
    rw [← c, Rat.divInt_add_divInt _ _ (by omega) (by omega)]
    rw [← Int.add_mul, Rat.divInt_mul_right (by omega)]
  · obtain ⟨p, dl, ⟨u, e1, e2, u0⟩, v, e3, e4, v0⟩ := lcm_facts h k
    unfold valP
    dsimp only
    rw [e2, e4]
    have a1 : Rat.divInt x.1 x.2 = Rat.divInt (x.1 * u) (lcmI x.2 y.2) := by rw [e1, Rat.divInt_mul_right (by omega)]
    have a2 : Rat.divInt y.1 y.2 = Rat.divInt (y.1 * v) (lcmI x.2 y.2) := by rw [e3, Rat.divInt_mul_right (by omega)]
    rw [a1, a2]
    generalize lcmI x.2 y.2 = l at p
    rw [Rat.divInt_add_divInt _ _ (by omega) (by omega), ← Int.add_mul, Rat.divInt_mul_right (by omega)]
theorem bq_add {L M M' : Nat} {x y : Rat} (h : BQ L M x) (k : BQ L M' y) : BQ L (M + M') (x + y) := by
  have := (lsum_bp h k).norm
  rw [lsum_val h k, val_qp, val_qp] at this
  exact this
theorem bq_mul {L M L' M' : Nat} {x y : Rat} (h : BQ L M x) (k : BQ L' M' y) : BQ (L * L') (M * M') (x * y) := by
  have := (h.mul k).norm
  rw [val_mul (by have := h.pos; omega) (by have := k.pos; omega), val_qp, val_qp] at this
  exact this
theorem bq_zero {L M : Nat} : BQ L M 0 := ⟨by show (0 : Int) < ((0 : Rat).den : Int); decide, by show ((1 : Nat) : Int) ∣ (L : Int); exact Int.one_dvd _, by show (0 : Int).natAbs ≤ _; simp⟩
/-! a large bound -/
@[irreducible] def BIG : Nat := 2 ^ 4000
end Rf
namespace Rf
open PySem PySem.Spec PyProof.Rows L2
/-! ### sums of terms -/
def sumAt (T : Pol) (e : List Int) : Rat := T.foldr (fun t s => (if t.1 = e then t.2 else 0) + s) 0
theorem sumAt_nil {e : List Int} : sumAt [] e = 0 := rfl
theorem sumAt_cons {t : List Int × Rat} {T : Pol} {e : List Int} : sumAt (t :: T) e = (if t.1 = e then t.2 else 0) + sumAt T e := rfl
theorem sumAt_append {T U : Pol} {e : List Int} : sumAt (T ++ U) e = sumAt T e + sumAt U e := by
  induction T with
  | nil => rw [List.nil_append, sumAt_nil, Rat.zero_add]
  | cons t T ih => rw [List.cons_append, sumAt_cons, sumAt_cons, ih, Rat.add_assoc]
theorem sumAt_snoc {T : Pol} {t : List Int × Rat} {e : List Int} : sumAt (T ++ [t]) e = sumAt T e + (if t.1 = e then t.2 else 0) := by
  rw [sumAt_append, sumAt_cons, sumAt_nil, Rat.add_zero]
/-- one term more in a table of sums -/
def addR (T : Pol) (e : List Int) (x : Rat) : Pol := putA T e (co T e + x)
theorem co_put {T : Pol} {e e' : List Int} {x : Rat} : co (putA T e x) e' = if e' = e then x else co T e' := by
  unfold co
  rw [lookA_put]
  split <;> rfl
theorem co_addR {T : Pol} {e e' : List Int} {x : Rat} : co (addR T e x) e' = co T e' + (if e = e' then x else 0) := by
  unfold addR
  rw [co_put]
  by_cases c : e' = e
  · subst c; simp
  · have : ¬ e = e' := fun z => c z.symm
    rw [if_neg c, if_neg this, Rat.add_zero]
/-! ### what is in a table -/
def BT (L M : Nat) (T : Pol) : Prop := ∀ t ∈ T, BQ L M t.2
theorem BT.mono {L M M' : Nat} {T : Pol} (h : BT L M T) (k : M ≤ M') : BT L M' T := fun t ht => (h t ht).mono k
theorem BT.co {L M : Nat} {T : Pol} (h : BT L M T) (e : List Int) : BQ L M (co T e) := by
  unfold Rf.co
  cases h2 : lookA T e with
  | none => exact bq_zero
  | some x => exact h _ (lookA_mem h2)
theorem BT.put {L M : Nat} {T : Pol} (h : BT L M T) {e : List Int} {x : Rat} (hx : BQ L M x) : BT L M (putA T e x) := fun t ht => by
  unfold putA at ht
  split at ht
  · obtain ⟨u, hu, rfl⟩ := List.mem_map.mp ht
    split
    · exact hx
    · exact h u hu
  · rcases List.mem_append.mp ht with ht | ht
    · exact h t ht
    · rw [List.mem_singleton] at ht; subst ht; exact hx
/-- a table of sums after j terms -/
structure TS' (n L M j : Nat) (T : Pol) (I : Pol) : Prop where
  nodup : (keysA T).Nodup
  ok : KOk n (keysA T)
  len : T.length ≤ j
  bd : BT L (M * j) T
  co : ∀ e, co T e = sumAt I e
  sub : ∀ e ∈ keysA T, e ∈ keysA I
theorem TS'.nil {n L M : Nat} : TS' n L M 0 [] [] := ⟨List.nodup_nil, fun _ h => (by cases h), Nat.le_refl _, fun _ h => (by cases h), fun _ => rfl, fun _ h => (by cases h)⟩
theorem TS'.add {n L M j : Nat} {T I : Pol} (h : TS' n L M j T I) {e : List Int} {x : Rat} (he : EOk n e) (hx : BQ L M x) : TS' n L M (j + 1) (addR T e x) (I ++ [(e, x)]) where
  nodup := nodup_put h.nodup
  ok := fun a ha => by
    rcases mem_keys_put.mp ha with z | z
    · exact h.ok a z
    · subst z; exact he
  len := Nat.le_trans len_put (Nat.succ_le_succ h.len)
  bd := (h.bd.mono (Nat.mul_le_mul_left _ (Nat.le_succ _))).put (by
    rw [Nat.mul_succ]
    exact bq_add (h.bd.co e) hx)
  co := fun a => by rw [co_addR, h.co, sumAt_snoc]
  sub := fun a ha => by
    unfold keysA at *
    rw [List.map_append, List.mem_append]
    rcases mem_keys_put.mp ha with z | z
    · exact .inl (h.sub a z)
    · exact .inr (by rw [z]; exact List.mem_cons_self)
/-- a polynomial with bounded coefficients -/
structure PB (n L M : Nat) (p : Pol) : Prop where
  wf : WF n p
  bd : BT L M p
theorem tidy_bt {L M : Nat} {T : Pol} (h : BT L M T) : BT L M (tidy T) := fun t ht => by
  unfold tidy at ht
  obtain ⟨e, _, h2⟩ := List.mem_filterMap.mp ht
  by_cases c : Rf.co T e = 0
  · rw [if_pos c] at h2; cases h2
  · rw [if_neg c] at h2; cases h2; exact h.co e
theorem tidy_len {T : Pol} : (tidy T).length ≤ T.length := by
  unfold tidy
  refine Nat.le_trans (List.length_filterMap_le _ _) ?_
  rw [(perm_sort _).length_eq]
  unfold keysA
  rw [List.length_map]; exact Nat.le_refl _
theorem TS'.pb {n L M j : Nat} {T I : Pol} (h : TS' n L M j T I) : PB n L (M * j) (tidy T) ∧ (tidy T).length ≤ j ∧ ∀ e, Rf.co (tidy T) e = sumAt I e :=
  ⟨⟨tidy_wf h.ok h.nodup, tidy_bt h.bd⟩, Nat.le_trans tidy_len h.len, fun e => (tidy_co h.ok h.nodup e).trans (h.co e)⟩
/-! ### numbers that may be the module's own -/
abbrev NP := (Int × Int) × Bool
def ofQ (q : Rat) : NP := (qp q, false)
def ratT (T : Tab NP) : Pol := T.map fun t => (t.1, valP t.2.1)
def ofP (p : Pol) : Tab NP := p.map fun t => (t.1, ofQ t.2)
def BN (L M : Nat) (T : Tab NP) : Prop := ∀ t ∈ T, BP L M t.2.1
theorem BN.mono {L M M' : Nat} {T : Tab NP} (h : BN L M T) (k : M ≤ M') : BN L M' T := fun t ht => (h t ht).mono k
theorem BT.of {L M : Nat} {p : Pol} (h : BT L M p) : BN L M (ofP p) := fun t ht => by
  obtain ⟨u, hu, rfl⟩ := List.mem_map.mp ht
  exact h u hu
theorem keys_rat (T : Tab NP) : keysA (ratT T) = keysA T := by
  unfold keysA ratT
  rw [List.map_map]; rfl
theorem co_rat (T : Tab NP) (e : List Int) : co (ratT T) e = ((lookA T e).map fun x => valP x.1).getD 0 := by
  unfold co ratT
  exact congrArg (fun o : Option Rat => o.getD 0) (lookA_map (f := fun x : NP => valP x.1))
/-- one pair more in the program's table -/
def addX (x : NP) : Option NP → NP
  | some y => (lsum y.1 x.1, false)
  | none => x
def addN (T : Tab NP) (e : List Int) (x : NP) : Tab NP := putA T e (addX x (lookA T e))
theorem BN.put {L M : Nat} {T : Tab NP} (h : BN L M T) {e : List Int} {x : NP} (hx : BP L M x.1) : BN L M (putA T e x) := fun t ht => by
  unfold putA at ht
  split at ht
  · obtain ⟨u, hu, rfl⟩ := List.mem_map.mp ht
    split
    · exact hx
    · exact h u hu
  · rcases List.mem_append.mp ht with ht | ht
    · exact h t ht
    · rw [List.mem_singleton] at ht; subst ht; exact hx
structure TN (n L M j : Nat) (T : Tab NP) (I : Pol) : Prop where
  nodup : (keysA T).Nodup
  ok : KOk n (keysA T)
  len : T.length ≤ j
  bd : BN L (M * j) T
  co : ∀ e, co (ratT T) e = sumAt I e
  sub : ∀ e ∈ keysA T, e ∈ keysA I
theorem TN.nil {n L M : Nat} : TN n L M 0 [] [] := ⟨List.nodup_nil, fun _ h => (by cases h), Nat.le_refl _, fun _ h => (by cases h), fun _ => rfl, fun _ h => (by cases h)⟩
theorem TN.add {n L M j : Nat} {T : Tab NP} {I : Pol} (h : TN n L M j T I) {e : List Int} {x : NP} (he : EOk n e) (hx : BP L M x.1) : TN n L M (j + 1) (addN T e x) (I ++ [(e, valP x.1)]) where
  nodup := nodup_put h.nodup
  ok := fun a ha => by
    rcases mem_keys_put.mp ha with z | z
    · exact h.ok a z
    · subst z; exact he
  len := Nat.le_trans len_put (Nat.succ_le_succ h.len)
  bd := by
    refine (h.bd.mono (Nat.mul_le_mul_left _ (Nat.le_succ _))).put ?_
    rw [Nat.mul_succ]
    cases h2 : lookA T e with
    | none => exact hx.mono (Nat.le_add_left _ _)
    | some y => exact lsum_bp (h.bd _ (lookA_mem h2)) hx
  co := fun a => by
    rw [sumAt_snoc, ← h.co, co_rat, co_rat]
    unfold addN
    rw [lookA_put]
    by_cases c : a = e
    · subst c
      rw [if_pos rfl, if_pos rfl]
      cases h2 : lookA T a with
      | none => show valP x.1 = 0 + valP x.1; rw [Rat.zero_add]
      | some y =>
        show valP (lsum y.1 x.1) = valP y.1 + valP x.1
        exact lsum_val (h.bd _ (lookA_mem h2)) hx
    · have : ¬ e = a := fun z => c z.symm
      rw [if_neg c, if_neg this, Rat.add_zero]
  sub := fun a ha => by
    unfold keysA at *
    rw [List.map_append, List.mem_append]
    rcases mem_keys_put.mp ha with z | z
    · exact .inl (h.sub a z)
    · exact .inr (by rw [z]; exact List.mem_cons_self)
theorem BN.rat {L M : Nat} {T : Tab NP} (h : BN L M T) : BT L M (ratT T) := fun t ht => by
  obtain ⟨u, hu, rfl⟩ := List.mem_map.mp ht
  exact (h u hu).norm
theorem TN.pb {n L M j : Nat} {T : Tab NP} {I : Pol} (h : TN n L M j T I) : PB n L (M * j) (tidy (ratT T)) ∧ (tidy (ratT T)).length ≤ j ∧ ∀ e, Rf.co (tidy (ratT T)) e = sumAt I e := by
  have h1 : KOk n (keysA (ratT T)) := by rw [keys_rat]; exact h.ok
  have h2 : (keysA (ratT T)).Nodup := by rw [keys_rat]; exact h.nodup
  refine ⟨⟨tidy_wf h1 h2, tidy_bt h.bd.rat⟩, Nat.le_trans tidy_len ?_, fun e => (tidy_co h1 h2 e).trans (h.co e)⟩
  unfold ratT
  rw [List.length_map]; exact h.len
end Rf
namespace Rf
open PySem PySem.Spec PyProof.Rows L2
theorem tidy_keys {T : Pol} : ∀ e ∈ keysA (tidy T), e ∈ keysA T := fun e he => by
  unfold tidy at he
  rw [keys_filterMap, List.mem_filter] at he
  exact (perm_sort _).mem_iff.mp he.1
/-- all but the object id stands -/
def KeepB (id : Nat) (S S' : Sto) : Prop := ∀ (i : Nat) (o : O), i ≠ id → S[i]? = some o → S'[i]? = some o
theorem KeepB.trans {id : Nat} {S S1 S2 : Sto} (a : KeepB id S S1) (b : KeepB id S1 S2) : KeepB id S S2 := fun i o h e => b i o h (a i o h e)
theorem Keep.b {id : Nat} {S S' : Sto} (k : Keep S S') : KeepB id S S' := fun i o _ e => k i o e
theorem take_snoc {α : Type} {l : List α} {j : Nat} {x : α} (h : l[j]? = some x) : l.take (j + 1) = l.take j ++ [x] := by rw [List.take_add_one, h]; rfl
/-! ### products -/
def addE (a b : List Int) : List Int := List.zipWith (· + ·) a b
def prodR (p q : Pol) : Pol := p.flatMap fun t => q.map fun u => (addE t.1 u.1, t.2 * u.2)
theorem prodR_len (p q : Pol) : (prodR p q).length = p.length * q.length := by
  unfold prodR
  rw [List.length_flatMap]
  simp only [List.length_map]
  induction p with
  | nil => simp
  | cons t p ih => simp only [List.map_cons, List.sum_cons, List.length_cons] at *; rw [ih, Nat.succ_mul, Nat.add_comm]
theorem prodR_keys {p q : Pol} {e : List Int} (h : e ∈ keysA (prodR p q)) : ∃ a ∈ keysA p, ∃ b ∈ keysA q, e = addE a b := by
  unfold keysA prodR at h
  obtain ⟨t, ht, rfl⟩ := List.mem_map.mp h
  obtain ⟨u, hu, ht⟩ := List.mem_flatMap.mp ht
  obtain ⟨v, hv, rfl⟩ := List.mem_map.mp ht
  exact ⟨u.1, List.mem_map.mpr ⟨u, hu, rfl⟩, v.1, List.mem_map.mpr ⟨v, hv, rfl⟩, rfl⟩
def EB (n : Nat) (B : Int) (e : List Int) : Prop := e.length = n ∧ TS.Bd B e
theorem addE_eb {n : Nat} {B B' : Int} {a b : List Int} (ha : EB n B a) (hb : EB n B' b) : EB n (B + B') (addE a b) := by
  refine ⟨by unfold addE; rw [List.length_zipWith, ha.1, hb.1, Nat.min_self], fun m hm => ?_⟩
  unfold addE at hm
  obtain ⟨i, hi⟩ := List.mem_iff_getElem?.mp hm
  rw [List.getElem?_zipWith] at hi
  cases h1 : a[i]? with
  | none => rw [h1] at hi; cases hi
  | some x =>
    cases h2 : b[i]? with
    | none => rw [h1, h2] at hi; cases hi
    | some y =>
      rw [h1, h2] at hi
      cases hi
      have k1 := ha.2 x (List.mem_of_getElem? h1)
      have k2 := hb.2 y (List.mem_of_getElem? h2)
      constructor <;> omega
def PK (n : Nat) (B : Int) (p : Pol) : Prop := ∀ e ∈ keysA p, EB n B e
theorem PK.prod {n : Nat} {B B' : Int} {p q : Pol} (hp : PK n B p) (hq : PK n B' q) : PK n (B + B') (prodR p q) := fun e he => by
  obtain ⟨a, ha, b, hb, rfl⟩ := prodR_keys he
  exact addE_eb (hp a ha) (hq b hb)
theorem PK.kok {n : Nat} {B : Int} {p : Pol} (h : PK n B p) (hB : B ≤ 1048576) : KOk n (keysA p) := fun e he => ⟨(h e he).1, fun m hm => by
  have := (h e he).2 m hm
  exact ⟨this.1, by omega⟩⟩
/-! ### the product as a polynomial -/
def accR (I : Pol) : Pol := I.foldl (fun T t => addR T t.1 t.2) []
theorem accR_snoc (I : Pol) (t : List Int × Rat) : accR (I ++ [t]) = addR (accR I) t.1 t.2 := by unfold accR; rw [List.foldl_append]; rfl
theorem accR_take {n L M : Nat} {I : Pol} (hk : KOk n (keysA I)) (hb : BT L M I) : ∀ j, j ≤ I.length → TS' n L M j (accR (I.take j)) (I.take j)
  | 0, _ => TS'.nil
  | j + 1, h => by
    have hj : j < I.length := h
    have e : I[j]? = some I[j] := List.getElem?_eq_getElem hj
    have ih := accR_take hk hb j (Nat.le_of_lt hj)
    rw [take_snoc e, accR_snoc]
    exact ih.add (hk _ (List.mem_map.mpr ⟨_, List.getElem_mem hj, rfl⟩)) (hb _ (List.getElem_mem hj))
theorem accR_all {n L M : Nat} {I : Pol} (hk : KOk n (keysA I)) (hb : BT L M I) : TS' n L M I.length (accR I) I := by
  have := accR_take hk hb I.length (Nat.le_refl _)
  rwa [List.take_length] at this
/-- sums of terms, as a polynomial -/
def sumP (I : Pol) : Pol := tidy (accR I)
def mulP (p q : Pol) : Pol := sumP (prodR p q)
theorem sumP_facts {n L M : Nat} {I : Pol} (hk : KOk n (keysA I)) (hb : BT L M I) : PB n L (M * I.length) (sumP I) ∧ (sumP I).length ≤ I.length ∧ (∀ e, co (sumP I) e = sumAt I e) ∧ ∀ e ∈ keysA (sumP I), e ∈ keysA I := by
  have h := accR_all hk hb
  obtain ⟨a, b, c⟩ := h.pb
  exact ⟨a, b, c, fun e he => h.sub e (tidy_keys e he)⟩
theorem prodR_bt {L M L' M' : Nat} {p q : Pol} (hp : BT L M p) (hq : BT L' M' q) : BT (L * L') (M * M') (prodR p q) := fun x hx => by
  obtain ⟨t, ht, hx⟩ := List.mem_flatMap.mp hx
  obtain ⟨u, hu, rfl⟩ := List.mem_map.mp hx
  exact bq_mul (hp t ht) (hq u hu)
structure QB (n : Nat) (B : Int) (L M m : Nat) (p : Pol) : Prop where
  pb : PB n L M p
  pk : PK n B p
  len : p.length ≤ m
theorem QB.mul {n : Nat} {B B' : Int} {L M m L' M' m' : Nat} {p q : Pol} (hp : QB n B L M m p) (hq : QB n B' L' M' m' q) (hB : B + B' ≤ 1048576) : QB n (B + B') (L * L') (M * M' * (m * m')) (m * m') (mulP p q) ∧ ∀ e ∈ keysA (mulP p q), e ∈ keysA (prodR p q) := by
  have hk := (hp.pk.prod hq.pk).kok hB
  have hb := prodR_bt hp.pb.bd hq.pb.bd
  obtain ⟨a, b, c, d⟩ := sumP_facts hk hb
  have hl : p.length * q.length ≤ m * m' := Nat.mul_le_mul hp.len hq.len
  rw [prodR_len] at a b
  exact ⟨⟨⟨a.wf, a.bd.mono (Nat.mul_le_mul_left _ hl)⟩, fun e he => hp.pk.prod hq.pk e (d e he), Nat.le_trans b hl⟩, d⟩
theorem kitN1 : kitB "NoneType" "tuple" = some false := by decide +kernel
theorem kitN2 : kitB "NoneType" "list" = some false := by decide +kernel
theorem QB.mono {n : Nat} {B : Int} {L M m M' : Nat} {p : Pol} (h : QB n B L M m p) (k : M ≤ M') : QB n B L M' m p := ⟨⟨h.pb.wf, h.pb.bd.mono k⟩, h.pk, h.len⟩
/-! a comprehension whose items are only described -/
end Rf
namespace Gn
open PySem PySem.Spec PyProof.Rows L2 Rf
def topS (i : Nat) : Stmt := PySem.Challenge.pw_rootfast_k04_texts_of_numbers.main.body.getD i (.Pass ⟨0, 0, 0, 0⟩)
abbrev s_write_number : Stmt := topS 7
abbrev s_read_number : Stmt := topS 8
abbrev s__read_figures : Stmt := topS 9
abbrev s__law_cell : Stmt := topS 11
abbrev s__law_draws : Stmt := topS 12
abbrev s__law_is_int : Stmt := topS 13
abbrev s__law_is_text : Stmt := topS 14
abbrev s__law_is_number : Stmt := topS 15
abbrev s__law_gcd : Stmt := topS 16
abbrev s__law_frac : Stmt := topS 17
abbrev s__law_same : Stmt := topS 18
abbrev s__law_any_number : Stmt := topS 19
abbrev s__law_read : Stmt := topS 20
abbrev s__law_meant : Stmt := topS 21
abbrev s_law : Stmt := topS 22
theorem sc_write_number : FnScope ["x", "a", "b"] ["x"] (defScope s_write_number) := ⟨rfl, rfl, rfl, by decide +kernel, rfl, by decide +kernel, by decide +kernel⟩
theorem sc_read_number : FnScope ["text", "above", "line", "below", "negative", "a", "b"] ["text"] (defScope s_read_number) := ⟨rfl, rfl, rfl, by decide +kernel, rfl, by decide +kernel, by decide +kernel⟩
theorem sc__read_figures : FnScope ["text", "figure"] ["text"] (defScope s__read_figures) := ⟨rfl, rfl, rfl, by decide +kernel, rfl, by decide +kernel, by decide +kernel⟩
theorem sc__law_cell : FnScope ["script", "k"] ["script", "k"] (defScope s__law_cell) := ⟨rfl, rfl, rfl, by decide +kernel, rfl, by decide +kernel, by decide +kernel⟩
theorem sc__law_draws : FnScope ["cell", "count", "rows", "left", "k", "mixed"] ["cell", "count"] (defScope s__law_draws) := ⟨rfl, rfl, rfl, by decide +kernel, rfl, by decide +kernel, by decide +kernel⟩
theorem sc__law_is_int : FnScope ["x"] ["x"] (defScope s__law_is_int) := ⟨rfl, rfl, rfl, by decide +kernel, rfl, by decide +kernel, by decide +kernel⟩
theorem sc__law_is_text : FnScope ["x", "due"] ["x", "due"] (defScope s__law_is_text) := ⟨rfl, rfl, rfl, by decide +kernel, rfl, by decide +kernel, by decide +kernel⟩
theorem sc__law_is_number : FnScope ["x", "due"] ["x", "due"] (defScope s__law_is_number) := ⟨rfl, rfl, rfl, by decide +kernel, rfl, by decide +kernel, by decide +kernel⟩
theorem sc__law_gcd : FnScope ["a", "b"] ["a", "b"] (defScope s__law_gcd) := ⟨rfl, rfl, rfl, by decide +kernel, rfl, by decide +kernel, by decide +kernel⟩
theorem sc__law_frac : FnScope ["a", "b", "common"] ["a", "b"] (defScope s__law_frac) := ⟨rfl, rfl, rfl, by decide +kernel, rfl, by decide +kernel, by decide +kernel⟩
theorem sc__law_same : FnScope ["x", "due", "k"] ["x", "due"] (defScope s__law_same) := ⟨rfl, rfl, rfl, by decide +kernel, rfl, by decide +kernel, by decide +kernel⟩
theorem sc__law_any_number : FnScope ["draw", "more", "great"] ["draw", "more"] (defScope s__law_any_number) := ⟨rfl, rfl, rfl, by decide +kernel, rfl, by decide +kernel, by decide +kernel⟩
theorem sc__law_read : FnScope ["text"] ["text"] (defScope s__law_read) := ⟨rfl, rfl, rfl, by decide +kernel, rfl, by decide +kernel, by decide +kernel⟩
theorem sc__law_meant : FnScope ["text", "minus", "parts", "part", "a", "b", "sign"] ["text"] (defScope s__law_meant) := ⟨rfl, rfl, rfl, by decide +kernel, rfl, by decide +kernel, by decide +kernel⟩
theorem sc_law : FnScope ["script", "turn", "draws", "x", "text", "at", "sign", "rows", "figures", "odd", "row"] ["script"] (defScope s_law) := ⟨rfl, rfl, rfl, by decide +kernel, rfl, by decide +kernel, by decide +kernel⟩
structure Adr where
  f_write_number : Addr
  d_write_number : FuncData
  f_read_number : Addr
  d_read_number : FuncData
  f__read_figures : Addr
  d__read_figures : FuncData
  f__law_cell : Addr
  d__law_cell : FuncData
  f__law_draws : Addr
  d__law_draws : FuncData
  f__law_is_int : Addr
  d__law_is_int : FuncData
  f__law_is_text : Addr
  d__law_is_text : FuncData
  f__law_is_number : Addr
  d__law_is_number : FuncData
  f__law_gcd : Addr
  d__law_gcd : FuncData
  f__law_frac : Addr
  d__law_frac : FuncData
  f__law_same : Addr
  d__law_same : FuncData
  f__law_any_number : Addr
  d__law_any_number : FuncData
  f__law_read : Addr
  d__law_read : FuncData
  f__law_meant : Addr
  d__law_meant : FuncData
  f_law : Addr
  d_law : FuncData
  c_RootfastError : Addr
  c_BadText : Addr
def ecOf (a : Adr) : Str → Value := fun x => if x = "RootfastError" then .ref a.c_RootfastError else if x = "BadText" then .ref a.c_BadText else .none
theorem ec_BadText (a : Adr) : ecOf a "BadText" = .ref a.c_BadText := by rfl
structure Txt (K : PySem.W.Frag) (mg : Str → Option Value) (a : Adr) : Prop where
  F_write_number : Fun K "write_number" "write_number" s_write_number a.f_write_number a.d_write_number
  b_write_number : Binds K a.d_write_number ["x"] []
  g_write_number : mg "write_number" = some (.ref a.f_write_number)
  F_read_number : Fun K "read_number" "read_number" s_read_number a.f_read_number a.d_read_number
  b_read_number : Binds K a.d_read_number ["text"] []
  g_read_number : mg "read_number" = some (.ref a.f_read_number)
  F__read_figures : Fun K "_read_figures" "_read_figures" s__read_figures a.f__read_figures a.d__read_figures
  b__read_figures : Binds K a.d__read_figures ["text"] []
  g__read_figures : mg "_read_figures" = some (.ref a.f__read_figures)
  F__law_cell : Fun K "_law_cell" "_law_cell" s__law_cell a.f__law_cell a.d__law_cell
  b__law_cell : Binds K a.d__law_cell ["script", "k"] []
  g__law_cell : mg "_law_cell" = some (.ref a.f__law_cell)
  F__law_draws : Fun K "_law_draws" "_law_draws" s__law_draws a.f__law_draws a.d__law_draws
  b__law_draws : Binds K a.d__law_draws ["cell", "count"] []
  g__law_draws : mg "_law_draws" = some (.ref a.f__law_draws)
  F__law_is_int : Fun K "_law_is_int" "_law_is_int" s__law_is_int a.f__law_is_int a.d__law_is_int
  b__law_is_int : Binds K a.d__law_is_int ["x"] []
  g__law_is_int : mg "_law_is_int" = some (.ref a.f__law_is_int)
  F__law_is_text : Fun K "_law_is_text" "_law_is_text" s__law_is_text a.f__law_is_text a.d__law_is_text
  b__law_is_text : Binds K a.d__law_is_text ["x", "due"] []
  g__law_is_text : mg "_law_is_text" = some (.ref a.f__law_is_text)
  F__law_is_number : Fun K "_law_is_number" "_law_is_number" s__law_is_number a.f__law_is_number a.d__law_is_number
  b__law_is_number : Binds K a.d__law_is_number ["x", "due"] []
  g__law_is_number : mg "_law_is_number" = some (.ref a.f__law_is_number)
  F__law_gcd : Fun K "_law_gcd" "_law_gcd" s__law_gcd a.f__law_gcd a.d__law_gcd
  b__law_gcd : Binds K a.d__law_gcd ["a", "b"] []
  g__law_gcd : mg "_law_gcd" = some (.ref a.f__law_gcd)
  F__law_frac : Fun K "_law_frac" "_law_frac" s__law_frac a.f__law_frac a.d__law_frac
  b__law_frac : Binds K a.d__law_frac ["a", "b"] []
  g__law_frac : mg "_law_frac" = some (.ref a.f__law_frac)
  F__law_same : Fun K "_law_same" "_law_same" s__law_same a.f__law_same a.d__law_same
  b__law_same : Binds K a.d__law_same ["x", "due"] []
  g__law_same : mg "_law_same" = some (.ref a.f__law_same)
  F__law_any_number : Fun K "_law_any_number" "_law_any_number" s__law_any_number a.f__law_any_number a.d__law_any_number
  b__law_any_number : Binds K a.d__law_any_number ["draw", "more"] []
  g__law_any_number : mg "_law_any_number" = some (.ref a.f__law_any_number)
  F__law_read : Fun K "_law_read" "_law_read" s__law_read a.f__law_read a.d__law_read
  b__law_read : Binds K a.d__law_read ["text"] []
  g__law_read : mg "_law_read" = some (.ref a.f__law_read)
  F__law_meant : Fun K "_law_meant" "_law_meant" s__law_meant a.f__law_meant a.d__law_meant
  b__law_meant : Binds K a.d__law_meant ["text"] []
  g__law_meant : mg "_law_meant" = some (.ref a.f__law_meant)
  F_law : Fun K "law" "law" s_law a.f_law a.d_law
  b_law : Binds K a.d_law ["script"] []
  g_law : mg "law" = some (.ref a.f_law)
  z_abs : mg "abs" = none
  z_bool : mg "bool" = none
  z_int : mg "int" = none
  z_isinstance : mg "isinstance" = none
  z_len : mg "len" = none
  z_list : mg "list" = none
  z_range : mg "range" = none
  z_str : mg "str" = none
  z_tuple : mg "tuple" = none
  z_gcd : mg "gcd" = some (.builtin "math.gcd")
  q__MOST_FIGURES : ∃ t, mg "_MOST_FIGURES" = some (Value.int 60 t)
  q__FIGURES : ∃ t, mg "_FIGURES" = some (Value.str (PySem.Str.ofString "0123456789") t)
  g_BadText : mg "BadText" = some (.ref a.c_BadText)
  x_BadText : PySem.W.excIn K a.c_BadText [.type "ValueError", .type "Exception", .type "BaseException", .type "object"] "ValueError.__new__" = true
  k_BadText : PySem.W.keepIn K (.ref a.c_BadText) = true
  s_BadText : PySem.W.subIn K (.ref a.c_BadText) (.type "BaseException") = some true
  t_BadText : PySem.W.typeIn K (.ref a.c_BadText) = some (.type "type")
  i_BadText : PySem.W.isClsIn K a.c_BadText = true
  u_BadText : PySem.W.subIn K (.ref a.c_BadText) (.ref a.c_BadText) = some true
/-! ### the defs, by values -/
theorem mNilL : ∀ (ρ : Rf.Env) (S : Sto) (ds : List D) (S' : Sto), mNil ρ S = some (.val ds S') → ds.length = 0 := fun _ _ _ _ h => mNil_len h
def m_write_number : MS :=
    (sSeq (sAsg (tTp 2 (tCons' (tN 1) (tCons' (tN 2) tNil'))) (mVar 0))
    (sRet (mIf (mT (mOp gEq (mVar 2) (mRet (.int 1)))) (mBi gStr (mCons (mVar 1) mNil)) (mJs ((mUn gFmt (mVar 1)) :: ((mRet (.str (PySem.Str.ofString "/"))) :: ((mUn gFmt (mVar 2)) :: []))) Str.empty))))
def F_write_number : List D → Sto → Option (R D) := fnOf 3 m_write_number
def L0__read_figures : MS := (sIf (mT (mOp gNotInT (mVar 1) (mRet (.str (PySem.Str.ofString "0123456789"))))) (sRaise "BadText") sNil)
def m__read_figures : MS :=
    (sSeq (sIf (mOr (mNotB (mTru (mVar 0))) (mT (mOp gGt (mBi gLenT (mCons (mVar 0) mNil)) (mRet (.int 60))))) (sRaise "BadText") sNil)
    (sSeq (sFor (tN 1) (mSeqS (mVar 0)) L0__read_figures)
    (sSeq (sIf (mAnd (mT (mOp gEq (mOp gIx (mVar 0) (mRet (.int 0))) (mRet (.str (PySem.Str.ofString "0"))))) (mT (mOp gNe (mVar 0) (mRet (.str (PySem.Str.ofString "0")))))) (sRaise "BadText") sNil)
    (sRet (mBi gIntT (mCons (mVar 0) mNil))))))
def F__read_figures : List D → Sto → Option (R D) := fnOf 2 m__read_figures
def m__law_cell : MS :=
    (sSeq (sIf (mT (mOp gLt (mVar 1) (mBi gLen (mCons (mVar 0) mNil)))) (sRet (mOp gIx (mVar 0) (mVar 1))) sNil)
    (sRet (mRet (.int 0))))
def F__law_cell : List D → Sto → Option (R D) := fnOf 2 m__law_cell
def L0__law_draws : MS := (sIf (mAnd (mT (mOp gGe (mVar 0) (mOp gPow (mRet (.int 10)) (mRet (.int 18))))) (mT (mOp gGt (mVar 3) (mRet (.int 0))))) (sSeq (sEx (mApp (mVar 2) (mOp gMod (mBi gInt (mCons (mVar 3) mNil)) (mRet (.int 4096)))))
    (sSet 3 (mOp gDiv (mVar 3) (mRet (.int 4096))))) (sSeq (sSet 5 (mOp gMod (mBi gInt (mCons (mOp gAdd (mOp gMul (mVar 0) (mRet (.int 48271))) (mOp gMul (mOp gAdd (mVar 4) (mRet (.int 1))) (mRet (.int 69621)))) mNil)) (mRet (.int 2147483647))))
    (sSeq (sSet 5 (mOp gMod (mBi gInt (mCons (mOp gAdd (mOp gAdd (mOp gMul (mVar 5) (mVar 5)) (mOp gMul (mVar 5) (mRet (.int 16807)))) (mOp gMul (mVar 4) (mRet (.int 7919)))) mNil)) (mRet (.int 2147483629))))
    (sSeq (sSet 5 (mOp gMod (mBi gInt (mCons (mOp gAdd (mOp gAdd (mOp gMul (mVar 5) (mVar 5)) (mVar 0)) (mOp gMul (mRet (.int 13)) (mVar 4))) mNil)) (mRet (.int 2147483587))))
    (sEx (mApp (mVar 2) (mOp gMod (mOp gDiv (mVar 5) (mRet (.int 7))) (mRet (.int 4096)))))))))
def m__law_draws : MS :=
    (sSeq (sSet 2 (mLst mNil))
    (sSeq (sSet 3 (mVar 0))
    (sSeq (sFor (tN 4) (mRng1 (mCons (mVar 1) mNil)) L0__law_draws)
    (sRet (mVar 2)))))
def F__law_draws : List D → Sto → Option (R D) := fnOf 6 m__law_draws
def m__law_is_int : MS :=
    (sRet (mAndV (mBi gIsi (mCons (mVar 0) (mCons (mRet (.ty "int")) mNil))) (mUn gNot (mBi gIsi (mCons (mVar 0) (mCons (mRet (.ty "bool")) mNil))))))
def F__law_is_int : List D → Sto → Option (R D) := fnOf 1 m__law_is_int
def m__law_is_text : MS :=
    (sRet (mAndV (mBi gIsi (mCons (mVar 0) (mCons (mRet (.ty "str")) mNil))) (mOp gEq (mVar 0) (mVar 1))))
def F__law_is_text : List D → Sto → Option (R D) := fnOf 2 m__law_is_text
def L0__law_gcd : M Bool := (mT (mOp gNe (mVar 1) (mRet (.int 0))))
def L1__law_gcd : MS := (sPar 0 1 (mCons (mVar 1) (mCons (mOp gMod (mBi gInt (mCons (mVar 0) mNil)) (mVar 1)) mNil)))
def m__law_gcd : MS :=
    (sSeq (sSet 0 (mBi gAbs (mCons (mVar 0) mNil)))
    (sSeq (sSet 1 (mBi gAbs (mCons (mVar 1) mNil)))
    (sSeq (sWhile L0__law_gcd L1__law_gcd)
    (sRet (mVar 0)))))
def F__law_gcd : List D → Sto → Option (R D) := fnOf 2 m__law_gcd
def m_read_number : MS :=
    (sSeq (sAsg (tTp 3 (tCons' (tN 1) (tCons' (tN 2) (tCons' (tN 3) tNil')))) (mM1 gPart (mVar 0) (mRet (.str (PySem.Str.ofString "/")))))
    (sSeq (sSet 4 (mM1 gStarts (mVar 1) (mRet (.str (PySem.Str.ofString "-")))))
    (sSeq (sSet 5 (mCall F__read_figures (mCons (mIf (mTru (mVar 4)) (mSyL (mVar 1) (mRet (.int 1))) (mVar 1)) mNil)))
    (sSeq (sIf (mAnd (mTru (mVar 4)) (mT (mOp gEq (mVar 5) (mRet (.int 0))))) (sRaise "BadText") sNil)
    (sSeq (sSet 6 (mRet (.int 1)))
    (sSeq (sIf (mTru (mVar 2)) (sSeq (sSet 6 (mCall F__read_figures (mCons (mVar 3) mNil)))
    (sIf (mOr (mT (mOp gLt (mVar 6) (mRet (.int 2)))) (mT (mOp gNe (mBi gGcd (mCons (mVar 5) (mCons (mVar 6) mNil))) (mRet (.int 1))))) (sRaise "BadText") sNil)) sNil)
    (sRet (mTup (mCons (mIf (mTru (mVar 4)) (mUn gNeg (mVar 5)) (mVar 5)) (mCons (mVar 6) mNil))))))))))
def F_read_number : List D → Sto → Option (R D) := fnOf 7 m_read_number
def m__law_is_number : MS :=
    (sRet (mAndV (mCall F__law_is_int (mCons (mVar 0) mNil)) (mOp gEq (mVar 0) (mVar 1))))
def F__law_is_number : List D → Sto → Option (R D) := fnOf 2 m__law_is_number
def m__law_frac : MS :=
    (sSeq (sSet 2 (mCall F__law_gcd (mCons (mVar 0) (mCons (mVar 1) mNil))))
    (sSeq (sIf (mT (mOp gLt (mVar 1) (mRet (.int 0)))) (sSet 2 (mUn gNeg (mVar 2))) sNil)
    (sRet (mTup (mCons (mOp gDiv (mVar 0) (mVar 2)) (mCons (mOp gDiv (mVar 1) (mVar 2)) mNil))))))
def F__law_frac : List D → Sto → Option (R D) := fnOf 3 m__law_frac
def L0__law_meant : M Bool := (mT (mOp gNotInT (mVar 6) (mRet (.str (PySem.Str.ofString "0123456789")))))
def L1__law_meant : M D := (mVar 6)
def L2__law_meant : MS := (sSeq (sIf (mOr (mT (mOp gEq (mVar 3) (mRet (.str (PySem.Str.ofString ""))))) (mOr (mT (mOp gGt (mBi gLenT (mCons (mVar 3) mNil)) (mRet (.int 60)))) (mT (mOp gGt (mBi gLenT (mCons (mLc [6] (tN 6) (mSeqS (mVar 3)) L0__law_meant L1__law_meant) mNil)) (mRet (.int 0)))))) (sRet (mRet .non)) sNil)
    (sIf (mAnd (mT (mOp gGt (mBi gLenT (mCons (mVar 3) mNil)) (mRet (.int 1)))) (mT (mOp gEq (mOp gIx (mVar 3) (mRet (.int 0))) (mRet (.str (PySem.Str.ofString "0")))))) (sRet (mRet .non)) sNil))
def m__law_meant : MS :=
    (sSeq (sSet 1 (mOp gEq (mSyH (mVar 0) (mRet (.int 1))) (mRet (.str (PySem.Str.ofString "-")))))
    (sSeq (sSet 2 (mM1 gSplit (mSyL (mVar 0) (mBi gIntT (mCons (mVar 1) mNil))) (mRet (.str (PySem.Str.ofString "/")))))
    (sSeq (sIf (mT (mOp gGt (mBi gLenT (mCons (mVar 2) mNil)) (mRet (.int 2)))) (sRet (mRet .non)) sNil)
    (sSeq (sFor (tN 3) (mSeq (mVar 2)) L2__law_meant)
    (sSeq (sSet 4 (mBi gIntT (mCons (mOp gIx (mVar 2) (mRet (.int 0))) mNil)))
    (sSeq (sSet 5 (mBi gIntT (mCons (mOp gIx (mOp gAdd (mVar 2) (mLst (mCons (mRet (.str (PySem.Str.ofString "1"))) mNil))) (mRet (.int 1))) mNil)))
    (sSeq (sIf (mOr (mT (mOp gLt (mVar 5) (mRet (.int 1)))) (mOr (mAnd (mT (mOp gEq (mBi gLenT (mCons (mVar 2) mNil)) (mRet (.int 2)))) (mT (mOp gEq (mVar 5) (mRet (.int 1))))) (mOr (mT (mOp gNe (mCall F__law_gcd (mCons (mVar 4) (mCons (mVar 5) mNil))) (mRet (.int 1)))) (mAnd (mTru (mVar 1)) (mT (mOp gEq (mVar 4) (mRet (.int 0)))))))) (sRet (mRet .non)) sNil)
    (sRet (mTup (mCons (mOp gIx (mLst (mCons (mVar 4) (mCons (mUn gNeg (mVar 4)) mNil))) (mBi gIntT (mCons (mVar 1) mNil))) (mCons (mVar 5) mNil)))))))))))
def F__law_meant : List D → Sto → Option (R D) := fnOf 7 m__law_meant
def m__law_same (Fr : List D → Sto → Option (R D)) : MS :=
    (sSeq (sIf (mT (mBi gIsi (mCons (mVar 1) (mCons (mRet (.ty "tuple")) mNil)))) (sSeq (sIf (mOr (mNotB (mT (mBi gIsi (mCons (mVar 0) (mCons (mRet (.ty "tuple")) mNil))))) (mT (mOp gNe (mBi gLen (mCons (mVar 0) mNil)) (mBi gLen (mCons (mVar 1) mNil))))) (sRet (mRet (.bl false))) sNil)
    (sRet (mOp gEq (mBi gLen (mCons (mLc [2] (tN 2) (mRng1 (mCons (mBi gLen (mCons (mVar 1) mNil)) mNil)) (mNotB (mTru (mCall Fr (mCons (mOp gIx (mVar 0) (mVar 2)) (mCons (mOp gIx (mVar 1) (mVar 2)) mNil))))) (mVar 2)) mNil)) (mRet (.int 0))))) sNil)
    (sSeq (sIf (mT (mBi gIsi (mCons (mVar 1) (mCons (mRet (.ty "list")) mNil)))) (sSeq (sIf (mOr (mNotB (mT (mBi gIsi (mCons (mVar 0) (mCons (mRet (.ty "list")) mNil))))) (mT (mOp gNe (mBi gLen (mCons (mVar 0) mNil)) (mBi gLen (mCons (mVar 1) mNil))))) (sRet (mRet (.bl false))) sNil)
    (sRet (mOp gEq (mBi gLen (mCons (mLc [2] (tN 2) (mRng1 (mCons (mBi gLen (mCons (mVar 1) mNil)) mNil)) (mNotB (mTru (mCall Fr (mCons (mOp gIx (mVar 0) (mVar 2)) (mCons (mOp gIx (mVar 1) (mVar 2)) mNil))))) (mVar 2)) mNil)) (mRet (.int 0))))) sNil)
    (sSeq (sIf (mT (mOp gIs (mVar 1) (mRet .non))) (sRet (mOp gIs (mVar 0) (mRet .non))) sNil)
    (sSeq (sIf (mT (mOp gIs (mVar 1) (mRet (.bl true)))) (sRet (mOp gIs (mVar 0) (mRet (.bl true)))) sNil)
    (sSeq (sIf (mT (mOp gIs (mVar 1) (mRet (.bl false)))) (sRet (mOp gIs (mVar 0) (mRet (.bl false)))) sNil)
    (sSeq (sIf (mT (mBi gIsi (mCons (mVar 1) (mCons (mRet (.ty "int")) mNil)))) (sRet (mCall F__law_is_number (mCons (mVar 0) (mCons (mVar 1) mNil)))) sNil)
    (sRet (mCall F__law_is_text (mCons (mVar 0) (mCons (mVar 1) mNil))))))))))
def F__law_same : Nat → List D → Sto → Option (R D)
  | 0 => fun _ _ => none
  | k + 1 => fnOf 3 (m__law_same (F__law_same k))
def m__law_any_number : MS :=
    (sSeq (sSet 2 (mBi gIntT (mCons (mOp gAdd (mRet (.str (PySem.Str.ofString "1"))) (mOp gMulT (mRet (.str (PySem.Str.ofString "0"))) (mOp gMod (mVar 1) (mRet (.int 40))))) mNil)))
    (sRet (mCall F__law_frac (mCons (mOp gAdd (mOp gMul (mOp gSub (mOp gMod (mVar 0) (mRet (.int 2001))) (mRet (.int 1000))) (mVar 2)) (mOp gMod (mVar 1) (mRet (.int 7)))) (mCons (mOp gAdd (mRet (.int 1)) (mOp gMul (mOp gMod (mOp gDiv (mVar 0) (mRet (.int 16))) (mRet (.int 9))) (mOp gAdd (mRet (.int 1)) (mOp gMul (mVar 2) (mOp gMod (mOp gDiv (mVar 1) (mRet (.int 40))) (mRet (.int 2))))))) mNil)))))
def F__law_any_number : List D → Sto → Option (R D) := fnOf 3 m__law_any_number
def m__law_read : MS :=
    (sTry (sRet (mCall F_read_number (mCons (mVar 0) mNil))) "BadText" (sRet (mRet .non)))
def F__law_read : List D → Sto → Option (R D) := fnOf 1 m__law_read
def L0_law : MS := (sIf (mNotB (mTru (mCall (F__law_same 40) (mCons (mCall F__law_read (mCons (mVar 10) mNil)) (mCons (mCall F__law_meant (mCons (mVar 10) mNil)) mNil))))) (sRet (mRet (.bl false))) sNil)
def L1_law : MS := (sSeq (sSet 2 (mCall F__law_draws (mCons (mCall F__law_cell (mCons (mVar 0) (mCons (mVar 1) mNil))) (mCons (mRet (.int 8)) mNil))))
    (sSeq (sSet 3 (mCall F__law_any_number (mCons (mOp gIx (mVar 2) (mRet (.int 0))) (mCons (mOp gIx (mVar 2) (mRet (.int 1))) mNil))))
    (sSeq (sSet 4 (mBi gStr (mCons (mOp gIx (mVar 3) (mRet (.int 0))) mNil)))
    (sSeq (sIf (mT (mOp gGt (mOp gIx (mVar 3) (mRet (.int 1))) (mRet (.int 1)))) (sSet 4 (mOp gAdd (mOp gAdd (mVar 4) (mRet (.str (PySem.Str.ofString "/")))) (mBi gStr (mCons (mOp gIx (mVar 3) (mRet (.int 1))) mNil)))) sNil)
    (sSeq (sIf (mOr (mNotB (mTru (mCall F__law_is_text (mCons (mCall F_write_number (mCons (mVar 3) mNil)) (mCons (mVar 4) mNil))))) (mNotB (mTru (mCall (F__law_same 40) (mCons (mCall F__law_read (mCons (mVar 4) mNil)) (mCons (mVar 3) mNil)))))) (sRet (mRet (.bl false))) sNil)
    (sSeq (sSet 5 (mOp gMod (mOp gIx (mVar 2) (mRet (.int 2))) (mOp gAdd (mBi gLenT (mCons (mVar 4) mNil)) (mRet (.int 1)))))
    (sSeq (sSet 6 (mOp gIx (mRet (.str (PySem.Str.ofString "0123456789/-+ .x"))) (mOp gMod (mOp gIx (mVar 2) (mRet (.int 3))) (mRet (.int 16)))))
    (sSeq (sSet 7 (mLst (mCons (mOp gAdd (mOp gAdd (mSyH (mVar 4) (mVar 5)) (mVar 6)) (mSyL (mVar 4) (mVar 5))) (mCons (mOp gAdd (mSyH (mVar 4) (mVar 5)) (mSyL (mVar 4) (mOp gAdd (mVar 5) (mRet (.int 1))))) (mCons (mOp gAdd (mOp gAdd (mSyH (mVar 4) (mVar 5)) (mVar 6)) (mSyL (mVar 4) (mOp gAdd (mVar 5) (mRet (.int 1))))) mNil)))))
    (sSeq (sSet 8 (mOp gAdd (mRet (.str (PySem.Str.ofString "1"))) (mOp gMulT (mRet (.str (PySem.Str.ofString "0"))) (mOp gAdd (mRet (.int 58)) (mOp gMod (mOp gIx (mVar 2) (mRet (.int 5))) (mRet (.int 4)))))))
    (sSeq (sSet 9 (mLst (mCons (mRet (.str (PySem.Str.ofString ""))) (mCons (mRet (.str (PySem.Str.ofString "-"))) (mCons (mRet (.str (PySem.Str.ofString "-0"))) (mCons (mRet (.str (PySem.Str.ofString "00"))) (mCons (mRet (.str (PySem.Str.ofString "07"))) (mCons (mRet (.str (PySem.Str.ofString "2/4"))) (mCons (mRet (.str (PySem.Str.ofString "3/1"))) (mCons (mRet (.str (PySem.Str.ofString "1/0"))) (mCons (mRet (.str (PySem.Str.ofString "0/1"))) (mCons (mRet (.str (PySem.Str.ofString "-0/1"))) (mCons (mRet (.str (PySem.Str.ofString "1/-2"))) (mCons (mRet (.str (PySem.Str.ofString "/2"))) (mCons (mRet (.str (PySem.Str.ofString "1/"))) (mCons (mRet (.str (PySem.Str.ofString "1/2/3"))) (mCons (mRet (.str (PySem.Str.ofString " 1"))) (mCons (mRet (.str (PySem.Str.ofString "1 "))) (mCons (mRet (.str (PySem.Str.ofString "+1"))) (mCons (mRet (.str (PySem.Str.ofString "1.5"))) (mCons (mRet (.str (PySem.Str.ofString "--1"))) (mCons (mRet (.str (PySem.Str.ofString "0/7"))) (mCons (mVar 8) (mCons (mOp gAdd (mRet (.str (PySem.Str.ofString "1/"))) (mVar 8)) (mCons (mOp gAdd (mRet (.str (PySem.Str.ofString "-"))) (mVar 8)) mNil)))))))))))))))))))))))))
    (sSeq (sSet 7 (mOp gAdd (mVar 7) (mLst (mCons (mOp gIx (mVar 9) (mOp gMod (mOp gIx (mVar 2) (mRet (.int 4))) (mBi gLenT (mCons (mVar 9) mNil)))) (mCons (mOp gIx (mVar 9) (mOp gMod (mOp gAdd (mOp gIx (mVar 2) (mRet (.int 4))) (mRet (.int 7))) (mBi gLenT (mCons (mVar 9) mNil)))) mNil)))))
    (sFor (tN 10) (mSeq (mVar 7)) L0_law))))))))))))
def m_law : MS :=
    (sSeq (sFor (tN 1) (mRng1 (mCons (mRet (.int 3)) mNil)) L1_law)
    (sRet (mRet (.bl true))))
def F_law : List D → Sto → Option (R D) := fnOf 11 m_law
section
variable {P : Program} {w : World} {K : PySem.W.Frag} {mg : Str → Option Value} {base : Heap} {a : Adr}
theorem ok_write_number (T : Txt K mg a) : FnOk P w K mg base (L2.CX P w) 1 a.f_write_number a.d_write_number ["x"] (spF K (ecOf a) 1 F_write_number) := by
  refine fn_ok (m := m_write_number) (k := 0) T.F_write_number sc_write_number rfl fun cdv A outer s H E hr => ?_
  unfold m_write_number
  exact (xs_cons (x_asg (vs := [1, 2]) (x_var 0) (pg_tup rfl (pgs_cons (pg_name (i := 1) sc_write_number.nd rfl (by first | exact Or.inl rfl | exact Or.inr rfl)) (pgs_cons (pg_name (i := 2) sc_write_number.nd rfl (by first | exact Or.inl rfl | exact Or.inr rfl)) pgs_nil))) (tgs_tup (tgs_cons tgs_name (tgs_cons tgs_name tgs_nil))))
    (xs_one (x_ret (x_ife (xt_cmp opS_eq (x_var 2) x_int) (x_biT callS_str T.z_str (by decide +kernel) (xa_cons (x_var 1) xa_nil)) (x_joined (.cons (x_fmt (x_var 1)) (.cons x_str (.cons (x_fmt (x_var 2)) .nil))))))))
theorem ok__read_figures (T : Txt K mg a) : FnOk P w K mg base (L2.CX P w) 1 a.f__read_figures a.d__read_figures ["text"] (spF K (ecOf a) 1 F__read_figures) := by
  refine fn_ok (m := m__read_figures) (k := 0) T.F__read_figures sc__read_figures rfl fun cdv A outer s H E hr => ?_
  unfold m__read_figures
  exact (xs_cons (x_if (XW.xt (xw_or (xt_not (x_truth (x_var 0))) (xw_or1 (xt_cmp opS_gt (x_biB callS_lenT T.z_len (by decide +kernel) (xa_cons (x_var 0) xa_nil)) (x_glob (v := .int 60) T.q__MOST_FIGURES.choose_spec ⟨_, rfl⟩ (fun _ _ _ => .int _)))))) (xs_one (x_raise rfl (takes_of rfl rfl rfl rfl) (pmk_own PySem.F.excBase_ValueError T.x_BadText T.g_BadText T.k_BadText (raises_own T.s_BadText T.t_BadText) rfl) (ec_BadText a))) xs_nil)
    (xs_cons (x_for (vs := [1]) (passes_of rfl) rfl (xi_str (x_var 0)) (pg_name (i := 1) sc__read_figures.nd rfl (by first | exact Or.inl rfl | exact Or.inr rfl)) tgs_name (xs_one (x_if (xt_cmp opS_notInT (x_var 1) (x_glob (v := .str (PySem.Str.ofString "0123456789")) T.q__FIGURES.choose_spec ⟨_, rfl⟩ (fun _ _ _ => .str _)) (by with_unfolding_all rfl)) (xs_one (x_raise rfl (takes_of rfl rfl rfl rfl) (pmk_own PySem.F.excBase_ValueError T.x_BadText T.g_BadText T.k_BadText (raises_own T.s_BadText T.t_BadText) rfl) (ec_BadText a))) xs_nil)))
    (xs_cons (x_if (XW.xt (xw_and (xt_cmp opS_eq (x_ix (x_var 0) x_int) x_str) (xw_and1 (xt_cmp opS_ne (x_var 0) x_str)))) (xs_one (x_raise rfl (takes_of rfl rfl rfl rfl) (pmk_own PySem.F.excBase_ValueError T.x_BadText T.g_BadText T.k_BadText (raises_own T.s_BadText T.t_BadText) rfl) (ec_BadText a))) xs_nil)
    (xs_one (x_ret (x_biT callS_intT T.z_int (by decide +kernel) (xa_cons (x_var 0) xa_nil)))))))
theorem ok__law_cell (T : Txt K mg a) : FnOk P w K mg base (L2.CX P w) 1 a.f__law_cell a.d__law_cell ["script", "k"] (spF K (ecOf a) 2 F__law_cell) := by
  refine fn_ok (m := m__law_cell) (k := 0) T.F__law_cell sc__law_cell rfl fun cdv A outer s H E hr => ?_
  unfold m__law_cell
  exact (xs_cons (x_if (xt_cmp opS_lt (x_var 1) (x_biB callS_len T.z_len (by decide +kernel) (xa_cons (x_var 0) xa_nil))) (xs_one (x_ret (x_ix (x_var 0) (x_var 1)))) xs_nil)
    (xs_one (x_ret x_int)))
theorem ok__law_draws (T : Txt K mg a) : FnOk P w K mg base (L2.CX P w) 1 a.f__law_draws a.d__law_draws ["cell", "count"] (spF K (ecOf a) 2 F__law_draws) := by
  refine fn_ok (m := m__law_draws) (k := 0) T.F__law_draws sc__law_draws rfl fun cdv A outer s H E hr => ?_
  unfold m__law_draws
  exact (xs_cons (x_set 2 sc__law_draws.nd (x_lst xa_nil))
    (xs_cons (x_set 3 sc__law_draws.nd (x_var 0))
    (xs_cons (x_for (vs := [4]) (passes_of rfl) rfl (xi_rng1 (xa_cons (x_var 1) xa_nil) T.z_range) (pg_name (i := 4) sc__law_draws.nd rfl (by first | exact Or.inl rfl | exact Or.inr rfl)) tgs_name (xs_one (x_if (XW.xt (xw_and (xt_cmp opS_ge (x_var 0) (x_bin opS_pow x_int x_int)) (xw_and1 (xt_cmp opS_gt (x_var 3) x_int)))) (xs_cons (x_ex (x_app (x_var 2) (x_bin opS_mod (x_biT callS_int T.z_int (by decide +kernel) (xa_cons (x_var 3) xa_nil)) x_int)))
    (xs_one (x_set 3 sc__law_draws.nd (x_bin opS_div (x_var 3) x_int)))) (xs_cons (x_set 5 sc__law_draws.nd (x_bin opS_mod (x_biT callS_int T.z_int (by decide +kernel) (xa_cons (x_bin opS_add (x_bin opS_mul (x_var 0) x_int) (x_bin opS_mul (x_bin opS_add (x_var 4) x_int) x_int)) xa_nil)) x_int))
    (xs_cons (x_set 5 sc__law_draws.nd (x_bin opS_mod (x_biT callS_int T.z_int (by decide +kernel) (xa_cons (x_bin opS_add (x_bin opS_add (x_bin opS_mul (x_var 5) (x_var 5)) (x_bin opS_mul (x_var 5) x_int)) (x_bin opS_mul (x_var 4) x_int)) xa_nil)) x_int))
    (xs_cons (x_set 5 sc__law_draws.nd (x_bin opS_mod (x_biT callS_int T.z_int (by decide +kernel) (xa_cons (x_bin opS_add (x_bin opS_add (x_bin opS_mul (x_var 5) (x_var 5)) (x_var 0)) (x_bin opS_mul x_int (x_var 4))) xa_nil)) x_int))
    (xs_one (x_ex (x_app (x_var 2) (x_bin opS_mod (x_bin opS_div (x_var 5) x_int) x_int))))))))))
    (xs_one (x_ret (x_var 2))))))
theorem ok__law_is_int (T : Txt K mg a) : FnOk P w K mg base (L2.CX P w) 1 a.f__law_is_int a.d__law_is_int ["x"] (spF K (ecOf a) 1 F__law_is_int) := by
  refine fn_ok (m := m__law_is_int) (k := 0) T.F__law_is_int sc__law_is_int rfl fun cdv A outer s H E hr => ?_
  unfold m__law_is_int
  exact (xs_one (x_ret (x_andV (x_biB callS_isi T.z_isinstance (by decide +kernel) (xa_cons (x_var 0) (xa_cons (x_ty T.z_int (by decide +kernel)) xa_nil))) (x_one (x_not (x_biB callS_isi T.z_isinstance (by decide +kernel) (xa_cons (x_var 0) (xa_cons (x_ty T.z_bool (by decide +kernel)) xa_nil))))))))
theorem ok__law_is_text (T : Txt K mg a) : FnOk P w K mg base (L2.CX P w) 1 a.f__law_is_text a.d__law_is_text ["x", "due"] (spF K (ecOf a) 2 F__law_is_text) := by
  refine fn_ok (m := m__law_is_text) (k := 0) T.F__law_is_text sc__law_is_text rfl fun cdv A outer s H E hr => ?_
  unfold m__law_is_text
  exact (xs_one (x_ret (x_andV (x_biB callS_isi T.z_isinstance (by decide +kernel) (xa_cons (x_var 0) (xa_cons (x_ty T.z_str (by decide +kernel)) xa_nil))) (x_one (x_cmp opS_eq (x_var 0) (x_var 1))))))
theorem ok__law_gcd (T : Txt K mg a) : FnOk P w K mg base (L2.CX P w) 1 a.f__law_gcd a.d__law_gcd ["a", "b"] (spF K (ecOf a) 2 F__law_gcd) := by
  refine fn_ok (m := m__law_gcd) (k := 0) T.F__law_gcd sc__law_gcd rfl fun cdv A outer s H E hr => ?_
  unfold m__law_gcd
  exact (xs_cons (x_set 0 sc__law_gcd.nd (x_biB callS_abs T.z_abs (by decide +kernel) (xa_cons (x_var 0) xa_nil)))
    (xs_cons (x_set 1 sc__law_gcd.nd (x_biB callS_abs T.z_abs (by decide +kernel) (xa_cons (x_var 1) xa_nil)))
    (xs_cons (x_while (passes_of rfl) (xt_cmp opS_ne (x_var 1) x_int) (xs_one (x_par (i := 0) (j := 1) rfl sc__law_gcd.nd (xa_cons (x_var 1) (xa_cons (x_bin opS_mod (x_biT callS_int T.z_int (by decide +kernel) (xa_cons (x_var 0) xa_nil)) (x_var 1)) xa_nil)))))
    (xs_one (x_ret (x_var 0))))))
theorem ok_read_number (T : Txt K mg a) : FnOk P w K mg base (L2.CX P w) 2 a.f_read_number a.d_read_number ["text"] (spF K (ecOf a) 1 F_read_number) := by
  refine fn_ok (m := m_read_number) (k := 1) T.F_read_number sc_read_number rfl fun cdv A outer s H E hr => ?_
  unfold m_read_number
  exact (xs_cons (x_asg (vs := [1, 2, 3]) (x_part (x_var 0) x_str) (pg_tup rfl (pgs_cons (pg_name (i := 1) sc_read_number.nd rfl (by first | exact Or.inl rfl | exact Or.inr rfl)) (pgs_cons (pg_name (i := 2) sc_read_number.nd rfl (by first | exact Or.inl rfl | exact Or.inr rfl)) (pgs_cons (pg_name (i := 3) sc_read_number.nd rfl (by first | exact Or.inl rfl | exact Or.inr rfl)) pgs_nil)))) (tgs_tup (tgs_cons tgs_name (tgs_cons tgs_name (tgs_cons tgs_name tgs_nil)))))
    (xs_cons (x_set 4 sc_read_number.nd (x_starts (x_var 1) x_str))
    (xs_cons (x_set 5 sc_read_number.nd (x_call (takes_of rfl rfl rfl rfl) (ok__read_figures T) (hr.mono (by decide)) T.g__read_figures T.F__read_figures.kp T.b__read_figures (xa_cons (x_ife (x_truth (x_var 4)) (x_syL (x_var 1) x_int) (x_var 1)) xa_nil) (hms := (mCons_len mNilL))))
    (xs_cons (x_if (XW.xt (xw_and (x_truth (x_var 4)) (xw_and1 (xt_cmp opS_eq (x_var 5) x_int)))) (xs_one (x_raise rfl (takes_of rfl rfl rfl rfl) (pmk_own PySem.F.excBase_ValueError T.x_BadText T.g_BadText T.k_BadText (raises_own T.s_BadText T.t_BadText) rfl) (ec_BadText a))) xs_nil)
    (xs_cons (x_set 6 sc_read_number.nd x_int)
    (xs_cons (x_if (x_truth (x_var 2)) (xs_cons (x_set 6 sc_read_number.nd (x_call (takes_of rfl rfl rfl rfl) (ok__read_figures T) (hr.mono (by decide)) T.g__read_figures T.F__read_figures.kp T.b__read_figures (xa_cons (x_var 3) xa_nil) (hms := (mCons_len mNilL))))
    (xs_one (x_if (XW.xt (xw_or (xt_cmp opS_lt (x_var 6) x_int) (xw_or1 (xt_cmp opS_ne (x_biF callS_gcd T.z_gcd (xa_cons (x_var 5) (xa_cons (x_var 6) xa_nil))) x_int)))) (xs_one (x_raise rfl (takes_of rfl rfl rfl rfl) (pmk_own PySem.F.excBase_ValueError T.x_BadText T.g_BadText T.k_BadText (raises_own T.s_BadText T.t_BadText) rfl) (ec_BadText a))) xs_nil))) xs_nil)
    (xs_one (x_ret (x_tup (xa_cons (x_ife (x_truth (x_var 4)) (x_neg (x_var 5)) (x_var 5)) (xa_cons (x_var 6) xa_nil)))))))))))
theorem ok__law_is_number (T : Txt K mg a) : FnOk P w K mg base (L2.CX P w) 2 a.f__law_is_number a.d__law_is_number ["x", "due"] (spF K (ecOf a) 2 F__law_is_number) := by
  refine fn_ok (m := m__law_is_number) (k := 1) T.F__law_is_number sc__law_is_number rfl fun cdv A outer s H E hr => ?_
  unfold m__law_is_number
  exact (xs_one (x_ret (x_andV (x_call (takes_of rfl rfl rfl rfl) (ok__law_is_int T) (hr.mono (by decide)) T.g__law_is_int T.F__law_is_int.kp T.b__law_is_int (xa_cons (x_var 0) xa_nil) (hms := (mCons_len mNilL))) (x_one (x_cmp opS_eq (x_var 0) (x_var 1))))))
theorem ok__law_frac (T : Txt K mg a) : FnOk P w K mg base (L2.CX P w) 2 a.f__law_frac a.d__law_frac ["a", "b"] (spF K (ecOf a) 2 F__law_frac) := by
  refine fn_ok (m := m__law_frac) (k := 1) T.F__law_frac sc__law_frac rfl fun cdv A outer s H E hr => ?_
  unfold m__law_frac
  exact (xs_cons (x_set 2 sc__law_frac.nd (x_call (takes_of rfl rfl rfl rfl) (ok__law_gcd T) (hr.mono (by decide)) T.g__law_gcd T.F__law_gcd.kp T.b__law_gcd (xa_cons (x_var 0) (xa_cons (x_var 1) xa_nil)) (hms := (mCons_len (mCons_len mNilL)))))
    (xs_cons (x_if (xt_cmp opS_lt (x_var 1) x_int) (xs_one (x_set 2 sc__law_frac.nd (x_neg (x_var 2)))) xs_nil)
    (xs_one (x_ret (x_tup (xa_cons (x_bin opS_div (x_var 0) (x_var 2)) (xa_cons (x_bin opS_div (x_var 1) (x_var 2)) xa_nil)))))))
theorem ok__law_meant (T : Txt K mg a) : FnOk P w K mg base (L2.CX P w) 2 a.f__law_meant a.d__law_meant ["text"] (spF K (ecOf a) 1 F__law_meant) := by
  refine fn_ok (m := m__law_meant) (k := 1) T.F__law_meant sc__law_meant rfl fun cdv A outer s H E hr => ?_
  unfold m__law_meant
  exact (xs_cons (x_set 1 sc__law_meant.nd (x_cmp opS_eq (x_syH (x_var 0) x_int) x_str))
    (xs_cons (x_set 2 sc__law_meant.nd (x_split (x_syL (x_var 0) (x_biT callS_intT T.z_int (by decide +kernel) (xa_cons (x_var 1) xa_nil))) x_str))
    (xs_cons (x_if (xt_cmp opS_gt (x_biB callS_lenT T.z_len (by decide +kernel) (xa_cons (x_var 2) xa_nil)) x_int) (xs_one (x_ret x_non)) xs_nil)
    (xs_cons (x_for (vs := [3]) (passes_of rfl) rfl (xi_seq (x_var 2)) (pg_name (i := 3) sc__law_meant.nd rfl (by first | exact Or.inl rfl | exact Or.inr rfl)) tgs_name (xs_cons (x_if (XW.xt (xw_or (xt_cmp opS_eq (x_var 3) x_str) (xw_or (xt_cmp opS_gt (x_biB callS_lenT T.z_len (by decide +kernel) (xa_cons (x_var 3) xa_nil)) x_int) (xw_or1 (xt_cmp opS_gt (x_biB callS_lenT T.z_len (by decide +kernel) (xa_cons (x_lc (own := [("sign", 6)]) rfl sc__law_meant.nd (xi_str (x_var 3)) (blkOk_by (N := ["text", "minus", "parts", "part", "a", "b", "sign"]) (sc := defScope s__law_meant) (by first | decide +kernel | rfl)) (fun _ _ _ _ _ => (pg_name (i := 6) sc__law_meant.nd rfl (by first | exact Or.inl rfl | exact Or.inr rfl))) tgs_name (fun _ _ _ _ _ => (xts_one (xt_cmp opS_notInT (x_var 6) x_str (by with_unfolding_all rfl)))) (fun _ _ _ _ _ => (x_var 6))) xa_nil)) x_int))))) (xs_one (x_ret x_non)) xs_nil)
    (xs_one (x_if (XW.xt (xw_and (xt_cmp opS_gt (x_biB callS_lenT T.z_len (by decide +kernel) (xa_cons (x_var 3) xa_nil)) x_int) (xw_and1 (xt_cmp opS_eq (x_ix (x_var 3) x_int) x_str)))) (xs_one (x_ret x_non)) xs_nil))))
    (xs_cons (x_set 4 sc__law_meant.nd (x_biT callS_intT T.z_int (by decide +kernel) (xa_cons (x_ix (x_var 2) x_int) xa_nil)))
    (xs_cons (x_set 5 sc__law_meant.nd (x_biT callS_intT T.z_int (by decide +kernel) (xa_cons (x_ix (x_bin opS_add (x_var 2) (x_lst (xa_cons x_str xa_nil))) x_int) xa_nil)))
    (xs_cons (x_if (XW.xt (xw_or (xt_cmp opS_lt (x_var 5) x_int) (xw_or (XW.xt (xw_and (xt_cmp opS_eq (x_biB callS_lenT T.z_len (by decide +kernel) (xa_cons (x_var 2) xa_nil)) x_int) (xw_and1 (xt_cmp opS_eq (x_var 5) x_int)))) (xw_or (xt_cmp opS_ne (x_call (takes_of rfl rfl rfl rfl) (ok__law_gcd T) (hr.mono (by decide)) T.g__law_gcd T.F__law_gcd.kp T.b__law_gcd (xa_cons (x_var 4) (xa_cons (x_var 5) xa_nil)) (hms := (mCons_len (mCons_len mNilL)))) x_int) (xw_or1 (XW.xt (xw_and (x_truth (x_var 1)) (xw_and1 (xt_cmp opS_eq (x_var 4) x_int))))))))) (xs_one (x_ret x_non)) xs_nil)
    (xs_one (x_ret (x_tup (xa_cons (x_ix (x_lst (xa_cons (x_var 4) (xa_cons (x_neg (x_var 4)) xa_nil))) (x_biT callS_intT T.z_int (by decide +kernel) (xa_cons (x_var 1) xa_nil))) (xa_cons (x_var 5) xa_nil))))))))))))
theorem ok__law_same (T : Txt K mg a) : ∀ k : Nat, FnOk P w K mg base (L2.CX P w) (k + 3) a.f__law_same a.d__law_same ["x", "due"] (spF K (ecOf a) 2 (F__law_same k))
  | 0 => fn_none
  | k + 1 => by
    have IH := ok__law_same T k
    have h := fn_ok (P := P) (w := w) (base := base) (mg := mg) (ec := ecOf a) (k := k + 3) (m := m__law_same (F__law_same k)) (n := 3) T.F__law_same sc__law_same rfl (fun cdv A outer s H E hr => ?_)
    · exact h
    · unfold m__law_same
      exact (xs_cons (x_if (x_test (x_biB callS_isi T.z_isinstance (by decide +kernel) (xa_cons (x_var 1) (xa_cons (x_ty T.z_tuple (by decide +kernel)) xa_nil)))) (xs_cons (x_if (XW.xt (xw_or (xt_not (x_test (x_biB callS_isi T.z_isinstance (by decide +kernel) (xa_cons (x_var 0) (xa_cons (x_ty T.z_tuple (by decide +kernel)) xa_nil))))) (xw_or1 (xt_cmp opS_ne (x_biB callS_len T.z_len (by decide +kernel) (xa_cons (x_var 0) xa_nil)) (x_biB callS_len T.z_len (by decide +kernel) (xa_cons (x_var 1) xa_nil)))))) (xs_one (x_ret x_bl)) xs_nil)
    (xs_one (x_ret (x_cmp opS_eq (x_biB callS_len T.z_len (by decide +kernel) (xa_cons (x_lc (own := [("k", 2)]) rfl sc__law_same.nd (xi_rng1 (xa_cons (x_biB callS_len T.z_len (by decide +kernel) (xa_cons (x_var 1) xa_nil)) xa_nil) T.z_range) (blkOk_by (N := ["x", "due", "k"]) (sc := defScope s__law_same) (by first | decide +kernel | rfl)) (fun _ _ _ _ _ => (pg_name (i := 2) sc__law_same.nd rfl (by first | exact Or.inl rfl | exact Or.inr rfl))) tgs_name (fun _ _ _ _ _ => (xts_one (xt_not (x_truth (x_call takes0 IH hr T.g__law_same T.F__law_same.kp T.b__law_same (xa_cons (x_ix (x_var 0) (x_var 2)) (xa_cons (x_ix (x_var 1) (x_var 2)) xa_nil)) (hms := (mCons_len (mCons_len mNilL)))))))) (fun _ _ _ _ _ => (x_var 2))) xa_nil)) x_int)))) xs_nil)
    (xs_cons (x_if (x_test (x_biB callS_isi T.z_isinstance (by decide +kernel) (xa_cons (x_var 1) (xa_cons (x_ty T.z_list (by decide +kernel)) xa_nil)))) (xs_cons (x_if (XW.xt (xw_or (xt_not (x_test (x_biB callS_isi T.z_isinstance (by decide +kernel) (xa_cons (x_var 0) (xa_cons (x_ty T.z_list (by decide +kernel)) xa_nil))))) (xw_or1 (xt_cmp opS_ne (x_biB callS_len T.z_len (by decide +kernel) (xa_cons (x_var 0) xa_nil)) (x_biB callS_len T.z_len (by decide +kernel) (xa_cons (x_var 1) xa_nil)))))) (xs_one (x_ret x_bl)) xs_nil)
    (xs_one (x_ret (x_cmp opS_eq (x_biB callS_len T.z_len (by decide +kernel) (xa_cons (x_lc (own := [("k", 2)]) rfl sc__law_same.nd (xi_rng1 (xa_cons (x_biB callS_len T.z_len (by decide +kernel) (xa_cons (x_var 1) xa_nil)) xa_nil) T.z_range) (blkOk_by (N := ["x", "due", "k"]) (sc := defScope s__law_same) (by first | decide +kernel | rfl)) (fun _ _ _ _ _ => (pg_name (i := 2) sc__law_same.nd rfl (by first | exact Or.inl rfl | exact Or.inr rfl))) tgs_name (fun _ _ _ _ _ => (xts_one (xt_not (x_truth (x_call takes0 IH hr T.g__law_same T.F__law_same.kp T.b__law_same (xa_cons (x_ix (x_var 0) (x_var 2)) (xa_cons (x_ix (x_var 1) (x_var 2)) xa_nil)) (hms := (mCons_len (mCons_len mNilL)))))))) (fun _ _ _ _ _ => (x_var 2))) xa_nil)) x_int)))) xs_nil)
    (xs_cons (x_if (xt_cmp opS_is (x_var 1) x_non) (xs_one (x_ret (x_cmp opS_is (x_var 0) x_non))) xs_nil)
    (xs_cons (x_if (xt_cmp opS_is (x_var 1) x_bl) (xs_one (x_ret (x_cmp opS_is (x_var 0) x_bl))) xs_nil)
    (xs_cons (x_if (xt_cmp opS_is (x_var 1) x_bl) (xs_one (x_ret (x_cmp opS_is (x_var 0) x_bl))) xs_nil)
    (xs_cons (x_if (x_test (x_biB callS_isi T.z_isinstance (by decide +kernel) (xa_cons (x_var 1) (xa_cons (x_ty T.z_int (by decide +kernel)) xa_nil)))) (xs_one (x_ret (x_call (takes_of rfl rfl rfl rfl) (ok__law_is_number T) (hr.mono (by omega)) T.g__law_is_number T.F__law_is_number.kp T.b__law_is_number (xa_cons (x_var 0) (xa_cons (x_var 1) xa_nil)) (hms := (mCons_len (mCons_len mNilL)))))) xs_nil)
    (xs_one (x_ret (x_call (takes_of rfl rfl rfl rfl) (ok__law_is_text T) (hr.mono (by omega)) T.g__law_is_text T.F__law_is_text.kp T.b__law_is_text (xa_cons (x_var 0) (xa_cons (x_var 1) xa_nil)) (hms := (mCons_len (mCons_len mNilL))))))))))))
theorem ok__law_any_number (T : Txt K mg a) : FnOk P w K mg base (L2.CX P w) 3 a.f__law_any_number a.d__law_any_number ["draw", "more"] (spF K (ecOf a) 2 F__law_any_number) := by
  refine fn_ok (m := m__law_any_number) (k := 2) T.F__law_any_number sc__law_any_number rfl fun cdv A outer s H E hr => ?_
  unfold m__law_any_number
  exact (xs_cons (x_set 2 sc__law_any_number.nd (x_biT callS_intT T.z_int (by decide +kernel) (xa_cons (x_bin opS_add x_str (x_bin opS_mulT x_str (x_bin opS_mod (x_var 1) x_int))) xa_nil)))
    (xs_one (x_ret (x_call (takes_of rfl rfl rfl rfl) (ok__law_frac T) (hr.mono (by decide)) T.g__law_frac T.F__law_frac.kp T.b__law_frac (xa_cons (x_bin opS_add (x_bin opS_mul (x_bin opS_sub (x_bin opS_mod (x_var 0) x_int) x_int) (x_var 2)) (x_bin opS_mod (x_var 1) x_int)) (xa_cons (x_bin opS_add x_int (x_bin opS_mul (x_bin opS_mod (x_bin opS_div (x_var 0) x_int) x_int) (x_bin opS_add x_int (x_bin opS_mul (x_var 2) (x_bin opS_mod (x_bin opS_div (x_var 1) x_int) x_int))))) xa_nil)) (hms := (mCons_len (mCons_len mNilL)))))))
theorem ok__law_read (T : Txt K mg a) : FnOk P w K mg base (L2.CX P w) 3 a.f__law_read a.d__law_read ["text"] (spF K (ecOf a) 1 F__law_read) := by
  refine fn_ok (m := m__law_read) (k := 2) T.F__law_read sc__law_read rfl fun cdv A outer s H E hr => ?_
  unfold m__law_read
  exact (xs_one (x_try rfl rfl ⟨rfl, by decide, Or.inl T.g_BadText⟩ (takes_of rfl rfl rfl rfl) (ec_BadText a) (exm_self T.s_BadText T.i_BadText T.t_BadText T.u_BadText) (fun W pn xe tk _ => (xs_one (x_ret (x_call tk (ok_read_number T) (hr.mono (by decide)) T.g_read_number T.F_read_number.kp T.b_read_number (xa_cons (x_var 0) xa_nil) (hms := (mCons_len mNilL)))))) (fun _ _ _ _ _ _ _ => (xs_one (x_ret x_non)))))
theorem ok_law (T : Txt K mg a) : FnOk P w K mg base (L2.CX P w) 44 a.f_law a.d_law ["script"] (spF K (ecOf a) 1 F_law) := by
  refine fn_ok (m := m_law) (k := 43) T.F_law sc_law rfl fun cdv A outer s H E hr => ?_
  unfold m_law
  exact (xs_cons (x_for (vs := [1]) (passes_of rfl) rfl (xi_rng1 (xa_cons x_int xa_nil) T.z_range) (pg_name (i := 1) sc_law.nd rfl (by first | exact Or.inl rfl | exact Or.inr rfl)) tgs_name (xs_cons (x_set 2 sc_law.nd (x_call (takes_of rfl rfl rfl rfl) (ok__law_draws T) (hr.mono (by decide)) T.g__law_draws T.F__law_draws.kp T.b__law_draws (xa_cons (x_call (takes_of rfl rfl rfl rfl) (ok__law_cell T) (hr.mono (by decide)) T.g__law_cell T.F__law_cell.kp T.b__law_cell (xa_cons (x_var 0) (xa_cons (x_var 1) xa_nil)) (hms := (mCons_len (mCons_len mNilL)))) (xa_cons x_int xa_nil)) (hms := (mCons_len (mCons_len mNilL)))))
    (xs_cons (x_set 3 sc_law.nd (x_call (takes_of rfl rfl rfl rfl) (ok__law_any_number T) (hr.mono (by decide)) T.g__law_any_number T.F__law_any_number.kp T.b__law_any_number (xa_cons (x_ix (x_var 2) x_int) (xa_cons (x_ix (x_var 2) x_int) xa_nil)) (hms := (mCons_len (mCons_len mNilL)))))
    (xs_cons (x_set 4 sc_law.nd (x_biT callS_str T.z_str (by decide +kernel) (xa_cons (x_ix (x_var 3) x_int) xa_nil)))
    (xs_cons (x_if (xt_cmp opS_gt (x_ix (x_var 3) x_int) x_int) (xs_one (x_set 4 sc_law.nd (x_bin opS_add (x_bin opS_add (x_var 4) x_str) (x_biT callS_str T.z_str (by decide +kernel) (xa_cons (x_ix (x_var 3) x_int) xa_nil))))) xs_nil)
    (xs_cons (x_if (XW.xt (xw_or (xt_not (x_truth (x_call (takes_of rfl rfl rfl rfl) (ok__law_is_text T) (hr.mono (by decide)) T.g__law_is_text T.F__law_is_text.kp T.b__law_is_text (xa_cons (x_call (takes_of rfl rfl rfl rfl) (ok_write_number T) (hr.mono (by decide)) T.g_write_number T.F_write_number.kp T.b_write_number (xa_cons (x_var 3) xa_nil) (hms := (mCons_len mNilL))) (xa_cons (x_var 4) xa_nil)) (hms := (mCons_len (mCons_len mNilL)))))) (xw_or1 (xt_not (x_truth (x_call (takes_of rfl rfl rfl rfl) (ok__law_same T 40) (hr.mono (by decide)) T.g__law_same T.F__law_same.kp T.b__law_same (xa_cons (x_call (takes_of rfl rfl rfl rfl) (ok__law_read T) (hr.mono (by decide)) T.g__law_read T.F__law_read.kp T.b__law_read (xa_cons (x_var 4) xa_nil) (hms := (mCons_len mNilL))) (xa_cons (x_var 3) xa_nil)) (hms := (mCons_len (mCons_len mNilL))))))))) (xs_one (x_ret x_bl)) xs_nil)
    (xs_cons (x_set 5 sc_law.nd (x_bin opS_mod (x_ix (x_var 2) x_int) (x_bin opS_add (x_biB callS_lenT T.z_len (by decide +kernel) (xa_cons (x_var 4) xa_nil)) x_int)))
    (xs_cons (x_set 6 sc_law.nd (x_ix x_str (x_bin opS_mod (x_ix (x_var 2) x_int) x_int)))
    (xs_cons (x_set 7 sc_law.nd (x_lst (xa_cons (x_bin opS_add (x_bin opS_add (x_syH (x_var 4) (x_var 5)) (x_var 6)) (x_syL (x_var 4) (x_var 5))) (xa_cons (x_bin opS_add (x_syH (x_var 4) (x_var 5)) (x_syL (x_var 4) (x_bin opS_add (x_var 5) x_int))) (xa_cons (x_bin opS_add (x_bin opS_add (x_syH (x_var 4) (x_var 5)) (x_var 6)) (x_syL (x_var 4) (x_bin opS_add (x_var 5) x_int))) xa_nil)))))
    (xs_cons (x_set 8 sc_law.nd (x_bin opS_add x_str (x_bin opS_mulT x_str (x_bin opS_add x_int (x_bin opS_mod (x_ix (x_var 2) x_int) x_int)))))
    (xs_cons (x_set 9 sc_law.nd (x_lst (xa_cons x_str (xa_cons x_str (xa_cons x_str (xa_cons x_str (xa_cons x_str (xa_cons x_str (xa_cons x_str (xa_cons x_str (xa_cons x_str (xa_cons x_str (xa_cons x_str (xa_cons x_str (xa_cons x_str (xa_cons x_str (xa_cons x_str (xa_cons x_str (xa_cons x_str (xa_cons x_str (xa_cons x_str (xa_cons x_str (xa_cons (x_var 8) (xa_cons (x_bin opS_add x_str (x_var 8)) (xa_cons (x_bin opS_add x_str (x_var 8)) xa_nil)))))))))))))))))))))))))
    (xs_cons (x_set 7 sc_law.nd (x_bin opS_add (x_var 7) (x_lst (xa_cons (x_ix (x_var 9) (x_bin opS_mod (x_ix (x_var 2) x_int) (x_biB callS_lenT T.z_len (by decide +kernel) (xa_cons (x_var 9) xa_nil)))) (xa_cons (x_ix (x_var 9) (x_bin opS_mod (x_bin opS_add (x_ix (x_var 2) x_int) x_int) (x_biB callS_lenT T.z_len (by decide +kernel) (xa_cons (x_var 9) xa_nil)))) xa_nil)))))
    (xs_one (x_for (vs := [10]) (passes_of rfl) rfl (xi_seq (x_var 7)) (pg_name (i := 10) sc_law.nd rfl (by first | exact Or.inl rfl | exact Or.inr rfl)) tgs_name (xs_one (x_if (xt_not (x_truth (x_call (takes_of rfl rfl rfl rfl) (ok__law_same T 40) (hr.mono (by decide)) T.g__law_same T.F__law_same.kp T.b__law_same (xa_cons (x_call (takes_of rfl rfl rfl rfl) (ok__law_read T) (hr.mono (by decide)) T.g__law_read T.F__law_read.kp T.b__law_read (xa_cons (x_var 10) xa_nil) (hms := (mCons_len mNilL))) (xa_cons (x_call (takes_of rfl rfl rfl rfl) (ok__law_meant T) (hr.mono (by decide)) T.g__law_meant T.F__law_meant.kp T.b__law_meant (xa_cons (x_var 10) xa_nil) (hms := (mCons_len mNilL))) xa_nil)) (hms := (mCons_len (mCons_len mNilL)))))) (xs_one (x_ret x_bl)) xs_nil))))))))))))))))
    (xs_one (x_ret x_bl)))
end
end Gn
namespace Gn
open PySem PySem.Spec PyProof.Rows L2 Rf
/-! ### the law's own divisor -/
def ga (i : Int) : Int := if i < 0 then -i else i
theorem ga_nat (i : Int) : ga i = (i.natAbs : Int) := by
  unfold ga
  split <;> omega
theorem e_gcd_loop : ∀ (b n : Nat) (a : Nat) (S : Sto), b < n → loopW L0__law_gcd L1__law_gcd n [some (.int (a : Int)), some (.int (b : Int))] S = some (.nx [some (.int (Nat.gcd a b : Nat)), some (.int 0)] S) := by
  intro b
  induction b using Nat.strongRecOn with
  | _ b ih =>
    intro n a S hn
    obtain ⟨k, rfl⟩ : ∃ k, n = k + 1 := ⟨n - 1, by omega⟩
    by_cases c : b = 0
    · subst c
      refine (loopW_false (S1 := S) ?_).trans ?_
      · unfold L0__law_gcd
        simp only [fnOf, sSeq, sSet, sAsg, sB, mB, mOp, mRet, mUn, mBi, mCons, mNil, mTup, mCall, tTp, tCons', tN, tNil', Option.bind_some, Option.map_some, List.map_cons, List.map_nil, List.length_cons, List.length_nil, List.replicate, List.cons_append, List.nil_append, sRet, sIf, mT, mTru, mIf, mAnd, mOr, mNotB, sNil, sEx, sPar, var0, varS, set0, setS, ix0, ix1, add_ii, sub_ii, lt_ii, le_ii, gt_ii, ge_ii, eq_ii, ne_ii, neg_i, gcd_ii, abs_i, int_i, int_b, tru_b, Nat.reduceAdd, Nat.reduceSub, Nat.reduceLeDiff, if_true, show ((0 : Nat) : Int) = 0 from rfl, decide_true, Bool.not_true]
      · rw [Nat.gcd_zero_right]
        rfl
    · have hb : (b : Int) ≠ 0 := by omega
      have hb' : decide ((b : Int) = 0) = false := decide_eq_false hb
      have hm : (a : Int).fmod (b : Int) = ((a % b : Nat) : Int) := by
        rw [Int.fmod_eq_emod_of_nonneg _ (by omega)]
        rfl
      refine (loopW_true (S1 := S) (S' := S) (ρ' := [some (.int (b : Int)), some (.int ((a % b : Nat) : Int))]) ?_ ?_).trans ?_
      · unfold L0__law_gcd
        simp only [fnOf, sSeq, sSet, sAsg, sB, mB, mOp, mRet, mUn, mBi, mCons, mNil, mTup, mCall, tTp, tCons', tN, tNil', Option.bind_some, Option.map_some, List.map_cons, List.map_nil, List.length_cons, List.length_nil, List.replicate, List.cons_append, List.nil_append, sRet, sIf, mT, mTru, mIf, mAnd, mOr, mNotB, sNil, sEx, sPar, var0, varS, set0, setS, ix0, ix1, add_ii, sub_ii, lt_ii, le_ii, gt_ii, ge_ii, eq_ii, ne_ii, neg_i, gcd_ii, abs_i, int_i, int_b, tru_b, Nat.reduceAdd, Nat.reduceSub, Nat.reduceLeDiff, if_true, hb', Bool.not_false]
      · unfold L1__law_gcd
        simp only [fnOf, sSeq, sSet, sAsg, sB, mB, mOp, mRet, mUn, mBi, mCons, mNil, mTup, mCall, tTp, tCons', tN, tNil', Option.bind_some, Option.map_some, List.map_cons, List.map_nil, List.length_cons, List.length_nil, List.replicate, List.cons_append, List.nil_append, sRet, sIf, mT, mTru, mIf, mAnd, mOr, mNotB, sNil, sEx, sPar, var0, varS, set0, setS, ix0, ix1, add_ii, sub_ii, lt_ii, le_ii, gt_ii, ge_ii, eq_ii, ne_ii, neg_i, gcd_ii, abs_i, int_i, int_b, tru_b, Nat.reduceAdd, Nat.reduceSub, Nat.reduceLeDiff, if_true, mod_ii hb, hm]
      · rw [ih (a % b) (Nat.mod_lt _ (by omega)) k b S (by have := Nat.mod_lt a (show 0 < b by omega); omega)]
        rw [Nat.gcd_comm b, ← Nat.gcd_rec, Nat.gcd_comm]
theorem e_gcd {n : Nat} {a b : Int} (hb : szI n b) (S : Sto) (hn : n ≤ 1000000 := by omega) : F__law_gcd [.int a, .int b] S = some (.val (.int (Nat.gcd a.natAbs b.natAbs : Nat)) S) := by
  have hf : b.natAbs < fuel := lt_fuel hb (by omega)
  have l := e_gcd_loop b.natAbs fuel a.natAbs S hf
  unfold F__law_gcd m__law_gcd
  have e1 : (if a < 0 then -a else a) = (a.natAbs : Int) := ga_nat a
  have e2 : (if b < 0 then -b else b) = (b.natAbs : Int) := ga_nat b
  simp only [fnOf, sSeq, sSet, sAsg, sB, mB, mOp, mRet, mUn, mBi, mCons, mNil, mTup, mCall, tTp, tCons', tN, tNil', Option.bind_some, Option.map_some, List.map_cons, List.map_nil, List.length_cons, List.length_nil, List.replicate, List.cons_append, List.nil_append, sRet, sIf, mT, mTru, mIf, mAnd, mOr, mNotB, sNil, sEx, sPar, var0, varS, set0, setS, ix0, ix1, add_ii, sub_ii, lt_ii, le_ii, gt_ii, ge_ii, eq_ii, ne_ii, neg_i, gcd_ii, abs_i, int_i, int_b, tru_b, Nat.reduceAdd, Nat.reduceSub, Nat.reduceLeDiff, if_true, sWhile, e1, e2, l]
theorem frac_pos {a : Int} {b : Int} (hb : 0 < b) : (Rat.divInt a b).num = a / ((a.natAbs.gcd b.natAbs : Nat) : Int) ∧ ((Rat.divInt a b).den : Int) = b / ((a.natAbs.gcd b.natAbs : Nat) : Int) := by
  obtain ⟨m, rfl⟩ : ∃ m : Nat, b = m := ⟨b.toNat, by omega⟩
  have hm : m ≠ 0 := by omega
  rw [Rat.divInt_ofNat]
  unfold mkRat
  rw [dif_neg hm, Rat.normalize_eq]
  exact ⟨rfl, rfl⟩
theorem frac_neg {a : Int} {b : Int} (hb : b < 0) : (Rat.divInt a b).num = (-a) / ((a.natAbs.gcd b.natAbs : Nat) : Int) ∧ ((Rat.divInt a b).den : Int) = (-b) / ((a.natAbs.gcd b.natAbs : Nat) : Int) := by
  have h := frac_pos (a := -a) (b := -b) (by omega)
  rw [Int.natAbs_neg, Int.natAbs_neg] at h
  have e : Rat.divInt a b = Rat.divInt (-a) (-b) := by
    obtain ⟨m, rfl⟩ : ∃ m : Nat, b = Int.negSucc m := ⟨(-b - 1).toNat, by omega⟩
    show Rat.normalize (-a) m.succ (by omega) = mkRat (-a) (m + 1)
    unfold mkRat
    rw [dif_neg (by omega)]
  rw [e]
  exact h
theorem e_frac {n : Nat} {a b : Int} (hb0 : b ≠ 0) (hb : szI n b) (S : Sto) (h0 : 0 < n := by omega) (hn : n ≤ 9000 := by omega) : F__law_frac [.int a, .int b] S = some (.val (nq (Rat.divInt a b)) S) := by
  have eg := e_gcd (a := a) hb S (by omega)
  have g1 : (a.natAbs.gcd b.natAbs : Nat) ≠ 0 := Nat.ne_of_gt (gcd_pos_r (by omega))
  have sg : szI n ((a.natAbs.gcd b.natAbs : Nat) : Int) := hb.le (Nat.le_of_dvd (by omega) (Nat.gcd_dvd_right _ _))
  unfold F__law_frac m__law_frac
  by_cases c : b < 0
  · obtain ⟨p1, p2⟩ := frac_neg (a := a) c
    rw [← nq_of p1.symm p2.symm]
    have d1 : ∀ x, divOk x (-((a.natAbs.gcd b.natAbs : Nat) : Int)) = true := fun x => divOk_sz (by omega) sg.neg
    have n1 : ∀ x : Int, x.fdiv (-((a.natAbs.gcd b.natAbs : Nat) : Int)) = (-x) / ((a.natAbs.gcd b.natAbs : Nat) : Int) := fun x => by
      have := Int.neg_fdiv_neg (-x) ((a.natAbs.gcd b.natAbs : Nat) : Int)
      rw [Int.neg_neg] at this
      rw [this, fdiv_nat]
    simp only [fnOf, sSeq, sSet, sAsg, sB, mB, mOp, mRet, mUn, mBi, mCons, mNil, mTup, mCall, tTp, tCons', tN, tNil', Option.bind_some, Option.map_some, List.map_cons, List.map_nil, List.length_cons, List.length_nil, List.replicate, List.cons_append, List.nil_append, sRet, sIf, mT, mTru, mIf, mAnd, mOr, mNotB, sNil, sEx, sPar, var0, varS, set0, setS, ix0, ix1, add_ii, sub_ii, lt_ii, le_ii, gt_ii, ge_ii, eq_ii, ne_ii, neg_i, gcd_ii, abs_i, int_i, int_b, tru_b, Nat.reduceAdd, Nat.reduceSub, Nat.reduceLeDiff, if_true, eg, c, decide_true, div_ii (d1 _), n1]
  · obtain ⟨p1, p2⟩ := frac_pos (a := a) (b := b) (by omega)
    rw [← nq_of p1.symm p2.symm]
    have d1 : ∀ x, divOk x ((a.natAbs.gcd b.natAbs : Nat) : Int) = true := fun x => divOk_sz (by omega) sg
    simp only [fnOf, sSeq, sSet, sAsg, sB, mB, mOp, mRet, mUn, mBi, mCons, mNil, mTup, mCall, tTp, tCons', tN, tNil', Option.bind_some, Option.map_some, List.map_cons, List.map_nil, List.length_cons, List.length_nil, List.replicate, List.cons_append, List.nil_append, sRet, sIf, mT, mTru, mIf, mAnd, mOr, mNotB, sNil, sEx, sPar, var0, varS, set0, setS, ix0, ix1, add_ii, sub_ii, lt_ii, le_ii, gt_ii, ge_ii, eq_ii, ne_ii, neg_i, gcd_ii, abs_i, int_i, int_b, tru_b, Nat.reduceAdd, Nat.reduceSub, Nat.reduceLeDiff, if_true, eg, c, decide_false, div_ii (d1 _), fdiv_nat]
theorem sz_frac {n : Nat} {a b : Int} (hb0 : b ≠ 0) (ha : szI n a) (hb : szI n b) : sz n (Rat.divInt a b) := by
  by_cases c : b < 0
  · obtain ⟨p1, p2⟩ := frac_neg (a := a) c
    refine ⟨?_, ?_⟩
    · rw [p1]; exact ha.neg.le (Int.natAbs_ediv_le_natAbs _ _)
    · rw [p2]; exact hb.neg.le (Int.natAbs_ediv_le_natAbs _ _)
  · obtain ⟨p1, p2⟩ := frac_pos (a := a) (b := b) (by omega)
    refine ⟨?_, ?_⟩
    · rw [p1]; exact ha.le (Int.natAbs_ediv_le_natAbs _ _)
    · rw [p2]; exact hb.le (Int.natAbs_ediv_le_natAbs _ _)
/-! ### the script's cells and draws -/
theorem e_cell {ns : List Int} {k : Nat} (S : Sto) : ∃ c : Int, F__law_cell [.fro (ns.map D.int), .int (k : Int)] S = some (.val (.int c) S) := by
  unfold F__law_cell m__law_cell
  have hl : gLen [.fro (ns.map D.int)] S = some (.int (ns.length : Int), S) := by
    unfold gLen itemsOf
    simp
  by_cases c : k < ns.length
  · have c' : decide ((k : Int) < (ns.length : Int)) = true := decide_eq_true (by omega)
    refine ⟨ns[k], ?_⟩
    have hx : gIx (.fro (ns.map D.int)) (.int (k : Int)) S = some (.int ns[k], S) := by
      unfold gIx
      dsimp only
      show (some (ns.map D.int)).bind _ = _
      rw [Option.bind_some, atI_nat (v := .int ns[k]) (by rw [List.getElem?_map, List.getElem?_eq_getElem c]; rfl)]
      rfl
    simp only [fnOf, sSeq, sSet, sAsg, sB, mB, mOp, mRet, mUn, mBi, mCons, mNil, mTup, mCall, tTp, tCons', tN, tNil', Option.bind_some, Option.map_some, List.map_cons, List.map_nil, List.length_cons, List.length_nil, List.replicate, List.cons_append, List.nil_append, sRet, sIf, mT, mTru, mIf, mAnd, mOr, mNotB, sNil, sEx, sPar, var0, varS, set0, setS, ix0, ix1, add_ii, sub_ii, lt_ii, le_ii, gt_ii, ge_ii, eq_ii, ne_ii, neg_i, gcd_ii, abs_i, int_i, int_b, tru_b, Nat.reduceAdd, Nat.reduceSub, Nat.reduceLeDiff, if_true, hl, c', hx]
  · have c' : decide ((k : Int) < (ns.length : Int)) = false := decide_eq_false (by omega)
    exact ⟨0, by simp only [fnOf, sSeq, sSet, sAsg, sB, mB, mOp, mRet, mUn, mBi, mCons, mNil, mTup, mCall, tTp, tCons', tN, tNil', Option.bind_some, Option.map_some, List.map_cons, List.map_nil, List.length_cons, List.length_nil, List.replicate, List.cons_append, List.nil_append, sRet, sIf, mT, mTru, mIf, mAnd, mOr, mNotB, sNil, sEx, sPar, var0, varS, set0, setS, ix0, ix1, add_ii, sub_ii, lt_ii, le_ii, gt_ii, ge_ii, eq_ii, ne_ii, neg_i, gcd_ii, abs_i, int_i, int_b, tru_b, Nat.reduceAdd, Nat.reduceSub, Nat.reduceLeDiff, if_true, hl, c']⟩
theorem mulOk_r {i : Int} {n : Nat} (h : n < 2 ^ 63) : mulOk i (n : Int) = true := by
  unfold mulOk
  rw [Bool.or_eq_true, Bool.or_eq_true]
  exact .inl (.inr (decide_eq_true (by omega)))
theorem mulOk_l {i j : Int} (h : i.natAbs < 2 ^ 63) : mulOk i j = true := by
  unfold mulOk
  rw [Bool.or_eq_true, Bool.or_eq_true]
  exact .inl (.inl (decide_eq_true h))
theorem divOk_lit {i j : Int} (h : j ≠ 0) (h2 : j.natAbs < 2 ^ 63) : divOk i j = true := divOk_sz (n := 63) h h2
theorem fm {x m : Int} (h : 0 < m) : 0 ≤ x.fmod m ∧ x.fmod m < m := by
  rw [Int.fmod_eq_emod_of_nonneg _ (by omega)]
  exact ⟨Int.emod_nonneg _ (by omega), Int.emod_lt_of_pos _ h⟩
theorem e_draw_turn {cell left k : Int} {count : D} {x4 x5 : Option D} {S : Sto} {rows : List D} (hr : rows.length < 1000) (hk : k.natAbs < 2 ^ 60) : ∃ (r left' : Int) (x5' : Option D), 0 ≤ r ∧ r < 4096 ∧
    L0__law_draws [some (.int cell), some count, some (.ref S.length), some (.int left), some (.int k), x5] (S ++ [.lst rows]) = some (.nx [some (.int cell), some count, some (.ref S.length), some (.int left'), some (.int k), x5'] (S ++ [.lst (rows ++ [.int r])])) := by
  unfold L0__law_draws
  have d1 : ∀ i : Int, gDiv (.int i) (.int 4096) (S ++ [.lst (rows ++ [.int (left.fmod 4096)])]) = some (.int (i.fdiv 4096), S ++ [.lst (rows ++ [.int (left.fmod 4096)])]) := fun i => div_ii (divOk_lit (by decide) (by decide))
  by_cases c : 1000000000000000000 ≤ cell ∧ 0 < left
  · refine ⟨left.fmod 4096, left.fdiv 4096, x5, (fm (by decide)).1, (fm (by decide)).2, ?_⟩
    have ap := app_last (mo := mVar 2) (me := mOp gMod (mBi gInt (mCons (mVar 3) mNil)) (mRet (.int 4096))) (ρ := [some (.int cell), some count, some (.ref S.length), some (.int left), some (.int k), x5]) (S := S) (k := S.length) (xs := rows) (d := .int (left.fmod 4096)) rfl (by simp only [fnOf, sSeq, sSet, sAsg, sB, mB, mOp, mRet, mUn, mBi, mCons, mNil, mTup, mCall, tTp, tCons', tN, tNil', Option.bind_some, Option.map_some, List.map_cons, List.map_nil, List.length_cons, List.length_nil, List.replicate, List.cons_append, List.nil_append, sRet, sIf, mT, mTru, mIf, mAnd, mOr, mNotB, sNil, sEx, sPar, var0, varS, set0, setS, ix0, ix1, add_ii, sub_ii, lt_ii, le_ii, gt_ii, ge_ii, eq_ii, ne_ii, neg_i, gcd_ii, abs_i, int_i, int_b, tru_b, Nat.reduceAdd, Nat.reduceSub, Nat.reduceLeDiff, if_true]) (by simp only [fnOf, sSeq, sSet, sAsg, sB, mB, mOp, mRet, mUn, mBi, mCons, mNil, mTup, mCall, tTp, tCons', tN, tNil', Option.bind_some, Option.map_some, List.map_cons, List.map_nil, List.length_cons, List.length_nil, List.replicate, List.cons_append, List.nil_append, sRet, sIf, mT, mTru, mIf, mAnd, mOr, mNotB, sNil, sEx, sPar, var0, varS, set0, setS, ix0, ix1, add_ii, sub_ii, lt_ii, le_ii, gt_ii, ge_ii, eq_ii, ne_ii, neg_i, gcd_ii, abs_i, int_i, int_b, tru_b, Nat.reduceAdd, Nat.reduceSub, Nat.reduceLeDiff, if_true, mod_ii (show (4096 : Int) ≠ 0 by decide)]) (by omega)
    simp only [mOp, mB, mBi, mCons, mNil, mRet] at ap
    simp only [fnOf, sSeq, sSet, sAsg, sB, mB, mOp, mRet, mUn, mBi, mCons, mNil, mTup, mCall, tTp, tCons', tN, tNil', Option.bind_some, Option.map_some, List.map_cons, List.map_nil, List.length_cons, List.length_nil, List.replicate, List.cons_append, List.nil_append, sRet, sIf, mT, mTru, mIf, mAnd, mOr, mNotB, sNil, sEx, sPar, var0, varS, set0, setS, ix0, ix1, add_ii, sub_ii, lt_ii, le_ii, gt_ii, ge_ii, eq_ii, ne_ii, neg_i, gcd_ii, abs_i, int_i, int_b, tru_b, Nat.reduceAdd, Nat.reduceSub, Nat.reduceLeDiff, if_true, pow_1018, c.1, c.2, decide_true, ap, d1]
  · have e48 : gMul (.int cell) (.int 48271) (S ++ [.lst rows]) = some (.int (cell * 48271), S ++ [.lst rows]) := mul_ii (mulOk_r (n := 48271) (by decide))
    have e69 : gMul (.int (k + 1)) (.int 69621) (S ++ [.lst rows]) = some (.int ((k + 1) * 69621), S ++ [.lst rows]) := mul_ii (mulOk_r (n := 69621) (by decide))
    have e79 : gMul (.int k) (.int 7919) (S ++ [.lst rows]) = some (.int (k * 7919), S ++ [.lst rows]) := mul_ii (mulOk_r (n := 7919) (by decide))
    have e13 : gMul (.int 13) (.int k) (S ++ [.lst rows]) = some (.int (13 * k), S ++ [.lst rows]) := mul_ii (mulOk_l (by decide))
    have b1 := fm (x := cell * 48271 + (k + 1) * 69621) (m := 2147483647) (by decide)
    generalize hm1 : (cell * 48271 + (k + 1) * 69621).fmod 2147483647 = m1 at b1
    have q1 : gMul (.int m1) (.int m1) (S ++ [.lst rows]) = some (.int (m1 * m1), S ++ [.lst rows]) := mul_ii (mulOk_l (by omega))
    have q2 : gMul (.int m1) (.int 16807) (S ++ [.lst rows]) = some (.int (m1 * 16807), S ++ [.lst rows]) := mul_ii (mulOk_l (by omega))
    have b2 := fm (x := m1 * m1 + m1 * 16807 + k * 7919) (m := 2147483629) (by decide)
    generalize hm2 : (m1 * m1 + m1 * 16807 + k * 7919).fmod 2147483629 = m2 at b2
    have q3 : gMul (.int m2) (.int m2) (S ++ [.lst rows]) = some (.int (m2 * m2), S ++ [.lst rows]) := mul_ii (mulOk_l (by omega))
    generalize hm3 : (m2 * m2 + cell + 13 * k).fmod 2147483587 = m3
    have q7 : ∀ S' : Sto, gDiv (.int m3) (.int 7) S' = some (.int (m3.fdiv 7), S') := fun S' => div_ii (divOk_lit (by decide) (by decide))
    have o1 : ∀ x S', gMod (.int x) (.int 2147483647) S' = some (.int (x.fmod 2147483647), S') := fun x S' => mod_ii (by decide)
    have o2 : ∀ x S', gMod (.int x) (.int 2147483629) S' = some (.int (x.fmod 2147483629), S') := fun x S' => mod_ii (by decide)
    have o3 : ∀ x S', gMod (.int x) (.int 2147483587) S' = some (.int (x.fmod 2147483587), S') := fun x S' => mod_ii (by decide)
    have o4 : ∀ x S', gMod (.int x) (.int 4096) S' = some (.int (x.fmod 4096), S') := fun x S' => mod_ii (by decide)
    refine ⟨(m3.fdiv 7).fmod 4096, left, some (.int m3), (fm (by decide)).1, (fm (by decide)).2, ?_⟩
    have ap := app_last (mo := mVar 2) (me := mOp gMod (mOp gDiv (mVar 5) (mRet (.int 7))) (mRet (.int 4096))) (ρ := [some (.int cell), some count, some (.ref S.length), some (.int left), some (.int k), some (.int m3)]) (S := S) (k := S.length) (xs := rows) (d := .int ((m3.fdiv 7).fmod 4096)) rfl (by simp only [fnOf, sSeq, sSet, sAsg, sB, mB, mOp, mRet, mUn, mBi, mCons, mNil, mTup, mCall, tTp, tCons', tN, tNil', Option.bind_some, Option.map_some, List.map_cons, List.map_nil, List.length_cons, List.length_nil, List.replicate, List.cons_append, List.nil_append, sRet, sIf, mT, mTru, mIf, mAnd, mOr, mNotB, sNil, sEx, sPar, var0, varS, set0, setS, ix0, ix1, add_ii, sub_ii, lt_ii, le_ii, gt_ii, ge_ii, eq_ii, ne_ii, neg_i, gcd_ii, abs_i, int_i, int_b, tru_b, Nat.reduceAdd, Nat.reduceSub, Nat.reduceLeDiff, if_true]) (by simp only [fnOf, sSeq, sSet, sAsg, sB, mB, mOp, mRet, mUn, mBi, mCons, mNil, mTup, mCall, tTp, tCons', tN, tNil', Option.bind_some, Option.map_some, List.map_cons, List.map_nil, List.length_cons, List.length_nil, List.replicate, List.cons_append, List.nil_append, sRet, sIf, mT, mTru, mIf, mAnd, mOr, mNotB, sNil, sEx, sPar, var0, varS, set0, setS, ix0, ix1, add_ii, sub_ii, lt_ii, le_ii, gt_ii, ge_ii, eq_ii, ne_ii, neg_i, gcd_ii, abs_i, int_i, int_b, tru_b, Nat.reduceAdd, Nat.reduceSub, Nat.reduceLeDiff, if_true, q7, o4]) (by omega)
    simp only [mOp, mB, mRet] at ap
    by_cases c1 : 1000000000000000000 ≤ cell
    · have c2 : decide (0 < left) = false := decide_eq_false (by omega)
      simp only [fnOf, sSeq, sSet, sAsg, sB, mB, mOp, mRet, mUn, mBi, mCons, mNil, mTup, mCall, tTp, tCons', tN, tNil', Option.bind_some, Option.map_some, List.map_cons, List.map_nil, List.length_cons, List.length_nil, List.replicate, List.cons_append, List.nil_append, sRet, sIf, mT, mTru, mIf, mAnd, mOr, mNotB, sNil, sEx, sPar, var0, varS, set0, setS, ix0, ix1, add_ii, sub_ii, lt_ii, le_ii, gt_ii, ge_ii, eq_ii, ne_ii, neg_i, gcd_ii, abs_i, int_i, int_b, tru_b, Nat.reduceAdd, Nat.reduceSub, Nat.reduceLeDiff, if_true, pow_1018, c1, c2, decide_true, e48, e69, e79, e13, o1, o2, o3, hm1, hm2, hm3, q1, q2, q3, ap]
    · simp only [fnOf, sSeq, sSet, sAsg, sB, mB, mOp, mRet, mUn, mBi, mCons, mNil, mTup, mCall, tTp, tCons', tN, tNil', Option.bind_some, Option.map_some, List.map_cons, List.map_nil, List.length_cons, List.length_nil, List.replicate, List.cons_append, List.nil_append, sRet, sIf, mT, mTru, mIf, mAnd, mOr, mNotB, sNil, sEx, sPar, var0, varS, set0, setS, ix0, ix1, add_ii, sub_ii, lt_ii, le_ii, gt_ii, ge_ii, eq_ii, ne_ii, neg_i, gcd_ii, abs_i, int_i, int_b, tru_b, Nat.reduceAdd, Nat.reduceSub, Nat.reduceLeDiff, if_true, pow_1018, c1, decide_false, e48, e69, e79, e13, o1, o2, o3, hm1, hm2, hm3, q1, q2, q3, ap]
theorem e_draw_loop {cell : Int} {count : D} {S : Sto} : ∀ (n : Nat) (lo left : Int) (x4 x5 : Option D) (rows : List D), rows.length + n < 1000 → 0 ≤ lo → lo + (n : Int) < 2 ^ 40 → ∃ (new : List Int) (left' : Int) (x4' x5' : Option D), new.length = n ∧ (∀ r ∈ new, 0 ≤ r ∧ r < 4096) ∧
    forI (tN 4) L0__law_draws (rngD lo n) [some (.int cell), some count, some (.ref S.length), some (.int left), x4, x5] (S ++ [.lst rows]) = some (.nx [some (.int cell), some count, some (.ref S.length), some (.int left'), x4', x5'] (S ++ [.lst (rows ++ new.map D.int)]))
  | 0, lo, left, x4, x5, rows, h, h1, h2 => ⟨[], left, x4, x5, rfl, fun r hr => absurd hr (by simp), by rw [List.map_nil, List.append_nil]; rfl⟩
  | n + 1, lo, left, x4, x5, rows, h, h1, h2 => by
    obtain ⟨r, left1, x5', r0, r1, e⟩ := e_draw_turn (cell := cell) (left := left) (k := lo) (count := count) (x4 := x4) (x5 := x5) (S := S) (rows := rows) (by omega) (by omega)
    obtain ⟨new, left2, x4'', x5'', hl, hb, e2⟩ := e_draw_loop n (lo + 1) left1 (some (.int lo)) x5' (rows ++ [.int r]) (by rw [List.length_append, List.length_singleton]; omega) (by omega) (by omega)
    refine ⟨r :: new, left2, x4'', x5'', by rw [List.length_cons, hl], fun z hz => ?_, ?_⟩
    · rcases List.mem_cons.mp hz with rfl | hz
      · exact ⟨r0, r1⟩
      · exact hb z hz
    · rw [rngD_succ]
      refine (forI_nx (ρ1 := [some (.int cell), some count, some (.ref S.length), some (.int left), some (.int lo), x5]) rfl e).trans ?_
      rw [e2, List.map_cons, List.append_assoc, List.singleton_append]
/-- so many draws, each from 0 to 4095 -/
theorem e_draws (cell : Int) (n : Nat) (S : Sto) (hn : n < 900) : ∃ new : List Int, new.length = n ∧ (∀ r ∈ new, 0 ≤ r ∧ r < 4096) ∧ F__law_draws [.int cell, .int (n : Int)] S = some (.val (.ref S.length) (S ++ [.lst (new.map D.int)])) := by
  obtain ⟨new, left', x4', x5', hl, hb, e⟩ := e_draw_loop (cell := cell) (count := .int (n : Int)) (S := S) n 0 cell none none [] (by rw [List.length_nil]; omega) (by omega) (by omega)
  refine ⟨new, hl, hb, ?_⟩
  unfold F__law_draws m__law_draws
  have er : mRng1 (mCons (mVar 1) mNil) [some (.int cell), some (.int (n : Int)), some (.ref S.length), some (.int cell), none, none] (S ++ [.lst []]) = some (.val (sqIt (rngD 0 n)) (S ++ [.lst []])) := by
    refine (mRng1_eq (S1 := S ++ [.lst []]) (n := (n : Int)) (by simp only [fnOf, sSeq, sSet, sAsg, sB, mB, mOp, mRet, mUn, mBi, mCons, mNil, mTup, mCall, tTp, tCons', tN, tNil', Option.bind_some, Option.map_some, List.map_cons, List.map_nil, List.length_cons, List.length_nil, List.replicate, List.cons_append, List.nil_append, sRet, sIf, mT, mTru, mIf, mAnd, mOr, mNotB, sNil, sEx, sPar, var0, varS, set0, setS, ix0, ix1, add_ii, sub_ii, lt_ii, le_ii, gt_ii, ge_ii, eq_ii, ne_ii, neg_i, gcd_ii, abs_i, int_i, int_b, tru_b, Nat.reduceAdd, Nat.reduceSub, Nat.reduceLeDiff, if_true]) ?_).trans ?_
    · unfold rngOk
      rw [Bool.and_eq_true]
      exact ⟨decide_eq_true (by omega), decide_eq_true (by omega)⟩
    · rfl
  have ef := for_items (t := tN 4) (b := L0__law_draws) er (by
    unfold rngD
    rw [List.length_map, List.length_range]
    exact lt_fuel (show n < 2 ^ 10 by omega) (by omega))
  refine fn_ret ?_
  refine seq_nx (set_eq (d := .ref S.length) (S1 := S ++ [.lst []]) (by simp only [fnOf, sSeq, sSet, sAsg, sB, mB, mOp, mRet, mUn, mBi, mCons, mNil, mTup, mCall, tTp, tCons', tN, tNil', Option.bind_some, Option.map_some, List.map_cons, List.map_nil, List.length_cons, List.length_nil, List.replicate, List.cons_append, List.nil_append, sRet, sIf, mT, mTru, mIf, mAnd, mOr, mNotB, sNil, sEx, sPar, var0, varS, set0, setS, ix0, ix1, add_ii, sub_ii, lt_ii, le_ii, gt_ii, ge_ii, eq_ii, ne_ii, neg_i, gcd_ii, abs_i, int_i, int_b, tru_b, Nat.reduceAdd, Nat.reduceSub, Nat.reduceLeDiff, if_true, mLst, mNew])) ?_
  refine seq_nx (set_eq (d := .int cell) (S1 := S ++ [.lst []]) (by simp only [fnOf, sSeq, sSet, sAsg, sB, mB, mOp, mRet, mUn, mBi, mCons, mNil, mTup, mCall, tTp, tCons', tN, tNil', Option.bind_some, Option.map_some, List.map_cons, List.map_nil, List.length_cons, List.length_nil, List.replicate, List.cons_append, List.nil_append, sRet, sIf, mT, mTru, mIf, mAnd, mOr, mNotB, sNil, sEx, sPar, var0, varS, set0, setS, ix0, ix1, add_ii, sub_ii, lt_ii, le_ii, gt_ii, ge_ii, eq_ii, ne_ii, neg_i, gcd_ii, abs_i, int_i, int_b, tru_b, Nat.reduceAdd, Nat.reduceSub, Nat.reduceLeDiff, if_true])) ?_
  refine seq_nx (ef.trans e) ?_
  exact ret_eq (by simp only [fnOf, sSeq, sSet, sAsg, sB, mB, mOp, mRet, mUn, mBi, mCons, mNil, mTup, mCall, tTp, tCons', tN, tNil', Option.bind_some, Option.map_some, List.map_cons, List.map_nil, List.length_cons, List.length_nil, List.replicate, List.cons_append, List.nil_append, sRet, sIf, mT, mTru, mIf, mAnd, mOr, mNotB, sNil, sEx, sPar, var0, varS, set0, setS, ix0, ix1, add_ii, sub_ii, lt_ii, le_ii, gt_ii, ge_ii, eq_ii, ne_ii, neg_i, gcd_ii, abs_i, int_i, int_b, tru_b, Nat.reduceAdd, Nat.reduceSub, Nat.reduceLeDiff, if_true, List.nil_append])
end Gn

namespace Gn
open PySem PySem.Spec PyProof.Rows L2 Rf
/-! ### the law's equality -/
def dOk : Nat → D → Prop
  | 0, _ => False
  | _ + 1, .int _ => True
  | k + 1, .tup xs => xs.length < 900 ∧ ∀ x ∈ xs, dOk k x
  | _ + 1, _ => False
theorem e_is_int (i : Int) (S : Sto) : F__law_is_int [.int i] S = some (.val (.bl true) S) := by
  unfold F__law_is_int m__law_is_int
  have a1 : gIsi [.int i, .ty "int"] S = some (.bl true, S) := isi rfl kit3
  have a2 : gIsi [.int i, .ty "bool"] S = some (.bl false, S) := isi rfl kit4
  simp only [fnOf, sSeq, sSet, sAsg, sB, mB, mOp, mRet, mUn, mBi, mCons, mNil, mTup, mCall, tTp, tCons', tN, tNil', Option.bind_some, Option.map_some, List.map_cons, List.map_nil, List.length_cons, List.length_nil, List.replicate, List.cons_append, List.nil_append, sRet, sIf, mT, mTru, mIf, mAnd, mOr, mNotB, sNil, sEx, sPar, var0, varS, set0, setS, ix0, ix1, add_ii, sub_ii, lt_ii, le_ii, gt_ii, ge_ii, eq_ii, ne_ii, neg_i, gcd_ii, abs_i, int_i, int_b, tru_b, Nat.reduceAdd, Nat.reduceSub, Nat.reduceLeDiff, if_true, mAndV, a1, a2, gNot, Bool.not_false]
theorem e_is_number (i : Int) (S : Sto) : F__law_is_number [.int i, .int i] S = some (.val (.bl true) S) := by
  unfold F__law_is_number m__law_is_number
  simp only [fnOf, sSeq, sSet, sAsg, sB, mB, mOp, mRet, mUn, mBi, mCons, mNil, mTup, mCall, tTp, tCons', tN, tNil', Option.bind_some, Option.map_some, List.map_cons, List.map_nil, List.length_cons, List.length_nil, List.replicate, List.cons_append, List.nil_append, sRet, sIf, mT, mTru, mIf, mAnd, mOr, mNotB, sNil, sEx, sPar, var0, varS, set0, setS, ix0, ix1, add_ii, sub_ii, lt_ii, le_ii, gt_ii, ge_ii, eq_ii, ne_ii, neg_i, gcd_ii, abs_i, int_i, int_b, tru_b, Nat.reduceAdd, Nat.reduceSub, Nat.reduceLeDiff, if_true, mAndV, e_is_int, decide_true]
theorem e_same : ∀ (k : Nat) (d : D), dOk k d → ∀ S : Sto, ∃ G, F__law_same k [d, d] S = some (.val (.bl true) (S ++ G))
  | 0, _, h, _ => absurd h (by unfold dOk; exact fun z => z)
  | k + 1, d, h, S => by
    unfold F__law_same m__law_same
    cases d with
    | int i =>
      have a1 : gIsi [.int i, .ty "tuple"] S = some (.bl false, S) := isi rfl kit1
      have a2 : gIsi [.int i, .ty "list"] S = some (.bl false, S) := isi rfl kit2
      have a3 : gIsi [.int i, .ty "int"] S = some (.bl true, S) := isi rfl kit3
      have b1 : gIs (.int i) .non S = some (.bl false, S) := rfl
      have b2 : gIs (.int i) (.bl true) S = some (.bl false, S) := rfl
      have b3 : gIs (.int i) (.bl false) S = some (.bl false, S) := rfl
      refine ⟨[], ?_⟩
      rw [List.append_nil]
      refine fn_ret ?_
      refine seq_nx (skip (v_T (v_bi (v_cons (v_var rfl) (v_cons v_ret v_nil)) a1))) ?_
      refine seq_nx (skip (v_T (v_bi (v_cons (v_var rfl) (v_cons v_ret v_nil)) a2))) ?_
      refine seq_nx (skip (v_T (v_op (v_var rfl) v_ret b1))) ?_
      refine seq_nx (skip (v_T (v_op (v_var rfl) v_ret b2))) ?_
      refine seq_nx (skip (v_T (v_op (v_var rfl) v_ret b3))) ?_
      refine seq_ret (if_t (v_T (v_bi (v_cons (v_var rfl) (v_cons v_ret v_nil)) a3)) (ret_eq (v_call (v_cons (v_var rfl) (v_cons (v_var rfl) v_nil)) (e_is_number i S))))
    | tup xs =>
      obtain ⟨hl, hx⟩ := h
      have a1 : gIsi [.tup xs, .ty "tuple"] S = some (.bl true, S) := isi rfl kit5
      obtain ⟨G, e⟩ := lc_none (vs := [2]) (t := tN 2) (it := mRng1 (mCons (mBi gLen (mCons (mVar 1) mNil)) mNil)) (c := mNotB (mTru (mCall (F__law_same k) (mCons (mOp gIx (mVar 0) (mVar 2)) (mCons (mOp gIx (mVar 1) (mVar 2)) mNil))))) (el := mVar 2)
        (ρ := [some (.tup xs), some (.tup xs), none]) (S := S) (S1 := S) (xs := rngD 0 xs.length)
        (mRng1_eq (n := (xs.length : Int)) (v_cons (v_bi (v_cons (v_var rfl) v_nil) len_tup) v_nil) (rngOk_nat (by omega))) (by rw [rngD_len]; exact lt_fuel (k := 10) (by omega) (by omega)) (fun x hxm S' => by
          obtain ⟨j, hj, rfl⟩ := rngD_mem hxm
          obtain ⟨G', e'⟩ := e_same k xs[j] (hx _ (List.getElem_mem hj)) S'
          refine ⟨_, G', rfl, ?_⟩
          have gx : gIx (.tup xs) (.int (j : Int)) S' = some (xs[j], S') := ixT (List.getElem?_eq_getElem hj)
          exact v_not (k := true) (v_tru (v_call (v_cons (v_op (v_var rfl) (v_var rfl) gx) (v_cons (v_op (v_var rfl) (v_var rfl) gx) v_nil)) e') rfl))
      refine ⟨.lst [] :: G, ?_⟩
      refine fn_ret ?_
      refine seq_ret (if_t (v_T (v_bi (v_cons (v_var rfl) (v_cons v_ret v_nil)) a1)) ?_)
      refine seq_nx (skip (v_or_f (v_not (k := true) (v_T (v_bi (v_cons (v_var rfl) (v_cons v_ret v_nil)) a1))) (v_T (v_op (v_bi (v_cons (v_var rfl) v_nil) len_tup) (v_bi (v_cons (v_var rfl) v_nil) len_tup) (by rw [ne_ii, decide_eq_true rfl]; rfl))))) ?_
      exact ret_eq (v_op (v_bi (v_cons e v_nil) (len_ref nth_last)) v_ret rfl)
    | _ => exact absurd h (by unfold dOk; exact fun z => z)
/-! ### the law's fractions -/
end Gn

set_option maxHeartbeats 4000000
namespace Gn
open PySem PySem.Spec PyProof.Rows L2 Rf
local macro_rules
  | `(tactic| infer_instance) => `(tactic| with_reducible first
    | (apply kWS; first
        | apply ws_seq
        | apply ws_ret
        | apply ws_if
        | apply ws_ex
        | apply ws_asg
        | apply ws_par
        | apply ws_dput
        | apply ws_lput
        | apply ws_nil
        | apply ws_retN
        | (apply kSet; first
            | apply s0
            | apply s1
            | apply s2
            | apply s3
            | apply s4
            | apply s5
            | apply s6
            | apply s7
            | apply s8
            | apply s9
            | apply s10
            | apply s11
            | apply s12
            | apply s13
            | apply s14
            | apply s15
            | apply s16
            | apply s17
            | apply s18
            | apply s19
            | apply s20
            | apply s21
            | apply s22
            | apply s23
            | apply s24
            | apply s25
            ))
    | (apply kWV; first
        | (apply kVar; first
            | apply v0
            | apply v1
            | apply v2
            | apply v3
            | apply v4
            | apply v5
            | apply v6
            | apply v7
            | apply v8
            | apply v9
            | apply v10
            | apply v11
            | apply v12
            | apply v13
            | apply v14
            | apply v15
            | apply v16
            | apply v17
            | apply v18
            | apply v19
            | apply v20
            | apply v21
            | apply v22
            | apply v23
            | apply v24
            | apply v25
            )
        | apply wv_cons
        | apply wv_op
        | apply wv_ret
        | apply wv_nil
        | apply wv_call
        | apply wv_tup
        | apply wv_T
        | apply wv_bi
        | apply wv_tru
        | apply wv_un
        | apply wv_lst
        | apply wv_call0
        | apply wv_not
        | apply wv_and
        | apply wv_or
        | apply wv_if
        | apply wv_andV
        | apply wv_orV
        | apply wv_yes
        | apply wv_app
        | apply wv_dget
        | apply wv_dget2
        | apply wv_din
        | apply wv_dct1
        | apply wv_dct0
        | apply wv_sx2
        | apply wv_sxH
        | apply wv_sxL
        )
    | (apply kWG; first
        | apply g_add
        | apply g_sub
        | apply g_eq
        | apply g_lt
        | apply g_le
        | apply g_gt
        | apply g_ge
        | apply g_ne
        | apply g_ix0
        | apply g_ix1
        | apply g_ix2
        | apply g_nq0
        | apply g_nq1
        | apply g_iadd
        | apply g_isub
        | apply g_neg
        | apply g_not
        | apply g_gcd
        | apply g_abs
        | apply g_int
        | apply g_intb
        | apply g_lenT
        )
    | apply exI
    | apply exT
    | apply exTru
    | apply ifT
    | apply ifF
    | apply ifT'
    | apply ifF'
    | apply nf1
    | apply nf2
    | apply nf3
    | apply nf4
    | apply len0
    | apply len1
    | apply len2
    | apply len3
    | apply len4
    )
/-! ### what may raise BadText -/
def WX (r : Option RS) (N : Rf.Env → Sto → Prop) (T : D → Sto → Prop) (B C : Rf.Env → Sto → Prop) (E : Sto → Prop) : Prop := WS r N T B C ∨ ∃ ρ S, r = some (.exc "BadText" ρ S) ∧ E S
def VX (r : Option (R D)) (Q : D → Sto → Prop) (E : Sto → Prop) : Prop := WV r Q ∨ ∃ S, r = some (.exc "BadText" S) ∧ E S
section
variable {ρ : Rf.Env} {S : Sto} {N B C : Rf.Env → Sto → Prop} {T : D → Sto → Prop} {E : Sto → Prop}
theorem wx_seq {a b : MS} (h : WX (a ρ S) (fun ρ1 S1 => WX (b ρ1 S1) N T B C E) T B C E) : WX (sSeq a b ρ S) N T B C E := by
  unfold sSeq
  rcases h with (⟨ρ1, S1, e, k⟩ | ⟨d, S1, e, k⟩ | ⟨ρ1, S1, e, k⟩ | ⟨ρ1, S1, e, k⟩) | ⟨ρ1, S1, e, k⟩
  · rw [e]; exact k
  · rw [e]; exact .inl (.inr (.inl ⟨d, S1, rfl, k⟩))
  · rw [e]; exact .inl (.inr (.inr (.inl ⟨ρ1, S1, rfl, k⟩)))
  · rw [e]; exact .inl (.inr (.inr (.inr ⟨ρ1, S1, rfl, k⟩)))
  · rw [e]; exact .inr ⟨ρ1, S1, rfl, k⟩
theorem wx_if {c : M Bool} {a b : MS} (h : WV (c ρ S) fun k S1 => (k = true → WX (a ρ S1) N T B C E) ∧ (k = false → WX (b ρ S1) N T B C E)) : WX (sIf c a b ρ S) N T B C E := by
  obtain ⟨k, S1, e, h1, h2⟩ := h
  unfold sIf sB
  rw [e]
  cases k with
  | true => exact h1 rfl
  | false => exact h2 rfl
theorem wx_raise (h : E S) : WX (sRaise "BadText" ρ S) N T B C E := .inr ⟨ρ, S, rfl, h⟩
theorem wx_nil (h : N ρ S) : WX (sNil ρ S) N T B C E := .inl (ws_nil h)
theorem wx_ret {m : M D} (h : WV (m ρ S) T) : WX (sRet m ρ S) N T B C E := .inl (ws_ret h)
theorem wx_set {i : Nat} {m : M D} (h : VX (m ρ S) (fun d S1 => N (ρ.set i (some d)) S1) E) : WX (sSet i m ρ S) N T B C E := by
  rcases h with h | ⟨S1, e, k⟩
  · exact .inl (ws_set h)
  · refine .inr ⟨ρ, S1, ?_, k⟩
    unfold sSet sB
    rw [e]
theorem vx_call {F : List D → Sto → Option (R D)} {ms : M (List D)} {Q : D → Sto → Prop} (h : WV (ms ρ S) fun as S1 => VX (F as S1) Q E) : VX (mCall F ms ρ S) Q E := by
  obtain ⟨as, S1, e, h⟩ := h
  unfold mCall mB
  rw [e]
  exact h
theorem vx_fn {n : Nat} {m : MS} {ds : List D} {Q : D → Sto → Prop} (ρ0 : Rf.Env) (e0 : ds.map some ++ List.replicate (n - ds.length) none = ρ0) (h : WX (m ρ0 S) (fun _ S1 => Q .non S1) Q (fun _ _ => False) (fun _ _ => False) E) : VX (fnOf n m ds S) Q E := by
  unfold fnOf
  rw [e0]
  rcases h with (⟨ρ1, S1, e, k⟩ | ⟨d, S1, e, k⟩ | ⟨ρ1, S1, e, k⟩ | ⟨ρ1, S1, e, k⟩) | ⟨ρ1, S1, e, k⟩
  · rw [e]; exact .inl ⟨_, S1, rfl, k⟩
  · rw [e]; exact .inl ⟨d, S1, rfl, k⟩
  · exact absurd k id
  · exact absurd k id
  · rw [e]; exact .inr ⟨S1, rfl, k⟩
theorem ws_tryX {m : M D} {h : MS} (q : VX (m ρ S) T fun S1 => WS (h ρ S1) N T B C) : WS (sTry (sRet m) "BadText" h ρ S) N T B C := by
  unfold sTry sRet sB
  rcases q with ⟨d, S1, e, k⟩ | ⟨S1, e, k⟩
  · rw [e]; exact .inr (.inl ⟨d, S1, rfl, k⟩)
  · rw [e]
    dsimp only
    rw [if_pos rfl]
    exact k
theorem loop_invX {t : Tgt} {b : MS} {sq : Sq} {xs : List D} (I : Nat → Rf.Env → Sto → Prop) (hsq : ∀ k ρ S, I k ρ S → SqIs sq xs S)
    (hb : ∀ k x ρ S, xs[k]? = some x → I k ρ S → ∃ ρ1, t x ρ S = some ρ1 ∧ WX (b ρ1 S) (I (k + 1)) T N (I (k + 1)) E)
    (he : ∀ ρ S, I xs.length ρ S → N ρ S) : ∀ (n k : Nat) (ρ : Rf.Env) (S : Sto), xs.length - k < n → k ≤ xs.length → I k ρ S → WX (loopQ t b sq n k ρ S) N T B C E
  | 0, k, ρ, S, h, _, _ => absurd h (by omega)
  | n + 1, k, ρ, S, h, hk, hi => by
    unfold loopQ
    rw [hsq k ρ S hi k]
    cases hx : xs[k]? with
    | none =>
      have : k = xs.length := by
        have := List.getElem?_eq_none_iff.mp hx
        omega
      subst this
      exact .inl (.inl ⟨ρ, S, rfl, he _ _ hi⟩)
    | some x =>
      have hlt : k < xs.length := by
        by_cases c : k < xs.length
        · exact c
        · rw [List.getElem?_eq_none (by omega)] at hx; cases hx
      obtain ⟨ρ1, e1, h1⟩ := hb k x ρ S hx hi
      dsimp only
      rw [e1]
      dsimp only
      rcases h1 with (⟨ρ2, S2, e2, q⟩ | ⟨d, S2, e2, q⟩ | ⟨ρ2, S2, e2, q⟩ | ⟨ρ2, S2, e2, q⟩) | ⟨ρ2, S2, e2, q⟩
      · rw [e2]
        exact loop_invX I hsq hb he n (k + 1) ρ2 S2 (by omega) hlt q
      · exact .inl (.inr (.inl ⟨d, S2, by rw [e2], q⟩))
      · exact .inl (.inl ⟨ρ2, S2, by rw [e2], q⟩)
      · rw [e2]
        exact loop_invX I hsq hb he n (k + 1) ρ2 S2 (by omega) hlt q
      · exact .inr ⟨ρ2, S2, by rw [e2], q⟩
theorem wx_for {t : Tgt} {it : M Sq} {b : MS} (xs : List D) (I : Nat → Rf.Env → Sto → Prop) (hl : xs.length < 1000000)
    (h : WV (it ρ S) fun sq S1 => I 0 ρ S1 ∧ ∀ k ρ S, I k ρ S → SqIs sq xs S)
    (hb : ∀ k x ρ S, xs[k]? = some x → I k ρ S → ∃ ρ1, t x ρ S = some ρ1 ∧ WX (b ρ1 S) (I (k + 1)) T N (I (k + 1)) E)
    (he : ∀ ρ S, I xs.length ρ S → N ρ S) : WX (sFor t it b ρ S) N T B C E := by
  obtain ⟨sq, S1, e, h0, hq⟩ := h
  unfold sFor sB
  rw [e]
  exact loop_invX I hq hb he fuel 0 ρ S1 (lt_fuel (k := 20) (Nat.lt_of_le_of_lt (Nat.sub_le _ _) (Nat.lt_trans hl (by decide))) (by omega)) (Nat.zero_le _) h0
end
/-! ### texts as lists of signs -/
abbrev tL (l : List Nat) : D := .str ⟨l.toArray⟩
theorem g_eqL {a b : List Nat} {S : Sto} {Q : D → Sto → Prop} (q : Q (.bl (decide (a = b))) S) : WG (gEq (tL a) (tL b) S) Q := ⟨.bl (decide ((⟨a.toArray⟩ : Str) = ⟨b.toArray⟩)), _, rfl, by
  have e : decide ((⟨a.toArray⟩ : Str) = ⟨b.toArray⟩) = decide (a = b) := by
    by_cases c : a = b
    · rw [decide_eq_true c, c, decide_eq_true rfl]
    · rw [decide_eq_false c, decide_eq_false fun z => c (by
        have := congrArg (fun s : Str => s.cps.toList) z
        simpa using this)]
  rw [e]; exact q⟩
theorem sl_L {l : List Nat} {k : Nat} : cutS ⟨l.toArray⟩ (some (k : Int)) none = ⟨(l.drop k).toArray⟩ := by
  unfold cutS
  have hl : (⟨l.toArray⟩ : Str).length = l.length := List.size_toArray
  have e1 : HT.sIx l.length 0 (some (k : Int)) = min k l.length := by
    show (if (k : Int) < 0 then ((k : Int) + (l.length : Int)).toNat else min (k : Int).toNat l.length) = _
    rw [if_neg (by omega), Int.toNat_natCast]
  have e2 : HT.sIx l.length l.length none = l.length := rfl
  rw [hl, e1, e2]
  show (⟨((l.drop (min k l.length)).take (l.length - min k l.length)).toArray⟩ : Str) = _
  have e3 : l.drop (min k l.length) = l.drop k := by
    by_cases c : k ≤ l.length
    · rw [Nat.min_eq_left c]
    · rw [Nat.min_eq_right (by omega), List.drop_eq_nil_of_le (Nat.le_refl _), List.drop_eq_nil_of_le (by omega)]
  rw [e3, List.take_of_length_le (by rw [List.length_drop]; omega)]
theorem sl_H {l : List Nat} {k : Nat} : cutS ⟨l.toArray⟩ none (some (k : Int)) = ⟨(l.take k).toArray⟩ := by
  unfold cutS
  have hl : (⟨l.toArray⟩ : Str).length = l.length := List.size_toArray
  have e1 : HT.sIx l.length l.length (some (k : Int)) = min k l.length := by
    show (if (k : Int) < 0 then ((k : Int) + (l.length : Int)).toNat else min (k : Int).toNat l.length) = _
    rw [if_neg (by omega), Int.toNat_natCast]
  have e2 : HT.sIx l.length 0 none = 0 := rfl
  rw [hl, e1, e2, Nat.sub_zero, List.drop_zero]
  show (⟨(l.take (min k l.length)).toArray⟩ : Str) = _
  by_cases c : k ≤ l.length
  · rw [Nat.min_eq_left c]
  · rw [Nat.min_eq_right (by omega), List.take_of_length_le (Nat.le_refl _), List.take_of_length_le (by omega)]
theorem starts_L {l : List Nat} : Txt.startswith ⟨l.toArray⟩ (Str.ofString "-") = (l.head? == some 45) := by
  cases l with
  | nil => decide
  | cons x r =>
    have e : Txt.startswith ⟨(x :: r).toArray⟩ (Str.ofString "-") = ((x :: r).toArray.extract 0 1 == #[45]) := by
      unfold Txt.startswith
      have h1 : decide (0 + (Str.ofString "-").length ≤ (⟨(x :: r).toArray⟩ : Str).length) = true := decide_eq_true (by
        show 0 + 1 ≤ (x :: r).toArray.size
        rw [List.size_toArray, List.length_cons]; omega)
      rw [h1, Bool.true_and]
      rfl
    rw [e]
    by_cases c : x = 45
    · subst c; simp
    · simp [c]
theorem len_L {l : List Nat} : (⟨l.toArray⟩ : Str).length = l.length := by show l.toArray.size = l.length; exact List.size_toArray
def spS (l : List Nat) : List (List Nat) := TL.spl [47] 0 [] l
theorem split_L {l : List Nat} : Txt.split ⟨l.toArray⟩ (Str.ofString "/") = (spS l).map fun p => (⟨p.toArray⟩ : Str) := by
  refine TL.map_tl_inj ?_
  rw [TL.split_spl _ _ (by decide +kernel) (TL.kind_ok (by decide +kernel)), List.map_map]
  show TL.spl (TL.tl (Str.ofString "/")) 0 [] l = _
  rw [show TL.tl (Str.ofString "/") = [47] from by decide +kernel]
  unfold spS
  conv => lhs; rw [← List.map_id (TL.spl [47] 0 [] l)]
  rfl
theorem digit_in : ∀ c : Fin 128, (!(!(Builtin.Str.occurrences (Str.ofString "0123456789") ⟨#[c.val]⟩ 0 (Str.ofString "0123456789").length 1).isEmpty)) = decide (¬ (48 ≤ c.val ∧ c.val ≤ 57)) := by decide +kernel
end Gn

set_option maxHeartbeats 4000000
namespace Gn
open PySem PySem.Spec PyProof.Rows L2 Rf
local macro_rules
  | `(tactic| infer_instance) => `(tactic| with_reducible first
    | (apply kWS; first
        | apply ws_seq
        | apply ws_ret
        | apply ws_if
        | apply ws_ex
        | apply ws_asg
        | apply ws_par
        | apply ws_dput
        | apply ws_lput
        | apply ws_nil
        | apply ws_retN
        | (apply kSet; first
            | apply s0
            | apply s1
            | apply s2
            | apply s3
            | apply s4
            | apply s5
            | apply s6
            | apply s7
            | apply s8
            | apply s9
            | apply s10
            | apply s11
            | apply s12
            | apply s13
            | apply s14
            | apply s15
            | apply s16
            | apply s17
            | apply s18
            | apply s19
            | apply s20
            | apply s21
            | apply s22
            | apply s23
            | apply s24
            | apply s25
            ))
    | (apply kWV; first
        | (apply kVar; first
            | apply v0
            | apply v1
            | apply v2
            | apply v3
            | apply v4
            | apply v5
            | apply v6
            | apply v7
            | apply v8
            | apply v9
            | apply v10
            | apply v11
            | apply v12
            | apply v13
            | apply v14
            | apply v15
            | apply v16
            | apply v17
            | apply v18
            | apply v19
            | apply v20
            | apply v21
            | apply v22
            | apply v23
            | apply v24
            | apply v25
            )
        | apply wv_cons
        | apply wv_op
        | apply wv_ret
        | apply wv_nil
        | apply wv_call
        | apply wv_tup
        | apply wv_T
        | apply wv_bi
        | apply wv_tru
        | apply wv_un
        | apply wv_lst
        | apply wv_call0
        | apply wv_not
        | apply wv_and
        | apply wv_or
        | apply wv_if
        | apply wv_andV
        | apply wv_orV
        | apply wv_yes
        | apply wv_app
        | apply wv_dget
        | apply wv_dget2
        | apply wv_din
        | apply wv_dct1
        | apply wv_dct0
        | apply wv_sx2
        | apply wv_sxH
        | apply wv_sxL
        )
    | (apply kWG; first
        | apply g_add
        | apply g_sub
        | apply g_eq
        | apply g_lt
        | apply g_le
        | apply g_gt
        | apply g_ge
        | apply g_ne
        | apply g_ix0
        | apply g_ix1
        | apply g_ix2
        | apply g_nq0
        | apply g_nq1
        | apply g_iadd
        | apply g_isub
        | apply g_neg
        | apply g_not
        | apply g_gcd
        | apply g_abs
        | apply g_int
        | apply g_intb
        | apply g_lenT
        )
    | apply exI
    | apply Rf.exT
    | apply exTru
    | apply ifT
    | apply ifF
    | apply ifT'
    | apply ifF'
    | apply nf1
    | apply nf2
    | apply nf3
    | apply nf4
    | apply len0
    | apply len1
    | apply len2
    | apply len3
    | apply len4
    )
/-! ### figures -/
def Dig (l : List Nat) : Prop := ∀ c ∈ l, 48 ≤ c ∧ c ≤ 57
theorem num_dig (n : Nat) : Dig (TL.numL n) := fun c hc => by
  have := TL.numL_digits n
  by_cases h : c < 48 ∨ 57 < c
  · exact absurd hc (TL.numL_free h)
  · omega
theorem num_head : ∀ (n : Nat), (TL.numL n).head? = some 48 → n = 0 := by
  intro n
  induction n using Nat.strongRecOn with
  | _ n ih =>
    intro h
    by_cases c : n < 10
    · rw [TL.numL_lt c] at h
      have : 48 + n = 48 := by simpa using h
      omega
    · rw [TL.numL_step (by omega)] at h
      have hne := TL.numL_ne (n / 10)
      have h2 : (TL.numL (n / 10)).head? = some 48 := by
        cases e : TL.numL (n / 10) with
        | nil => exact absurd e hne
        | cons x r => rw [e] at h; exact h
      have := ih (n / 10) (by omega) h2
      omega
theorem num_of : ∀ (k : Nat) (l : List Nat), l.length = k → l ≠ [] → Dig l → (l.head? = some 48 → l = [48]) → ∃ m, l = TL.numL m ∧ (l.head? ≠ some 48 → 0 < m)
  | 0, l, h, ne, _, _ => absurd (List.length_eq_zero_iff.mp h) ne
  | k + 1, l, h, ne, hd, h0 => by
    obtain ⟨l', c, rfl⟩ : ∃ l' c, l = l' ++ [c] := ⟨l.dropLast, l.getLast ne, (List.dropLast_concat_getLast ne).symm⟩
    have hc := hd c (List.mem_append_right _ List.mem_cons_self)
    by_cases e : l' = []
    · subst e
      refine ⟨c - 48, ?_, fun hh => ?_⟩
      · rw [TL.numL_lt (by omega)]
        show [c] = [48 + (c - 48)]
        rw [show 48 + (c - 48) = c by omega]
      · have : c ≠ 48 := fun z => hh (by rw [z]; rfl)
        omega
    · have hh : (l' ++ [c]).head? = l'.head? := by
        cases l' with
        | nil => exact absurd rfl e
        | cons x r => rfl
      have n48 : l'.head? ≠ some 48 := fun z => by
        have e1 := congrArg List.length (h0 (hh.trans z))
        rw [List.length_append, List.length_singleton, List.length_singleton] at e1
        have e2 : 0 < l'.length := List.length_pos_iff.mpr e
        omega
      obtain ⟨m, em, pm⟩ := num_of k l' (by rw [List.length_append] at h; simpa using h) e (fun x hx => hd x (List.mem_append_left _ hx)) (fun z => absurd z n48)
      have p := pm n48
      refine ⟨10 * m + (c - 48), ?_, fun _ => by omega⟩
      rw [TL.numL_step (by omega), show (10 * m + (c - 48)) / 10 = m by omega, show (10 * m + (c - 48)) % 10 = c - 48 by omega, ← em, show 48 + (c - 48) = c by omega]
open Classical in
noncomputable def figN (l : List Nat) : Option Nat := if h : ∃ n, l = TL.numL n ∧ l.length ≤ 60 then some (Classical.choose h) else none
theorem figN_num {n : Nat} (h : (TL.numL n).length ≤ 60) : figN (TL.numL n) = some n := by
  have hx : ∃ m, TL.numL n = TL.numL m ∧ (TL.numL n).length ≤ 60 := ⟨n, rfl, h⟩
  unfold figN
  rw [dif_pos hx]
  exact congrArg some (TL.numL_inj (Classical.choose_spec hx).1).symm
theorem figN_none {l : List Nat} (h : ∀ n, l = TL.numL n → ¬ l.length ≤ 60) : figN l = none := by
  unfold figN
  rw [dif_neg fun ⟨n, e, z⟩ => h n e z]
theorem int_of {n : Nat} (h : (TL.numL n).length ≤ 60) : intText? ⟨(TL.numL n).toArray⟩ = some (n : Int) := by
  have e : (⟨(TL.numL n).toArray⟩ : Str) = Str.ofString (toString ((n : Nat) : Int)) := TL.ext_tl (by rw [TL.tl_num])
  rw [e]
  exact TL.int_num (by omega)
abbrev Asc (l : List Nat) : Prop := ∀ c ∈ l, c < 128
theorem g_notIn {c : Nat} (h : c < 128) {S : Sto} {Q : D → Sto → Prop} (q : Q (.bl (decide (¬ (48 ≤ c ∧ c ≤ 57)))) S) : WG (gNotInT (tL [c]) (.str (Str.ofString "0123456789")) S) Q := ⟨_, _, rfl, by
  have := digit_in ⟨c, h⟩
  show Q (.bl (!(!(Builtin.Str.occurrences (Str.ofString "0123456789") ⟨#[c]⟩ 0 (Str.ofString "0123456789").length 1).isEmpty))) S
  rw [this]; exact q⟩
theorem sqIs_str {l : List Nat} {S : Sto} : SqIs (sqStr ⟨l.toArray⟩) (l.map fun c => tL [c]) S := fun i => by
  unfold sqStr
  show (match l.toArray[i]? with | some c => some (some (D.str ⟨#[c]⟩)) | none => some none) = _
  rw [List.getElem?_map, List.getElem?_toArray]
  cases l[i]? with
  | none => rfl
  | some c => rfl
theorem truS {l : List Nat} (h : l.length ≤ 1000) {S : Sto} : truD (tL l) S = some (!l.isEmpty) := by
  unfold truD
  dsimp only
  rw [len_L, if_pos (by omega)]
  cases l <;> rfl
theorem g_lenS {l : List Nat} (h : l.length ≤ 1000) {S : Sto} {Q : D → Sto → Prop} (q : Q (.int l.length) S) : WG (gLenT [tL l] S) Q := ⟨.int l.length, S, by
  show (match gLen [tL l] S with | some z => some z | none => gLenS [tL l] S) = _
  have : gLen [tL l] S = none := rfl
  rw [this]
  show (if (⟨l.toArray⟩ : Str).length ≤ 1000000 then some (D.int (⟨l.toArray⟩ : Str).length, S) else none) = _
  rw [len_L, if_pos (by omega)], q⟩
theorem g_ixS0 {x : Nat} {r : List Nat} (h : (x :: r).length ≤ 1000) {S : Sto} {Q : D → Sto → Prop} (q : Q (tL [x]) S) : WG (gIx (tL (x :: r)) (.int 0) S) Q := ⟨tL [x], S, by
  show (if (⟨(x :: r).toArray⟩ : Str).length ≤ 1000000 then (atI (x :: r).toArray.toList 0).map fun c => (D.str ⟨#[c]⟩, S) else none) = _
  rw [len_L, if_pos (by omega)]
  have : atI (x :: r).toArray.toList 0 = some x := by simp [atI, ixN]
  rw [this]; rfl, q⟩
theorem g_neO {l b : List Nat} {s : Str} (hs : s = ⟨b.toArray⟩) {S : Sto} {Q : D → Sto → Prop} (q : Q (.bl (!decide (l = b))) S) : WG (gNe (tL l) (.str s) S) Q := by
  rw [hs]
  refine ⟨.bl (!decide ((⟨l.toArray⟩ : Str) = ⟨b.toArray⟩)), S, rfl, ?_⟩
  have e : decide ((⟨l.toArray⟩ : Str) = ⟨b.toArray⟩) = decide (l = b) := by
    by_cases c : l = b
    · rw [decide_eq_true c, c, decide_eq_true rfl]
    · rw [decide_eq_false c, decide_eq_false fun z => c (by
        have := congrArg (fun s : Str => s.cps.toList) z
        simpa using this)]
  rw [e]; exact q
theorem g_intT {n : Nat} (h : (TL.numL n).length ≤ 60) {S : Sto} {Q : D → Sto → Prop} (q : Q (.int n) S) : WG (gIntT [tL (TL.numL n)] S) Q := ⟨.int n, S, by
  show (match gInt [tL (TL.numL n)] S with | some z => some z | none => gIntS [tL (TL.numL n)] S) = _
  have : gInt [tL (TL.numL n)] S = none := rfl
  rw [this]
  show (if (⟨(TL.numL n).toArray⟩ : Str).length ≤ 640 then (intText? ⟨(TL.numL n).toArray⟩).map fun n => (D.int n, S) else none) = _
  rw [len_L, if_pos (by omega), int_of h]; rfl, q⟩
theorem g_eqO {l b : List Nat} {s : Str} (hs : s = ⟨b.toArray⟩) {S : Sto} {Q : D → Sto → Prop} (q : Q (.bl (decide (l = b))) S) : WG (gEq (tL l) (.str s) S) Q := by
  rw [hs]; exact g_eqL q
theorem w_read_figures {l : List Nat} (ha : Asc l) (hl : l.length ≤ 1000) {S : Sto} : VX (F__read_figures [tL l] S) (fun d S' => S' = S ∧ ∃ n : Nat, figN l = some n ∧ d = .int n) (fun S' => S' = S ∧ figN l = none) := by
  unfold F__read_figures m__read_figures
  refine vx_fn [some (tL l), none] rfl ?_
  refine wx_seq (wx_if ?_)
  repeat infer_instance
  cases l with
  | nil => exact ⟨false, truS hl, fun z => (nomatch z), fun _ => ⟨fun _ => wx_raise ⟨rfl, figN_none fun n e => absurd e.symm (TL.numL_ne n)⟩, fun z => (nomatch z)⟩⟩
  | cons x r =>
    refine ⟨true, truS hl, fun _ => ?_, fun z => (nomatch z)⟩
    repeat infer_instance
    refine g_lenS hl ?_
    repeat infer_instance
    by_cases c : (60 : Int) < ((x :: r).length : Int)
    · rw [decide_eq_true c]
      exact ⟨fun _ => wx_raise ⟨rfl, figN_none fun n e => by omega⟩, fun z => (nomatch z)⟩
    · rw [decide_eq_false c]
      refine ⟨fun z => (nomatch z), fun _ => wx_nil ?_⟩
      refine wx_seq (wx_for ((x :: r).map fun c => tL [c]) (fun k ρ S1 => S1 = S ∧ (∃ x1 : Option D, ρ = [some (tL (x :: r)), x1]) ∧ ∀ i < k, ∀ c, (x :: r)[i]? = some c → 48 ≤ c ∧ c ≤ 57) (by rw [List.length_map]; omega) ?_ (fun k y ρ S1 hy hI => ?_) (fun ρ S1 hI => ?_))
      · refine wv_of (a := sqStr ⟨(x :: r).toArray⟩) rfl ?_
        exact ⟨⟨rfl, ⟨_, rfl⟩, fun i hi => absurd hi (by omega)⟩, fun _ _ _ _ => sqIs_str⟩
      · obtain ⟨rfl, ⟨x1, rfl⟩, hd⟩ := hI
        rw [List.getElem?_map] at hy
        cases hz : (x :: r)[k]? with
        | none => rw [hz] at hy; cases hy
        | some z =>
          rw [hz] at hy
          cases hy
          refine ⟨_, rfl, ?_⟩
          unfold L0__read_figures
          simp only [tN, set0, setS]
          refine wx_if ?_
          repeat infer_instance
          refine g_notIn (ha z (List.mem_of_getElem? hz)) ?_
          repeat infer_instance
          by_cases cz : 48 ≤ z ∧ z ≤ 57
          · rw [decide_eq_false (fun h => h cz)]
            refine ⟨fun z => (nomatch z), fun _ => wx_nil ⟨rfl, ⟨_, rfl⟩, fun i hi c hc => ?_⟩⟩
            by_cases ci : i = k
            · subst ci
              rw [hz] at hc
              cases hc
              exact cz
            · exact hd i (by omega) c hc
          · rw [decide_eq_true cz]
            refine ⟨fun _ => wx_raise ⟨rfl, figN_none fun n e => ?_⟩, fun z => (nomatch z)⟩
            intro _
            exact cz (num_dig n z (by rw [← e]; exact List.mem_of_getElem? hz))
      · obtain ⟨rfl, ⟨x1, rfl⟩, hd⟩ := hI
        have dg : Dig (x :: r) := fun c hc => by
          obtain ⟨i, hi, rfl⟩ := List.getElem_of_mem hc
          exact hd i (by rw [List.length_map]; exact hi) _ (List.getElem?_eq_getElem hi)
        refine wx_seq (wx_if ?_)
        repeat infer_instance
        have fin : ((x :: r).head? = some 48 → x :: r = [48]) → WX (sRet (mBi gIntT (mCons (mVar 0) mNil)) [some (tL (x :: r)), x1] S1) (fun _ S2 => S2 = S1 ∧ ∃ n : Nat, figN (x :: r) = some n ∧ D.non = .int n) (fun d S' => S' = S1 ∧ ∃ n : Nat, figN (x :: r) = some n ∧ d = .int n) (fun _ _ => False) (fun _ _ => False) (fun S' => S' = S1 ∧ figN (x :: r) = none) := fun h0 => by
          obtain ⟨m, em, _⟩ := num_of _ (x :: r) rfl (by simp) dg h0
          have hl6 : (x :: r).length ≤ 60 := by omega
          rw [em] at hl6 ⊢
          refine wx_ret ?_
          repeat infer_instance
          refine g_intT hl6 ?_
          exact ⟨rfl, m, figN_num hl6, rfl⟩
        refine g_ixS0 hl ?_
        repeat infer_instance
        refine g_eqO (b := [48]) (by decide +kernel) ?_
        repeat infer_instance
        by_cases c0 : [x] = [48]
        · rw [decide_eq_true c0]
          refine ⟨fun _ => ?_, fun z => (nomatch z)⟩
          repeat infer_instance
          refine g_neO (b := [48]) (by decide +kernel) ?_
          repeat infer_instance
          by_cases c1 : x :: r = [48]
          · rw [decide_eq_true c1]
            exact ⟨fun z => (nomatch z), fun _ => wx_nil (fin fun _ => c1)⟩
          · rw [decide_eq_false c1]
            refine ⟨fun _ => wx_raise ⟨rfl, figN_none fun n e _ => c1 ?_⟩, fun z => (nomatch z)⟩
            have hx : x = 48 := by simpa using c0
            have : n = 0 := num_head n (by rw [← e, hx]; rfl)
            rw [e, this, TL.numL_lt (by decide)]
        · rw [decide_eq_false c0]
          refine ⟨fun z => (nomatch z), fun _ => ⟨fun z => (nomatch z), fun _ => wx_nil (fin fun z => absurd ?_ c0)⟩⟩
          have : x = 48 := by simpa using z
          rw [this]
end Gn

set_option maxHeartbeats 4000000
namespace Gn
open PySem PySem.Spec PyProof.Rows L2 Rf
local macro_rules
  | `(tactic| infer_instance) => `(tactic| with_reducible first
    | (apply kWS; first
        | apply ws_seq
        | apply ws_ret
        | apply ws_if
        | apply ws_ex
        | apply ws_asg
        | apply ws_par
        | apply ws_dput
        | apply ws_lput
        | apply ws_nil
        | apply ws_retN
        | (apply kSet; first
            | apply s0
            | apply s1
            | apply s2
            | apply s3
            | apply s4
            | apply s5
            | apply s6
            | apply s7
            | apply s8
            | apply s9
            | apply s10
            | apply s11
            | apply s12
            | apply s13
            | apply s14
            | apply s15
            | apply s16
            | apply s17
            | apply s18
            | apply s19
            | apply s20
            | apply s21
            | apply s22
            | apply s23
            | apply s24
            | apply s25
            ))
    | (apply kWV; first
        | (apply kVar; first
            | apply v0
            | apply v1
            | apply v2
            | apply v3
            | apply v4
            | apply v5
            | apply v6
            | apply v7
            | apply v8
            | apply v9
            | apply v10
            | apply v11
            | apply v12
            | apply v13
            | apply v14
            | apply v15
            | apply v16
            | apply v17
            | apply v18
            | apply v19
            | apply v20
            | apply v21
            | apply v22
            | apply v23
            | apply v24
            | apply v25
            )
        | apply wv_cons
        | apply wv_op
        | apply wv_ret
        | apply wv_nil
        | apply wv_call
        | apply wv_tup
        | apply wv_T
        | apply wv_bi
        | apply wv_tru
        | apply wv_un
        | apply wv_lst
        | apply wv_call0
        | apply wv_not
        | apply wv_and
        | apply wv_or
        | apply wv_if
        | apply wv_andV
        | apply wv_orV
        | apply wv_yes
        | apply wv_app
        | apply wv_dget
        | apply wv_dget2
        | apply wv_din
        | apply wv_dct1
        | apply wv_dct0
        | apply wv_sx2
        | apply wv_sxH
        | apply wv_sxL
        )
    | (apply kWG; first
        | apply g_add
        | apply g_sub
        | apply g_eq
        | apply g_lt
        | apply g_le
        | apply g_gt
        | apply g_ge
        | apply g_ne
        | apply g_ix0
        | apply g_ix1
        | apply g_ix2
        | apply g_nq0
        | apply g_nq1
        | apply g_iadd
        | apply g_isub
        | apply g_neg
        | apply g_not
        | apply g_gcd
        | apply g_abs
        | apply g_int
        | apply g_intb
        | apply g_lenT
        )
    | apply exI
    | apply Rf.exT
    | apply exTru
    | apply ifT
    | apply ifF
    | apply ifT'
    | apply ifF'
    | apply nf1
    | apply nf2
    | apply nf3
    | apply nf4
    | apply len0
    | apply len1
    | apply len2
    | apply len3
    | apply len4
    )

/-! ### numbers read -/
theorem VX.imp {r : Option (R D)} {Q Q' : D → Sto → Prop} {E E' : Sto → Prop} (h : VX r Q E) (q : ∀ d S, Q d S → Q' d S) (e : ∀ S, E S → E' S) : VX r Q' E' := by
  rcases h with h | ⟨S, h1, h2⟩
  · exact .inl (h.imp q)
  · exact .inr ⟨S, h1, e S h2⟩
theorem wv_m1 {g : Str → D → Sto → Option (D × Sto)} {mo me : M D} {ρ : Rf.Env} {S : Sto} {Q : D → Sto → Prop} (h : WV (mo ρ S) fun a S1 => ∃ y, a = .str y ∧ WV (me ρ S1) fun b S2 => WG (g y b S2) Q) : WV (mM1 g mo me ρ S) Q := by
  refine wv_b (h.imp fun a S1 ⟨y, ea, hb⟩ => ?_)
  subst ea
  exact wv_b (hb.imp fun b S2 ⟨c, S3, e, q⟩ => ⟨c, S3, by rw [e], q⟩)
theorem wv_syL {m ml : M D} {ρ : Rf.Env} {S : Sto} {Q : D → Sto → Prop} (h : WV (m ρ S) fun a S1 => WV (ml ρ S1) fun k S2 => ∃ (l : List Nat) (j : Nat), a = tL l ∧ k = .int (j : Int) ∧ l.length ≤ 1000 ∧ Q (tL (l.drop j)) S2) : WV (mSyL m ml ρ S) Q := by
  refine wv_b (h.imp fun a S1 h1 => wv_b (h1.imp fun k S2 ⟨l, j, ea, ek, hl, q⟩ => ?_))
  subst ea ek
  refine ⟨tL (l.drop j), S2, ?_, q⟩
  show (match slDS S2 (tL l) (some (j : Int)) none with | some (d, S') => some (R.val d S') | none => none) = _
  unfold slDS
  dsimp only
  rw [len_L, if_pos (by omega), sl_L]
theorem wv_syH {m mh : M D} {ρ : Rf.Env} {S : Sto} {Q : D → Sto → Prop} (h : WV (m ρ S) fun a S1 => WV (mh ρ S1) fun k S2 => ∃ (l : List Nat) (j : Nat), a = tL l ∧ k = .int (j : Int) ∧ l.length ≤ 1000 ∧ Q (tL (l.take j)) S2) : WV (mSyH m mh ρ S) Q := by
  refine wv_b (h.imp fun a S1 h1 => wv_b (h1.imp fun k S2 ⟨l, j, ea, ek, hl, q⟩ => ?_))
  subst ea ek
  refine ⟨tL (l.take j), S2, ?_, q⟩
  show (match slDS S2 (tL l) none (some (j : Int)) with | some (d, S') => some (R.val d S') | none => none) = _
  unfold slDS
  dsimp only
  rw [len_L, if_pos (by omega), sl_H]
def cut1 : List Nat → List Nat × Option (List Nat)
  | [] => ([], none)
  | c :: r => if c = 47 then ([], some r) else (c :: (cut1 r).1, (cut1 r).2)
theorem cut1_no : ∀ l, 47 ∉ (cut1 l).1
  | [] => by simp [cut1]
  | c :: r => by
    unfold cut1
    by_cases h : c = 47
    · rw [if_pos h]; simp
    · rw [if_neg h]
      have := cut1_no r
      intro hm
      rcases List.mem_cons.mp hm with e | hm
      · exact h e.symm
      · exact this hm
theorem cut1_eq : ∀ l, l = (cut1 l).1 ++ (match (cut1 l).2 with | none => [] | some q => 47 :: q)
  | [] => rfl
  | c :: r => by
    have ih := cut1_eq r
    unfold cut1
    by_cases h : c = 47
    · rw [if_pos h, h]; rfl
    · rw [if_neg h]
      show c :: r = c :: ((cut1 r).1 ++ _)
      rw [← ih]
theorem e47 : (Str.ofString "/" : Str) = ⟨[47].toArray⟩ := by decide +kernel
theorem part_L {l : List Nat} : Txt.partition ⟨l.toArray⟩ (Str.ofString "/") = match (cut1 l).2 with
    | none => (⟨l.toArray⟩, ⟨[].toArray⟩, ⟨[].toArray⟩)
    | some q => (⟨(cut1 l).1.toArray⟩, ⟨[47].toArray⟩, ⟨q.toArray⟩) := by
  have ey : TL.tl (Str.ofString "/") = 47 :: [] := by decide +kernel
  have hno := cut1_no l
  have he := cut1_eq l
  cases hq : (cut1 l).2 with
  | none =>
    rw [hq, List.append_nil] at he
    dsimp only
    exact TL.partition_none ey (by rw [he]; exact hno)
  | some q =>
    rw [hq] at he
    dsimp only at he ⊢
    have e1 : (⟨l.toArray⟩ : Str) = (⟨(cut1 l).1.toArray⟩ : Str) ++ Str.ofString "/" ++ ⟨q.toArray⟩ := TL.ext_tl (by
      rw [TL.tl_append, TL.tl_append, ey]
      show l = ((cut1 l).1 ++ [47]) ++ q
      rw [List.append_assoc]; exact he)
    rw [e1, TL.partition_app ey (a := ⟨(cut1 l).1.toArray⟩) hno, e47]
def sgnN (b : Bool) (n : Nat) : Int := if b = true then -(n : Int) else n
def negL (l : List Nat) : Bool := l.head? == some 45
def offN (b : Bool) (l : List Nat) : List Nat := if b = true then l.drop 1 else l
noncomputable def res (l : List Nat) : Option (Int × Int) :=
  match figN (offN (negL (cut1 l).1) (cut1 l).1) with
  | none => none
  | some n => if negL (cut1 l).1 = true ∧ n = 0 then none else
    match (cut1 l).2 with
    | none => some (sgnN (negL (cut1 l).1) n, 1)
    | some q => match figN q with
      | none => none
      | some m => if m < 2 ∨ Nat.gcd n m ≠ 1 then none else some (sgnN (negL (cut1 l).1) n, m)
theorem g_starts {l : List Nat} {S : Sto} {Q : D → Sto → Prop} (q : Q (.bl (negL l)) S) : WG (gStarts ⟨l.toArray⟩ (.str (Str.ofString "-")) S) Q := ⟨.bl (Txt.startswith ⟨l.toArray⟩ (Str.ofString "-")), S, rfl, by rw [starts_L]; exact q⟩
theorem offN_sub {b : Bool} {l : List Nat} : (∀ c ∈ offN b l, c ∈ l) ∧ (offN b l).length ≤ l.length := by
  unfold offN
  split
  · exact ⟨fun c hc => List.mem_of_mem_drop hc, by rw [List.length_drop]; omega⟩
  · exact ⟨fun c hc => hc, Nat.le_refl _⟩
theorem cut1_sub (l : List Nat) : (∀ c ∈ (cut1 l).1, c ∈ l) ∧ (cut1 l).1.length ≤ l.length ∧ ∀ q, (cut1 l).2 = some q → (∀ c ∈ q, c ∈ l) ∧ q.length ≤ l.length := by
  have he := cut1_eq l
  refine ⟨fun c hc => by rw [he]; exact List.mem_append_left _ hc, by
    have := congrArg List.length he
    rw [List.length_append] at this
    omega, fun q hq => ?_⟩
  rw [hq] at he
  dsimp only at he
  refine ⟨fun c hc => by rw [he]; exact List.mem_append_right _ (List.mem_cons_of_mem _ hc), by
    have := congrArg List.length he
    rw [List.length_append, List.length_cons] at this
    omega⟩
def lineL : Option (List Nat) → List Nat
  | none => []
  | some _ => [47]
theorem g_part {l : List Nat} (hl : l.length ≤ 1000) {S : Sto} {Q : D → Sto → Prop} (q : Q (.tup [tL (cut1 l).1, tL (lineL (cut1 l).2), tL ((cut1 l).2.getD [])]) S) : WG (gPart ⟨l.toArray⟩ (.str (Str.ofString "/")) S) Q := by
  have hpart := part_L (l := l)
  have he := cut1_eq l
  refine ⟨_, S, ?_, q⟩
  unfold gPart
  dsimp only
  rw [if_pos ⟨by decide +kernel, by rw [len_L]; omega⟩, hpart]
  cases hq : (cut1 l).2 with
  | none =>
    rw [hq, List.append_nil] at he
    dsimp only
    rw [← he]; rfl
  | some q => rfl
abbrev rnT : MS := (sSeq (sIf (mAnd (mTru (mVar 4)) (mT (mOp gEq (mVar 5) (mRet (.int 0))))) (sRaise "BadText") sNil)
    (sSeq (sSet 6 (mRet (.int 1)))
    (sSeq (sIf (mTru (mVar 2)) (sSeq (sSet 6 (mCall F__read_figures (mCons (mVar 3) mNil)))
    (sIf (mOr (mT (mOp gLt (mVar 6) (mRet (.int 2)))) (mT (mOp gNe (mBi gGcd (mCons (mVar 5) (mCons (mVar 6) mNil))) (mRet (.int 1))))) (sRaise "BadText") sNil)) sNil)
    (sRet (mTup (mCons (mIf (mTru (mVar 4)) (mUn gNeg (mVar 5)) (mVar 5)) (mCons (mVar 6) mNil)))))))
noncomputable def resT (b : Bool) (n : Nat) (o : Option (List Nat)) : Option (Int × Int) := if b = true ∧ n = 0 then none else match o with
  | none => some (sgnN b n, 1)
  | some q => match figN q with
    | none => none
    | some m => if m < 2 ∨ Nat.gcd n m ≠ 1 then none else some (sgnN b n, m)
theorem res_T (l : List Nat) : res l = match figN (offN (negL (cut1 l).1) (cut1 l).1) with
    | none => none
    | some n => resT (negL (cut1 l).1) n (cut1 l).2 := by
  unfold res resT; rfl
theorem rn_ret {e0 e1 e2 e3 : Option D} {b : Bool} {n : Nat} {m : Int} {S : Sto} {r : Option (Int × Int)} (hr : r = some (sgnN b n, m)) {N : Rf.Env → Sto → Prop} {B C : Rf.Env → Sto → Prop} : WX (sRet (mTup (mCons (mIf (mTru (mVar 4)) (mUn gNeg (mVar 5)) (mVar 5)) (mCons (mVar 6) mNil))) [e0, e1, e2, e3, some (.bl b), some (.int n), some (.int m)] S) N (fun d S' => S' = S ∧ ∃ a c, r = some (a, c) ∧ d = .tup [.int a, .int c]) B C (fun S' => S' = S ∧ r = none) := by
  refine wx_ret ?_
  repeat infer_instance
  cases b with
  | true =>
    refine ⟨fun _ => ?_, fun z => (nomatch z)⟩
    repeat infer_instance
    exact ⟨rfl, _, _, hr, rfl⟩
  | false =>
    refine ⟨fun z => (nomatch z), fun _ => ?_⟩
    repeat infer_instance
    exact ⟨rfl, _, _, hr, rfl⟩
theorem rn_tail {e0 e1 : Option D} {b : Bool} {n : Nat} {o : Option (List Nat)} (ho : ∀ q, o = some q → Asc q ∧ q.length ≤ 1000) {S : Sto} {N : Rf.Env → Sto → Prop} {B C : Rf.Env → Sto → Prop} : WX (rnT [e0, e1, some (tL (lineL o)), some (tL (o.getD [])), some (.bl b), some (.int n), none] S) N (fun d S' => S' = S ∧ ∃ a c, resT b n o = some (a, c) ∧ d = .tup [.int a, .int c]) B C (fun S' => S' = S ∧ resT b n o = none) := by
  refine wx_seq (wx_if ?_)
  have go : ¬ (b = true ∧ n = 0) → WX ((sSeq (sSet 6 (mRet (.int 1)))
    (sSeq (sIf (mTru (mVar 2)) (sSeq (sSet 6 (mCall F__read_figures (mCons (mVar 3) mNil)))
    (sIf (mOr (mT (mOp gLt (mVar 6) (mRet (.int 2)))) (mT (mOp gNe (mBi gGcd (mCons (mVar 5) (mCons (mVar 6) mNil))) (mRet (.int 1))))) (sRaise "BadText") sNil)) sNil)
    (sRet (mTup (mCons (mIf (mTru (mVar 4)) (mUn gNeg (mVar 5)) (mVar 5)) (mCons (mVar 6) mNil)))))) [e0, e1, some (tL (lineL o)), some (tL (o.getD [])), some (.bl b), some (.int n), none] S) N (fun d S' => S' = S ∧ ∃ a c, resT b n o = some (a, c) ∧ d = .tup [.int a, .int c]) B C (fun S' => S' = S ∧ resT b n o = none) := fun hb => by
    refine wx_seq (.inl (ws_set ?_))
    repeat infer_instance
    simp only [List.set]
    refine wx_seq (wx_if ?_)
    repeat infer_instance
    cases o with
    | none =>
      refine ⟨false, truS (l := []) (by decide), fun z => (nomatch z), fun _ => wx_nil ?_⟩
      exact rn_ret (by unfold resT; rw [if_neg hb])
    | some q =>
      obtain ⟨qa, ql⟩ := ho q rfl
      refine ⟨true, truS (l := [47]) (by decide), fun _ => ?_, fun z => (nomatch z)⟩
      refine wx_seq (wx_set (vx_call ?_))
      repeat infer_instance
      refine (w_read_figures qa ql).imp (fun d S1 ⟨e1, m, hm, ed⟩ => ?_) (fun S1 ⟨e1, hm⟩ => ⟨e1, by unfold resT; rw [if_neg hb]; dsimp only; rw [hm]⟩)
      subst e1 ed
      simp only [List.set]
      have hr : resT b n (some q) = if m < 2 ∨ Nat.gcd n m ≠ 1 then none else some (sgnN b n, (m : Int)) := by unfold resT; rw [if_neg hb]; dsimp only; rw [hm]
      refine wx_if ?_
      repeat infer_instance
      by_cases c2 : (m : Int) < 2
      · rw [decide_eq_true c2]
        repeat infer_instance
        exact wx_raise ⟨rfl, by rw [hr, if_pos (.inl (by omega))]⟩
      · rw [decide_eq_false c2]
        repeat infer_instance
        by_cases c3 : Nat.gcd n m = 1
        · have eg : (!decide (((((n : Int).natAbs.gcd (m : Int).natAbs : Nat)) : Int) = 1)) = false := by
            rw [Int.natAbs_natCast, Int.natAbs_natCast, decide_eq_true (by exact_mod_cast c3)]; rfl
          rw [eg]
          refine ⟨fun z => (nomatch z), fun _ => wx_nil ?_⟩
          exact rn_ret (by rw [hr, if_neg (by rintro (h | h); omega; exact h c3)])
        · have eg : (!decide (((((n : Int).natAbs.gcd (m : Int).natAbs : Nat)) : Int) = 1)) = true := by
            rw [Int.natAbs_natCast, Int.natAbs_natCast, decide_eq_false (fun h => c3 (by exact_mod_cast h))]; rfl
          rw [eg]
          exact ⟨fun _ => wx_raise ⟨rfl, by rw [hr, if_pos (.inr c3)]⟩, fun z => (nomatch z)⟩
  repeat infer_instance
  cases b with
  | false => exact ⟨fun z => (nomatch z), fun _ => ⟨fun z => (nomatch z), fun _ => wx_nil (go fun h => nomatch h.1)⟩⟩
  | true =>
    refine ⟨fun _ => ?_, fun z => (nomatch z)⟩
    repeat infer_instance
    by_cases c : n = 0
    · rw [decide_eq_true (by omega)]
      exact ⟨fun _ => wx_raise ⟨rfl, by unfold resT; rw [if_pos ⟨rfl, c⟩]⟩, fun z => (nomatch z)⟩
    · rw [decide_eq_false (by omega)]
      exact ⟨fun z => (nomatch z), fun _ => wx_nil (go fun h => c h.2)⟩
theorem w_read_number {l : List Nat} (ha : Asc l) (hl : l.length ≤ 1000) {S : Sto} : VX (F_read_number [tL l] S) (fun d S' => S' = S ∧ ∃ a b, res l = some (a, b) ∧ d = .tup [.int a, .int b]) (fun S' => S' = S ∧ res l = none) := by
  obtain ⟨ca, cl, cq⟩ := cut1_sub l
  have hres := res_T l
  unfold F_read_number m_read_number
  refine vx_fn [some (tL l), none, none, none, none, none, none] rfl ?_
  refine wx_seq (.inl (ws_asg (wv_m1 ?_)))
  repeat infer_instance
  refine ⟨_, rfl, ?_⟩
  repeat infer_instance
  refine g_part hl ?_
  refine ⟨_, rfl, ?_⟩
  simp only [set0, setS]
  obtain ⟨p, ep⟩ : ∃ p, p = (cut1 l).1 := ⟨_, rfl⟩
  obtain ⟨o, eo⟩ : ∃ o, o = (cut1 l).2 := ⟨_, rfl⟩
  rw [← ep, ← eo] at hres
  rw [← ep] at ca cl
  rw [← eo] at cq
  rw [← ep, ← eo]
  obtain ⟨b, eb⟩ : ∃ b, b = negL p := ⟨_, rfl⟩
  rw [← eb] at hres
  refine wx_seq (.inl (ws_set (wv_m1 ?_)))
  repeat infer_instance
  refine ⟨_, rfl, ?_⟩
  repeat infer_instance
  refine g_starts ?_
  rw [← eb]
  simp only [List.set]
  obtain ⟨os, ol⟩ := offN_sub (b := b) (l := p)
  have fin : VX (F__read_figures [tL (offN b p)] S) (fun d S1 => WX (rnT ([some (tL l), some (tL p), some (tL (lineL o)), some (tL (o.getD [])), some (.bl b), none, none].set 5 (some d)) S1) (fun _ S1 => S1 = S ∧ ∃ a b, res l = some (a, b) ∧ D.non = .tup [.int a, .int b]) (fun d S' => S' = S ∧ ∃ a b, res l = some (a, b) ∧ d = .tup [.int a, .int b]) (fun _ _ => False) (fun _ _ => False) (fun S' => S' = S ∧ res l = none)) (fun S' => S' = S ∧ res l = none) := by
    refine (w_read_figures (fun c hc => ha c (ca c (os c hc))) (by omega)).imp (fun d S1 ⟨e1, n, hn, ed⟩ => ?_) (fun S1 ⟨e1, hn⟩ => ⟨e1, by rw [hres, hn]⟩)
    subst e1 ed
    have hr : res l = resT b n o := by rw [hres, hn]
    rw [hr]
    exact rn_tail fun q hq => ⟨fun c hc => ha c ((cq q hq).1 c hc), by have := (cq q hq).2; omega⟩
  refine wx_seq (wx_set (vx_call ?_))
  repeat infer_instance
  cases b with
  | true =>
    refine ⟨fun _ => wv_syL ?_, fun z => (nomatch z)⟩
    repeat infer_instance
    refine ⟨p, 1, rfl, rfl, by omega, ?_⟩
    repeat infer_instance
    exact fin
  | false =>
    refine ⟨fun z => (nomatch z), fun _ => ?_⟩
    repeat infer_instance
    exact fin
end Gn

set_option maxHeartbeats 4000000
namespace Gn
open PySem PySem.Spec PyProof.Rows L2 Rf
local macro_rules
  | `(tactic| infer_instance) => `(tactic| with_reducible first
    | (apply kWS; first
        | apply ws_seq
        | apply ws_ret
        | apply ws_if
        | apply ws_ex
        | apply ws_asg
        | apply ws_par
        | apply ws_dput
        | apply ws_lput
        | apply ws_nil
        | apply ws_retN
        | (apply kSet; first
            | apply s0
            | apply s1
            | apply s2
            | apply s3
            | apply s4
            | apply s5
            | apply s6
            | apply s7
            | apply s8
            | apply s9
            | apply s10
            | apply s11
            | apply s12
            | apply s13
            | apply s14
            | apply s15
            | apply s16
            | apply s17
            | apply s18
            | apply s19
            | apply s20
            | apply s21
            | apply s22
            | apply s23
            | apply s24
            | apply s25
            ))
    | (apply kWV; first
        | (apply kVar; first
            | apply v0
            | apply v1
            | apply v2
            | apply v3
            | apply v4
            | apply v5
            | apply v6
            | apply v7
            | apply v8
            | apply v9
            | apply v10
            | apply v11
            | apply v12
            | apply v13
            | apply v14
            | apply v15
            | apply v16
            | apply v17
            | apply v18
            | apply v19
            | apply v20
            | apply v21
            | apply v22
            | apply v23
            | apply v24
            | apply v25
            )
        | apply wv_cons
        | apply wv_op
        | apply wv_ret
        | apply wv_nil
        | apply wv_call
        | apply wv_tup
        | apply wv_T
        | apply wv_bi
        | apply wv_tru
        | apply wv_un
        | apply wv_lst
        | apply wv_call0
        | apply wv_not
        | apply wv_and
        | apply wv_or
        | apply wv_if
        | apply wv_andV
        | apply wv_orV
        | apply wv_yes
        | apply wv_app
        | apply wv_dget
        | apply wv_dget2
        | apply wv_din
        | apply wv_dct1
        | apply wv_dct0
        | apply wv_sx2
        | apply wv_sxH
        | apply wv_sxL
        )
    | (apply kWG; first
        | apply g_add
        | apply g_sub
        | apply g_eq
        | apply g_lt
        | apply g_le
        | apply g_gt
        | apply g_ge
        | apply g_ne
        | apply g_ix0
        | apply g_ix1
        | apply g_ix2
        | apply g_nq0
        | apply g_nq1
        | apply g_iadd
        | apply g_isub
        | apply g_neg
        | apply g_not
        | apply g_gcd
        | apply g_abs
        | apply g_int
        | apply g_intb
        | apply g_lenT
        )
    | apply exI
    | apply Rf.exT
    | apply exTru
    | apply ifT
    | apply ifF
    | apply ifT'
    | apply ifF'
    | apply nf1
    | apply nf2
    | apply nf3
    | apply nf4
    | apply len0
    | apply len1
    | apply len2
    | apply len3
    | apply len4
    )

theorem wfn {n : Nat} {m : MS} {ds : List D} {S : Sto} {Q : D → Sto → Prop} (ρ : Rf.Env) (e : ds.map some ++ List.replicate (n - ds.length) none = ρ) (h : WS (m ρ S) (fun _ S1 => Q .non S1) Q (fun _ _ => False) (fun _ _ => False)) : WV (fnOf n m ds S) Q := wf_fn (e ▸ h)
def optP : Option (Int × Int) → D
  | none => .non
  | some x => .tup [.int x.1, .int x.2]
theorem w_law_read {l : List Nat} (ha : Asc l) (hl : l.length ≤ 1000) {S : Sto} {Q : D → Sto → Prop} (q : Q (optP (res l)) S) : WV (F__law_read [tL l] S) Q := by
  unfold F__law_read m__law_read
  refine wfn [some (tL l)] rfl ?_
  refine ws_tryX (vx_call ?_)
  repeat infer_instance
  refine (w_read_number ha hl).imp (fun d S1 ⟨e1, a, b, hr, ed⟩ => ?_) (fun S1 ⟨e1, hr⟩ => ?_)
  · subst e1 ed
    rw [hr] at q
    exact q
  · subst e1
    rw [hr] at q
    repeat infer_instance
    exact q
def ndF (d : D) : Option D := match d with
  | .str s => match s.cps.toList with
    | [c] => if 48 ≤ c ∧ c ≤ 57 then none else some d
    | _ => none
  | _ => none
theorem ndF_c (c : Nat) : ndF (tL [c]) = if 48 ≤ c ∧ c ≤ 57 then none else some (tL [c]) := rfl
theorem nd_len (l : List Nat) : 0 < ((l.map fun c => tL [c]).filterMap ndF).length ↔ ¬ Dig l := by
  constructor
  · intro h hd
    have : (l.map fun c => tL [c]).filterMap ndF = [] := by
      rw [List.filterMap_eq_nil_iff]
      intro x hx
      obtain ⟨c, hc, rfl⟩ := List.mem_map.mp hx
      rw [ndF_c, if_pos (hd c hc)]
    rw [this] at h
    exact absurd h (by simp)
  · intro h
    by_cases z : (l.map fun c => tL [c]).filterMap ndF = []
    · exact absurd (fun c hc => by
        have := List.filterMap_eq_nil_iff.mp z (tL [c]) (List.mem_map.mpr ⟨c, hc, rfl⟩)
        rw [ndF_c] at this
        by_cases hh : 48 ≤ c ∧ c ≤ 57
        · exact hh
        · rw [if_neg hh] at this; cases this) h
    · exact List.length_pos_iff.mpr z
theorem g_lenTR {i : Nat} {xs : List D} {S : Sto} (h : S[i]? = some (.lst xs)) {Q : D → Sto → Prop} (q : Q (.int xs.length) S) : WG (gLenT [.ref i] S) Q := ⟨.int xs.length, S, by
  show (match gLen [.ref i] S with | some z => some z | none => gLenS [.ref i] S) = _
  have : gLen [.ref i] S = some (.int xs.length, S) := by
    show (itemsOf S (.ref i)).map _ = _
    rw [show itemsOf S (.ref i) = some xs from by unfold itemsOf; dsimp only; rw [h]]
    rfl
  rw [this], q⟩
theorem fig_part {l : List Nat} (h1 : l ≠ []) (h2 : l.length ≤ 60) (h3 : Dig l) (h4 : ¬ (1 < l.length ∧ l.head? = some 48)) : ∃ n, figN l = some n ∧ l = TL.numL n := by
  obtain ⟨m, em, _⟩ := num_of _ l rfl h1 h3 fun hh => by
    have : ¬ 1 < l.length := fun z => h4 ⟨z, hh⟩
    match l, h1, hh with
    | [x], _, hh => have : x = 48 := by simpa using hh
                    rw [this]
    | _ :: _ :: _, _, _ => simp at this
  refine ⟨m, ?_, em⟩
  rw [em] at h2 ⊢
  exact figN_num h2
theorem w_part {e0 e1 e2 e4 e5 e6 : Option D} {l : List Nat} (ha : Asc l) (hl : l.length ≤ 1000) {S : Sto} {N B C : Rf.Env → Sto → Prop} {T : D → Sto → Prop} (h1 : figN l = none → ∀ S', Keep S S' → T .non S') (h2 : ∀ n, figN l = some n → l = TL.numL n → l.length ≤ 60 → ∀ S', Keep S S' → N [e0, e1, e2, some (tL l), e4, e5, e6] S') : WS (L2__law_meant [e0, e1, e2, some (tL l), e4, e5, e6] S) N T B C := by
  unfold L2__law_meant
  repeat infer_instance
  refine g_eqO (b := []) (by decide +kernel) ?_
  repeat infer_instance
  by_cases c1 : l = []
  · rw [decide_eq_true c1]
    repeat infer_instance
    exact h1 (figN_none fun n e => absurd (e.symm.trans c1) (TL.numL_ne n)) _ (Keep.refl _)
  · rw [decide_eq_false c1]
    repeat infer_instance
    refine g_lenS hl ?_
    repeat infer_instance
    by_cases c2 : (60 : Int) < (l.length : Int)
    · rw [decide_eq_true c2]
      repeat infer_instance
      exact h1 (figN_none fun n e => by omega) _ (Keep.refl _)
    · rw [decide_eq_false c2]
      repeat infer_instance
      refine wv_lc (l.map fun c => tL [c]) ndF (by rw [List.length_map]; omega) ?_
      refine wv_of (a := sqStr ⟨l.toArray⟩) rfl ?_
      refine ⟨fun _ _ => sqIs_str, fun x hx S1 k1 => ?_, fun i S2 k2 hi hs => ?_⟩
      · obtain ⟨c, hc, rfl⟩ := List.mem_map.mp hx
        refine ⟨_, rfl, ?_⟩
        unfold L0__law_meant L1__law_meant
        simp only [tN, set0, setS, wipeE]
        repeat infer_instance
        refine g_notIn (ha c hc) ?_
        repeat infer_instance
        refine ⟨Keep.refl _, fun h => ?_, fun h => ?_⟩
        · repeat infer_instance
          refine ⟨Keep.refl _, ?_⟩
          rw [ndF_c, if_neg (of_decide_eq_true h)]
        · have := of_decide_eq_false h
          rw [ndF_c, if_pos (by omega)]
      · repeat infer_instance
        refine g_lenTR hs ?_
        repeat infer_instance
        by_cases c3 : Dig l
        · rw [decide_eq_false (fun z => (nd_len l).mp (by omega) c3)]
          repeat infer_instance
          refine g_lenS hl ?_
          repeat infer_instance
          have fin : ¬ (1 < l.length ∧ l.head? = some 48) → ∀ S', Keep S S' → N [e0, e1, e2, some (tL l), e4, e5, e6] S' := fun h4 S' k' => by
            obtain ⟨n, hn, en⟩ := fig_part c1 (by omega) c3 h4
            exact h2 n hn en (by omega) S' k'
          by_cases c4 : (1 : Int) < (l.length : Int)
          · rw [decide_eq_true c4]
            refine ⟨fun _ => ?_, fun z => (nomatch z)⟩
            repeat infer_instance
            match l, c1, hl, c4, fin, h1 with
            | x :: r, _, hl, c4, fin, h1 =>
              refine g_ixS0 hl ?_
              repeat infer_instance
              refine g_eqO (b := [48]) (by decide +kernel) ?_
              repeat infer_instance
              by_cases c5 : [x] = [48]
              · rw [decide_eq_true c5]
                have hx : x = 48 := by simpa using c5
                refine ⟨fun _ => ?_, fun z => (nomatch z)⟩
                repeat infer_instance
                refine h1 (figN_none fun n e _ => ?_) _ k2
                have : n = 0 := num_head n (by rw [← e, hx]; rfl)
                rw [this, TL.numL_lt (by decide)] at e
                have := congrArg List.length e
                rw [List.length_singleton] at this
                omega
              · rw [decide_eq_false c5]
                refine ⟨fun z => (nomatch z), fun _ => ws_nil (fin (fun h => c5 ?_) _ k2)⟩
                have : x = 48 := by simpa using h.2
                rw [this]
          · rw [decide_eq_false c4]
            exact ⟨fun z => (nomatch z), fun _ => ⟨fun z => (nomatch z), fun _ => ws_nil (fin (fun h => c4 (by omega)) _ k2)⟩⟩
        · rw [decide_eq_true (by have := (nd_len l).mpr c3; omega)]
          repeat infer_instance
          exact h1 (figN_none fun n e _ => c3 (by rw [e]; exact num_dig n)) _ k2
end Gn

set_option maxHeartbeats 4000000
namespace Gn
open PySem PySem.Spec PyProof.Rows L2 Rf
local macro_rules
  | `(tactic| infer_instance) => `(tactic| with_reducible first
    | (apply kWS; first
        | apply ws_seq
        | apply ws_ret
        | apply ws_if
        | apply ws_ex
        | apply ws_asg
        | apply ws_par
        | apply ws_dput
        | apply ws_lput
        | apply ws_nil
        | apply ws_retN
        | (apply kSet; first
            | apply s0
            | apply s1
            | apply s2
            | apply s3
            | apply s4
            | apply s5
            | apply s6
            | apply s7
            | apply s8
            | apply s9
            | apply s10
            | apply s11
            | apply s12
            | apply s13
            | apply s14
            | apply s15
            | apply s16
            | apply s17
            | apply s18
            | apply s19
            | apply s20
            | apply s21
            | apply s22
            | apply s23
            | apply s24
            | apply s25
            ))
    | (apply kWV; first
        | (apply kVar; first
            | apply v0
            | apply v1
            | apply v2
            | apply v3
            | apply v4
            | apply v5
            | apply v6
            | apply v7
            | apply v8
            | apply v9
            | apply v10
            | apply v11
            | apply v12
            | apply v13
            | apply v14
            | apply v15
            | apply v16
            | apply v17
            | apply v18
            | apply v19
            | apply v20
            | apply v21
            | apply v22
            | apply v23
            | apply v24
            | apply v25
            )
        | apply wv_cons
        | apply wv_op
        | apply wv_ret
        | apply wv_nil
        | apply wv_call
        | apply wv_tup
        | apply wv_T
        | apply wv_bi
        | apply wv_tru
        | apply wv_un
        | apply wv_lst
        | apply wv_call0
        | apply wv_not
        | apply wv_and
        | apply wv_or
        | apply wv_if
        | apply wv_andV
        | apply wv_orV
        | apply wv_yes
        | apply wv_app
        | apply wv_dget
        | apply wv_dget2
        | apply wv_din
        | apply wv_dct1
        | apply wv_dct0
        | apply wv_sx2
        | apply wv_sxH
        | apply wv_sxL
        )
    | (apply kWG; first
        | apply g_add
        | apply g_sub
        | apply g_eq
        | apply g_lt
        | apply g_le
        | apply g_gt
        | apply g_ge
        | apply g_ne
        | apply g_ix0
        | apply g_ix1
        | apply g_ix2
        | apply g_nq0
        | apply g_nq1
        | apply g_iadd
        | apply g_isub
        | apply g_neg
        | apply g_not
        | apply g_gcd
        | apply g_abs
        | apply g_int
        | apply g_intb
        | apply g_lenT
        )
    | apply exI
    | apply Rf.exT
    | apply exTru
    | apply ifT
    | apply ifF
    | apply ifT'
    | apply ifF'
    | apply nf1
    | apply nf2
    | apply nf3
    | apply nf4
    | apply len0
    | apply len1
    | apply len2
    | apply len3
    | apply len4
    )

theorem neg_cut (l : List Nat) : negL (cut1 l).1 = negL l := by
  cases l with
  | nil => rfl
  | cons c r =>
    unfold cut1
    by_cases h : c = 47
    · rw [if_pos h, h]; rfl
    · rw [if_neg h]; rfl
theorem off_cut (l : List Nat) : cut1 (offN (negL l) l) = (offN (negL l) (cut1 l).1, (cut1 l).2) := by
  cases h : negL l with
  | false => rfl
  | true =>
    cases l with
    | nil => cases h
    | cons c r =>
      have hc : c = 45 := by
        unfold negL at h
        simpa using h
      subst hc
      have e : cut1 (45 :: r) = (45 :: (cut1 r).1, (cut1 r).2) := by rw [cut1, if_neg (by decide)]
      rw [e]
      rfl
theorem sp_cut (l : List Nat) : spS l = match (cut1 l).2 with | none => [(cut1 l).1] | some q => (cut1 l).1 :: spS q := by
  have hno := cut1_no l
  have he := cut1_eq l
  cases hq : (cut1 l).2 with
  | none =>
    rw [hq, List.append_nil] at he
    dsimp only
    have := TL.spl_last1 (s := 47) (S := []) (acc := []) hno
    unfold spS
    conv => lhs; rw [he]
    exact this
  | some q =>
    rw [hq] at he
    dsimp only at he ⊢
    have := TL.spl_part1 (s := 47) (S := []) (rest := q) (acc := []) hno
    unfold spS
    conv => lhs; rw [he]
    exact this
theorem sp_pos (l : List Nat) : 1 ≤ (spS l).length := by
  rw [sp_cut]
  split <;> simp
theorem fig_no47 {q q' : List Nat} (h : (cut1 q).2 = some q') : figN q = none := figN_none fun n e _ => by
  have he := cut1_eq q
  rw [h] at he
  dsimp only at he
  have := num_dig n 47 (by rw [← e, he]; exact List.mem_append_right _ List.mem_cons_self)
  omega
theorem take_neg (l : List Nat) : decide (l.take 1 = [45]) = negL l := by
  cases l with
  | nil => rfl
  | cons c r =>
    show decide ([c] = [45]) = (some c == some 45)
    by_cases h : c = 45
    · rw [h]; rfl
    · rw [decide_eq_false (fun z => h (by simpa using z))]
      simp [h]
theorem g_intTb {b : Bool} {S : Sto} {Q : D → Sto → Prop} (q : Q (.int (if b = true then 1 else 0)) S) : WG (gIntT [.bl b] S) Q := by
  cases b with
  | true => exact ⟨.int 1, S, rfl, q⟩
  | false => exact ⟨.int 0, S, rfl, q⟩
theorem g_split {l : List Nat} (hl : l.length ≤ 1000) {S : Sto} {Q : D → Sto → Prop} (q : Q (.ref S.length) (S ++ [.lst ((spS l).map tL)])) : WG (gSplit ⟨l.toArray⟩ (.str (Str.ofString "/")) S) Q := by
  refine ⟨.ref S.length, S ++ [.lst ((spS l).map tL)], ?_, q⟩
  unfold gSplit
  dsimp only
  rw [if_pos ⟨by decide +kernel, by rw [len_L]; omega⟩, split_L, List.map_map]
  rfl
theorem ws_cut {a b : MS} {ρ : Rf.Env} {S : Sto} {N B C : Rf.Env → Sto → Prop} {T : D → Sto → Prop} (M : Rf.Env → Sto → Prop) (h : WS (a ρ S) M T B C) (k : ∀ ρ1 S1, M ρ1 S1 → WS (b ρ1 S1) N T B C) : WS (sSeq a b ρ S) N T B C := ws_seq (h.imp k (fun _ _ h => h) (fun _ _ h => h) (fun _ _ h => h))
theorem g_catL {i j : Nat} {xs ys : List D} {S : Sto} {Q : D → Sto → Prop} (h1 : S[i]? = some (.lst xs)) (h2 : S[j]? = some (.lst ys)) (hl : xs.length + ys.length ≤ 1000000) (q : Q (.ref S.length) (S ++ [.lst (xs ++ ys)])) : WG (gAdd (.ref i) (.ref j) S) Q := ⟨_, _, by
  show gCat (.ref i) (.ref j) S = _
  unfold gCat
  dsimp only
  rw [h1, h2]
  dsimp only
  rw [if_pos hl], q⟩
theorem g_int1 {S : Sto} {Q : D → Sto → Prop} (q : Q (.int 1) S) : WG (gIntT [.str (Str.ofString "1")] S) Q := ⟨.int 1, S, by
  show (if (Str.ofString "1").length ≤ 640 then (intText? (Str.ofString "1")).map fun n => (D.int n, S) else none) = _
  rw [if_pos (by decide +kernel), show intText? (Str.ofString "1") = some 1 from by decide +kernel]; rfl, q⟩
theorem num_lt : ∀ n : Nat, n < 10 ^ (TL.numL n).length := by
  intro n
  induction n using Nat.strongRecOn with
  | _ n ih =>
    by_cases c : n < 10
    · rw [TL.numL_lt c]; simpa using c
    · have := ih (n / 10) (by omega)
      rw [TL.numL_step (by omega), List.length_append, List.length_singleton, Nat.pow_succ]
      omega
theorem num_sz {n : Nat} (h : (TL.numL n).length ≤ 60) : szI 200 (n : Int) := by
  have h1 := num_lt n
  have h2 : 10 ^ (TL.numL n).length ≤ 10 ^ 60 := Nat.pow_le_pow_right (by decide) h
  have h3 : (10 : Nat) ^ 60 < 2 ^ 200 := by decide
  unfold szI
  rw [Int.natAbs_natCast]
  omega
theorem sq_refN {i : Nat} {xs : List D} {S : Sto} (h : S[i]? = some (.lst xs)) : sqOf S (.ref i) = some (sqRef i) := by unfold sqOf; dsimp only; rw [h]
abbrev meT : MS := (sSeq (sIf (mOr (mT (mOp gLt (mVar 5) (mRet (.int 1)))) (mOr (mAnd (mT (mOp gEq (mBi gLenT (mCons (mVar 2) mNil)) (mRet (.int 2)))) (mT (mOp gEq (mVar 5) (mRet (.int 1))))) (mOr (mT (mOp gNe (mCall F__law_gcd (mCons (mVar 4) (mCons (mVar 5) mNil))) (mRet (.int 1)))) (mAnd (mTru (mVar 1)) (mT (mOp gEq (mVar 4) (mRet (.int 0)))))))) (sRet (mRet .non)) sNil)
    (sRet (mTup (mCons (mOp gIx (mLst (mCons (mVar 4) (mCons (mUn gNeg (mVar 4)) mNil))) (mBi gIntT (mCons (mVar 1) mNil))) (mCons (mVar 5) mNil)))))
theorem meant_tail {e0 x3 e6 : Option D} {b : Bool} {n m pi : Nat} {xs : List D} {S : Sto} (hs : S[pi]? = some (.lst xs)) (hm : szI 200 (m : Int)) {r : Option (Int × Int)} (hr : r = if m < 1 ∨ (xs.length = 2 ∧ m = 1) ∨ Nat.gcd n m ≠ 1 ∨ (b = true ∧ n = 0) then none else some (sgnN b n, (m : Int))) {Q : D → Sto → Prop} {N B C : Rf.Env → Sto → Prop} (q : ∀ S', Keep S S' → Q (optP r) S') : WS (meT [e0, some (.bl b), some (.ref pi), x3, some (.int n), some (.int m), e6] S) N Q B C := by
  have bad : (m < 1 ∨ (xs.length = 2 ∧ m = 1) ∨ Nat.gcd n m ≠ 1 ∨ (b = true ∧ n = 0)) → Q .non S := fun h => by
    have := q S (Keep.refl _)
    rw [hr, if_pos h] at this
    exact this
  repeat infer_instance
  by_cases c1 : (m : Int) < 1
  · rw [decide_eq_true c1]
    repeat infer_instance
    exact bad (.inl (by omega))
  · rw [decide_eq_false c1]
    repeat infer_instance
    refine g_lenTR hs ?_
    repeat infer_instance
    have rest : ¬ (xs.length = 2 ∧ m = 1) → WV (mOr (mT (mOp gNe (mCall F__law_gcd (mCons (mVar 4) (mCons (mVar 5) mNil))) (mRet (.int 1)))) (mAnd (mTru (mVar 1)) (mT (mOp gEq (mVar 4) (mRet (.int 0))))) [e0, some (.bl b), some (.ref pi), x3, some (.int n), some (.int m), e6] S) fun k S1 => S1 = S ∧ k = decide (Nat.gcd n m ≠ 1 ∨ (b = true ∧ n = 0)) := fun c2 => by
      repeat infer_instance
      refine wv_of (e_gcd (n := 200) hm _) ?_
      repeat infer_instance
      by_cases c3 : Nat.gcd n m = 1
      · have eg : (!decide ((((n : Int).natAbs.gcd (m : Int).natAbs : Nat) : Int) = 1)) = false := by
          rw [Int.natAbs_natCast, Int.natAbs_natCast, decide_eq_true (by exact_mod_cast c3)]; rfl
        rw [eg]
        refine ⟨fun _ => ?_, fun z => (nomatch z)⟩
        repeat infer_instance
        cases b with
        | false =>
          refine ⟨fun z => (nomatch z), fun _ => ⟨rfl, ?_⟩⟩
          rw [decide_eq_false (by rintro (h | h); exact h c3; exact nomatch h.1)]
        | true =>
          refine ⟨fun _ => ?_, fun z => (nomatch z)⟩
          repeat infer_instance
          refine ⟨rfl, ?_⟩
          by_cases c : n = 0
          · rw [decide_eq_true (show ((n : Nat) : Int) = 0 by omega), decide_eq_true (.inr ⟨rfl, c⟩)]
          · rw [decide_eq_false (show ¬ ((n : Nat) : Int) = 0 by omega), decide_eq_false (by rintro (h | h); exact h c3; exact c h.2)]
      · have eg : (!decide ((((n : Int).natAbs.gcd (m : Int).natAbs : Nat) : Int) = 1)) = true := by
          rw [Int.natAbs_natCast, Int.natAbs_natCast, decide_eq_false (fun h => c3 (by exact_mod_cast h))]; rfl
        rw [eg]
        refine ⟨fun z => (nomatch z), fun _ => ⟨rfl, ?_⟩⟩
        rw [decide_eq_true (.inl c3)]
    have fin : ¬ (xs.length = 2 ∧ m = 1) → WV (mOr (mT (mOp gNe (mCall F__law_gcd (mCons (mVar 4) (mCons (mVar 5) mNil))) (mRet (.int 1)))) (mAnd (mTru (mVar 1)) (mT (mOp gEq (mVar 4) (mRet (.int 0))))) [e0, some (.bl b), some (.ref pi), x3, some (.int n), some (.int m), e6] S) fun k S1 => (k = true → WS (sRet (mRet .non) [e0, some (.bl b), some (.ref pi), x3, some (.int n), some (.int m), e6] S1) (fun ρ1 S1 => WS (sRet (mTup (mCons (mOp gIx (mLst (mCons (mVar 4) (mCons (mUn gNeg (mVar 4)) mNil))) (mBi gIntT (mCons (mVar 1) mNil))) (mCons (mVar 5) mNil))) ρ1 S1) N Q B C) Q B C) ∧ (k = false → WS (sNil [e0, some (.bl b), some (.ref pi), x3, some (.int n), some (.int m), e6] S1) (fun ρ1 S1 => WS (sRet (mTup (mCons (mOp gIx (mLst (mCons (mVar 4) (mCons (mUn gNeg (mVar 4)) mNil))) (mBi gIntT (mCons (mVar 1) mNil))) (mCons (mVar 5) mNil))) ρ1 S1) N Q B C) Q B C) := fun c2 => by
      refine (rest c2).imp fun k S1 ⟨e1, ek⟩ => ?_
      subst e1
      refine ⟨fun hk => ?_, fun hk => ws_nil ?_⟩
      · repeat infer_instance
        refine bad (.inr (.inr ?_))
        rw [hk] at ek
        exact of_decide_eq_true ek.symm
      · rw [hk] at ek
        have hn := of_decide_eq_false ek.symm
        have hr' : r = some (sgnN b n, (m : Int)) := by
          rw [hr, if_neg (by rintro (h | h | h); omega; exact c2 h; exact hn h)]
        repeat infer_instance
        have kB := Keep.app S1 [O.lst [D.int (n : Int), D.int (-(n : Int))]]
        have gB := get_new (S := S1) (o := O.lst [D.int (n : Int), D.int (-(n : Int))])
        have qq := q _ kB
        rw [hr'] at qq
        refine g_intTb ?_
        cases b with
        | true =>
          refine g_ixR (k := 1) gB rfl ?_
          repeat infer_instance
          exact qq
        | false =>
          refine g_ixR (k := 0) gB rfl ?_
          repeat infer_instance
          exact qq
    by_cases c5 : xs.length = 2
    · rw [decide_eq_true (show (xs.length : Int) = 2 by omega)]
      refine ⟨fun _ => ?_, fun z => (nomatch z)⟩
      repeat infer_instance
      by_cases c6 : m = 1
      · rw [decide_eq_true (show ((m : Nat) : Int) = 1 by omega)]
        refine ⟨fun z => (nomatch z), fun _ => ⟨fun _ => ?_, fun z => (nomatch z)⟩⟩
        repeat infer_instance
        exact bad (.inr (.inl ⟨c5, c6⟩))
      · rw [decide_eq_false (show ¬ ((m : Nat) : Int) = 1 by omega)]
        exact ⟨fun _ => fin fun h => c6 h.2, fun z => (nomatch z)⟩
    · rw [decide_eq_false (show ¬ (xs.length : Int) = 2 by omega)]
      refine ⟨fun z => (nomatch z), fun _ => ⟨fun _ => fin fun h => c5 h.1, fun z => (nomatch z)⟩⟩
theorem parts_loop {e0 : Option D} {b : Bool} {pi : Nat} {ps : List (List Nat)} {S : Sto} (hs : S[pi]? = some (.lst (ps.map tL))) (hp : ∀ p ∈ ps, Asc p ∧ p.length ≤ 1000) (hl : ps.length < 1000) {N B C : Rf.Env → Sto → Prop} {T : D → Sto → Prop} (hbad : ∀ p ∈ ps, figN p = none → ∀ S', Keep S S' → T .non S')
    (q : ∀ x3 S', Keep S S' → (∀ p ∈ ps, ∃ n, figN p = some n ∧ p = TL.numL n ∧ p.length ≤ 60) → N [e0, some (.bl b), some (.ref pi), x3, none, none, none] S') : WS (sFor (tN 3) (mSeq (mVar 2)) L2__law_meant [e0, some (.bl b), some (.ref pi), none, none, none, none] S) N T B C := by
  refine ws_for (ps.map tL) (fun k ρ S1 => Keep S S1 ∧ (∃ x3, ρ = [e0, some (.bl b), some (.ref pi), x3, none, none, none]) ∧ ∀ i < k, ∀ p, ps[i]? = some p → ∃ n, figN p = some n ∧ p = TL.numL n ∧ p.length ≤ 60) (by rw [List.length_map]; omega) ?_ (fun k y ρ S1 hy hI => ?_) (fun ρ S1 hI => ?_)
  · refine wv_seq ?_
    repeat infer_instance
    exact ⟨_, sq_refN hs, ⟨Keep.refl _, ⟨_, rfl⟩, fun i hi => absurd hi (by omega)⟩, fun _ _ _ hI => sqIs_ref (hI.1 _ _ hs)⟩
  · obtain ⟨k1, ⟨x3, rfl⟩, hd⟩ := hI
    rw [List.getElem?_map] at hy
    cases hz : ps[k]? with
    | none => rw [hz] at hy; cases hy
    | some p =>
      rw [hz] at hy
      cases hy
      obtain ⟨pa, pl⟩ := hp p (List.mem_of_getElem? hz)
      refine ⟨_, rfl, ?_⟩
      simp only [tN, set0, setS]
      refine w_part pa pl (fun hn S' k' => hbad p (List.mem_of_getElem? hz) hn S' (k1.trans k')) (fun n hn en el S' k' => ⟨k1.trans k', ⟨_, rfl⟩, fun i hi p' hp' => ?_⟩)
      by_cases ci : i = k
      · subst ci
        rw [hz] at hp'
        cases hp'
        exact ⟨n, hn, en, el⟩
      · exact hd i (by omega) p' hp'
  · obtain ⟨k1, ⟨x3, rfl⟩, hd⟩ := hI
    refine q x3 S1 k1 fun p hm => ?_
    obtain ⟨i, hi, rfl⟩ := List.getElem_of_mem hm
    exact hd i (by rw [List.length_map]; exact hi) _ (List.getElem?_eq_getElem hi)
theorem w_law_meant {l : List Nat} (ha : Asc l) (hl : l.length ≤ 1000) {S : Sto} {Q : D → Sto → Prop} (q : ∀ S', Keep S S' → Q (optP (res l)) S') : WV (F__law_meant [tL l] S) Q := by
  obtain ⟨ca, cl, cq⟩ := cut1_sub l
  have hres := res_T l
  rw [neg_cut] at hres
  have hsp := sp_cut (offN (negL l) l)
  rw [off_cut] at hsp
  dsimp only at hsp
  obtain ⟨b, eb⟩ : ∃ b, b = negL l := ⟨_, rfl⟩
  obtain ⟨r, er⟩ : ∃ r, r = offN (negL l) (cut1 l).1 := ⟨_, rfl⟩
  obtain ⟨o, eo⟩ : ∃ o, o = (cut1 l).2 := ⟨_, rfl⟩
  have ra : Asc r := fun c hc => ha c (ca c (offN_sub.1 c (by rw [← er]; exact hc)))
  have rl : r.length ≤ 1000 := by rw [er]; exact Nat.le_trans offN_sub.2 (by omega)
  have wa : Asc (offN b l) := fun c hc => ha c (offN_sub.1 c hc)
  have wl : (offN b l).length ≤ 1000 := Nat.le_trans offN_sub.2 hl
  rw [← er, ← eo] at hsp hres
  rw [← eo] at cq
  rw [← eb] at hsp hres
  clear er eo ca cl
  unfold F__law_meant m__law_meant
  refine wfn [some (tL l), none, none, none, none, none, none] rfl ?_
  repeat infer_instance
  refine wv_syH ?_
  repeat infer_instance
  refine ⟨l, 1, rfl, rfl, hl, ?_⟩
  repeat infer_instance
  refine g_eqO (b := [45]) (by decide +kernel) ?_
  rw [take_neg, ← eb]
  repeat infer_instance
  refine wv_m1 (wv_syL ?_)
  repeat infer_instance
  refine g_intTb ?_
  refine ⟨l, if b = true then 1 else 0, rfl, by cases b <;> rfl, hl, ?_⟩
  have eoff : l.drop (if b = true then 1 else 0) = offN b l := by cases b <;> rfl
  rw [eoff]
  refine ⟨_, rfl, ?_⟩
  repeat infer_instance
  refine g_split wl ?_
  have kA := Keep.app S [O.lst ((spS (offN b l)).map tL)]
  have gA := get_new (S := S) (o := O.lst ((spS (offN b l)).map tL))
  generalize S ++ [O.lst ((spS (offN b l)).map tL)] = S1 at kA gA ⊢
  generalize S.length = pi at gA ⊢
  repeat infer_instance
  refine g_lenTR gA ?_
  rw [List.length_map]
  repeat infer_instance
  cases ho : o with
  | none =>
    rw [ho] at hsp hres
    dsimp only at hsp
    rw [hsp] at gA ⊢
    rw [decide_eq_false (show ¬ (2 : Int) < (([r] : List (List Nat)).length : Int) by show ¬ (2 : Int) < 1; decide)]
    refine ⟨fun z => (nomatch z), fun _ => ws_nil ?_⟩
    repeat infer_instance
    refine parts_loop gA (fun p hp => by rw [List.mem_singleton.mp hp]; exact ⟨ra, rl⟩) (by show 1 < 1000; decide) (fun p hp hn S' k' => ?_) (fun x3 S2 k2 hall => ?_)
    · rw [List.mem_singleton.mp hp] at hn
      have := q S' (kA.trans k')
      rw [hres, hn] at this
      exact this
    · obtain ⟨n, hn, en, el⟩ := hall r List.mem_cons_self
      have hg2 := k2 _ _ gA
      have k12 := kA.trans k2
      have qq := fun S' k' => q S' (k12.trans k')
      rw [hres, hn] at qq
      subst en
      repeat infer_instance
      refine g_ixR (k := 0) hg2 rfl ?_
      repeat infer_instance
      refine g_intT el ?_
      repeat infer_instance
      have kC := Keep.app S2 [O.lst [D.str (Str.ofString "1")]]
      have gC := get_new (S := S2) (o := O.lst [D.str (Str.ofString "1")])
      have hg3 := kC _ _ hg2
      generalize S2 ++ [O.lst [D.str (Str.ofString "1")]] = S3 at kC gC hg3 ⊢
      generalize S2.length = ji at gC ⊢
      refine g_catL hg3 gC (by show 1 + 1 ≤ 1000000; decide) ?_
      have kD := Keep.app S3 [O.lst ([TL.numL n].map tL ++ [D.str (Str.ofString "1")])]
      have gD := get_new (S := S3) (o := O.lst ([TL.numL n].map tL ++ [D.str (Str.ofString "1")]))
      have hg4 := kD _ _ hg3
      generalize S3 ++ [O.lst ([TL.numL n].map tL ++ [D.str (Str.ofString "1")])] = S4 at kD gD hg4 ⊢
      generalize S3.length = jj at gD ⊢
      repeat infer_instance
      refine g_ixR (k := 1) gD rfl ?_
      repeat infer_instance
      refine g_int1 ?_
      refine meant_tail (m := 1) hg4 (by unfold szI; decide) ?_ fun S' k' => qq S' ((kC.trans kD).trans k')
      show resT b n none = _
      unfold resT
      by_cases c : b = true ∧ n = 0
      · rw [if_pos c, if_pos (.inr (.inr (.inr c)))]
      · rw [if_neg c, if_neg (by rintro (h | h | h | h); exact absurd h (by decide); exact absurd h.1 (by show ¬ 1 = 2; decide); exact h (Nat.gcd_one_right n); exact c h)]
        rfl
  | some q' =>
    rw [ho] at hsp hres
    dsimp only at hsp
    have hsq := sp_cut q'
    have heq := cut1_eq q'
    obtain ⟨q'a, q'l⟩ := cq q' ho
    have qa : Asc q' := fun c hc => ha c (q'a c hc)
    have ql : q'.length ≤ 1000 := by omega
    cases h2 : (cut1 q').2 with
    | some q2 =>
      rw [h2] at hsq
      dsimp only at hsq
      have := sp_pos q2
      have hl3 : (2 : Int) < ((spS (offN b l)).length : Int) := by
        rw [hsp, List.length_cons, hsq, List.length_cons]; omega
      rw [decide_eq_true hl3]
      refine ⟨fun _ => ?_, fun z => (nomatch z)⟩
      repeat infer_instance
      have hn : res l = none := by
        rw [hres]
        cases figN r with
        | none => rfl
        | some n =>
          dsimp only
          unfold resT
          split
          · rfl
          · dsimp only; rw [fig_no47 h2]
      have := q _ kA
      rw [hn] at this
      exact this
    | none =>
      rw [h2, List.append_nil] at heq
      rw [h2, ← heq] at hsq
      dsimp only at hsq
      rw [hsq] at hsp
      rw [hsp] at gA ⊢
      rw [decide_eq_false (show ¬ (2 : Int) < (([r, q'] : List (List Nat)).length : Int) by show ¬ (2 : Int) < 2; decide)]
      refine ⟨fun z => (nomatch z), fun _ => ws_nil ?_⟩
      repeat infer_instance
      refine parts_loop gA (fun p hp => ?_) (by show 2 < 1000; decide) (fun p hp hn S' k' => ?_) (fun x3 S2 k2 hall => ?_)
      · rcases List.mem_cons.mp hp with rfl | hp
        · exact ⟨ra, rl⟩
        · rw [List.mem_singleton.mp hp]; exact ⟨qa, ql⟩
      · have hr0 : res l = none := by
          rw [hres]
          rcases List.mem_cons.mp hp with rfl | hp
          · rw [hn]
          · rw [List.mem_singleton.mp hp] at hn
            cases figN r with
            | none => rfl
            | some n =>
              dsimp only
              unfold resT
              split
              · rfl
              · dsimp only; rw [hn]
        have := q S' (kA.trans k')
        rw [hr0] at this
        exact this
      · obtain ⟨n, hn, en, el⟩ := hall r List.mem_cons_self
        obtain ⟨m, hm, em, eml⟩ := hall q' (List.mem_cons_of_mem _ List.mem_cons_self)
        have hg2 := k2 _ _ gA
        have k12 := kA.trans k2
        have qq := fun S' k' => q S' (k12.trans k')
        rw [hres, hn] at qq
        have hr' : resT b n (some q') = if b = true ∧ n = 0 then none else if m < 2 ∨ Nat.gcd n m ≠ 1 then none else some (sgnN b n, (m : Int)) := by
          unfold resT
          dsimp only
          rw [hm]
        clear hsp hsq heq hres ho h2 hall
        subst en em
        repeat infer_instance
        refine g_ixR (k := 0) hg2 rfl ?_
        repeat infer_instance
        refine g_intT el ?_
        repeat infer_instance
        have kC := Keep.app S2 [O.lst [D.str (Str.ofString "1")]]
        have gC := get_new (S := S2) (o := O.lst [D.str (Str.ofString "1")])
        have hg3 := kC _ _ hg2
        generalize S2 ++ [O.lst [D.str (Str.ofString "1")]] = S3 at kC gC hg3 ⊢
        generalize S2.length = ji at gC ⊢
        refine g_catL hg3 gC (by show 2 + 1 ≤ 1000000; decide) ?_
        have kD := Keep.app S3 [O.lst ([TL.numL n, TL.numL m].map tL ++ [D.str (Str.ofString "1")])]
        have gD := get_new (S := S3) (o := O.lst ([TL.numL n, TL.numL m].map tL ++ [D.str (Str.ofString "1")]))
        have hg4 := kD _ _ hg3
        generalize S3 ++ [O.lst ([TL.numL n, TL.numL m].map tL ++ [D.str (Str.ofString "1")])] = S4 at kD gD hg4 ⊢
        generalize S3.length = jj at gD ⊢
        repeat infer_instance
        refine g_ixR (k := 1) gD rfl ?_
        repeat infer_instance
        refine g_intT eml ?_
        refine meant_tail (m := m) hg4 (num_sz eml) ?_ fun S' k' => qq S' ((kC.trans kD).trans k')
        show resT b n (some (TL.numL m)) = _
        rw [hr']
        have h22 : ([TL.numL n, TL.numL m].map tL).length = 2 := rfl
        rw [h22]
        by_cases c : b = true ∧ n = 0
        · rw [if_pos c, if_pos (.inr (.inr (.inr c)))]
        · rw [if_neg c]
          by_cases c2 : m < 2 ∨ Nat.gcd n m ≠ 1
          · rw [if_pos c2, if_pos (by
              rcases c2 with h | h
              · by_cases h1 : m < 1
                · exact .inl h1
                · exact .inr (.inl ⟨rfl, by omega⟩)
              · exact .inr (.inr (.inl h)))]
          · rw [if_neg c2, if_neg (by
              rintro (h | h | h | h)
              · exact c2 (.inl (by omega))
              · exact c2 (.inl (by omega))
              · exact c2 (.inr h)
              · exact c h)]
end Gn

set_option maxHeartbeats 4000000
namespace Gn
open PySem PySem.Spec PyProof.Rows L2 Rf
local macro_rules
  | `(tactic| infer_instance) => `(tactic| with_reducible first
    | (apply kWS; first
        | apply ws_seq
        | apply ws_ret
        | apply ws_if
        | apply ws_ex
        | apply ws_asg
        | apply ws_par
        | apply ws_dput
        | apply ws_lput
        | apply ws_nil
        | apply ws_retN
        | (apply kSet; first
            | apply s0
            | apply s1
            | apply s2
            | apply s3
            | apply s4
            | apply s5
            | apply s6
            | apply s7
            | apply s8
            | apply s9
            | apply s10
            | apply s11
            | apply s12
            | apply s13
            | apply s14
            | apply s15
            | apply s16
            | apply s17
            | apply s18
            | apply s19
            | apply s20
            | apply s21
            | apply s22
            | apply s23
            | apply s24
            | apply s25
            ))
    | (apply kWV; first
        | (apply kVar; first
            | apply v0
            | apply v1
            | apply v2
            | apply v3
            | apply v4
            | apply v5
            | apply v6
            | apply v7
            | apply v8
            | apply v9
            | apply v10
            | apply v11
            | apply v12
            | apply v13
            | apply v14
            | apply v15
            | apply v16
            | apply v17
            | apply v18
            | apply v19
            | apply v20
            | apply v21
            | apply v22
            | apply v23
            | apply v24
            | apply v25
            )
        | apply wv_cons
        | apply wv_op
        | apply wv_ret
        | apply wv_nil
        | apply wv_call
        | apply wv_tup
        | apply wv_T
        | apply wv_bi
        | apply wv_tru
        | apply wv_un
        | apply wv_lst
        | apply wv_call0
        | apply wv_not
        | apply wv_and
        | apply wv_or
        | apply wv_if
        | apply wv_andV
        | apply wv_orV
        | apply wv_yes
        | apply wv_app
        | apply wv_dget
        | apply wv_dget2
        | apply wv_din
        | apply wv_dct1
        | apply wv_dct0
        | apply wv_sx2
        | apply wv_sxH
        | apply wv_sxL
        )
    | (apply kWG; first
        | apply g_add
        | apply g_sub
        | apply g_eq
        | apply g_lt
        | apply g_le
        | apply g_gt
        | apply g_ge
        | apply g_ne
        | apply g_ix0
        | apply g_ix1
        | apply g_ix2
        | apply g_nq0
        | apply g_nq1
        | apply g_iadd
        | apply g_isub
        | apply g_neg
        | apply g_not
        | apply g_gcd
        | apply g_abs
        | apply g_int
        | apply g_intb
        | apply g_lenT
        )
    | apply exI
    | apply Rf.exT
    | apply exTru
    | apply ifT
    | apply ifF
    | apply ifT'
    | apply ifF'
    | apply nf1
    | apply nf2
    | apply nf3
    | apply nf4
    | apply len0
    | apply len1
    | apply len2
    | apply len3
    | apply len4
    )

theorem e_ten {ρ : Rf.Env} {S : Sto} {me : M D} {t : Int} (h : me ρ S = some (.val (.int t) S)) : ∃ m : Nat, m < 2 ^ 140 ∧ mBi gIntT (mCons (mOp gAdd (mRet (.str (PySem.Str.ofString "1"))) (mOp gMulT (mRet (.str (PySem.Str.ofString "0"))) (mOp gMod me (mRet (.int 40))))) mNil) ρ S = some (.val (.int (m : Int)) S) := by
  have b := fm (x := t) (m := 40) (by decide)
  have mt := mod_ii (i := t) (j := 40) (S := S) (by decide)
  obtain ⟨n, hn⟩ : ∃ n : Nat, t.fmod 40 = (n : Int) := ⟨(t.fmod 40).toNat, by omega⟩
  rw [hn] at mt b
  obtain ⟨m, e1, e2, e3⟩ := ten_text ⟨n, by omega⟩
  dsimp only at e1 e3
  refine ⟨m, e2, ?_⟩
  have len0 : (PySem.Str.ofString "0").length = 1 := by decide +kernel
  have g1 : gMulT (.str (PySem.Str.ofString "0")) (.int (n : Int)) S = some (.str (Txt.mul (PySem.Str.ofString "0") (n : Int)), S) := by
    have x1 : gMul (.str (PySem.Str.ofString "0")) (.int (n : Int)) S = none := rfl
    have x2 : gRep (.str (PySem.Str.ofString "0")) (.int (n : Int)) S = some (.str (Txt.mul (PySem.Str.ofString "0") (n : Int)), S) := by
      unfold gRep
      dsimp only
      rw [if_pos]
      rw [Bool.and_eq_true]
      exact ⟨decide_eq_true len0, decide_eq_true (by omega)⟩
    unfold gMulT orG
    rw [x1]
    exact x2
  have g2 : gAdd (.str (PySem.Str.ofString "1")) (.str (Txt.mul (PySem.Str.ofString "0") (n : Int))) S = some (.str (PySem.Str.ofString "1" ++ Txt.mul (PySem.Str.ofString "0") (n : Int)), S) := by
    have le : (PySem.Str.ofString "1").length + (Txt.mul (PySem.Str.ofString "0") (n : Int)).length ≤ 1000000 := by
      have l1 : (PySem.Str.ofString "1").length = 1 := by decide +kernel
      have l2 := PyProof.Rows.len_mul_k1 (n := (n : Int)) len0
      split at l2 <;> omega
    generalize Txt.mul (PySem.Str.ofString "0") (n : Int) = w at *
    have x1 : (gI (fun _ _ => true) fun i j => .int (i + j)) (.str (PySem.Str.ofString "1")) (.str w) S = none := rfl
    have x2 : (gS (fun i j => decide (i.length + j.length ≤ 1000000)) fun i j => .str (i ++ j)) (.str (PySem.Str.ofString "1")) (.str w) S = some (.str (PySem.Str.ofString "1" ++ w), S) := by
      unfold gS
      dsimp only
      rw [if_pos (decide_eq_true le)]
    unfold gAdd orG
    rw [x1]
    dsimp only
    rw [x2]
  refine v_bi (v_cons (v_op v_ret (v_op v_ret (v_op h v_ret mt) g1) g2) v_nil) ?_
  generalize PySem.Str.ofString "1" ++ Txt.mul (PySem.Str.ofString "0") (n : Int) = w at *
  have x1 : gInt [.str w] S = none := rfl
  unfold gIntT
  rw [x1]
  dsimp only
  unfold gIntS
  dsimp only
  rw [if_pos e3, e1]
  rfl
theorem e_any_number (r t : Int) (S : Sto) : ∃ q : Rat, sz 160 q ∧ F__law_any_number [.int r, .int t] S = some (.val (nq q) S) := by
  obtain ⟨m, hm, em⟩ := e_ten (ρ := [some (.int r), some (.int t), none]) (S := S) (me := mVar 1) (t := t) (v_var rfl)
  have b1 := fm (x := r) (m := 2001) (by decide)
  have b2 := fm (x := t) (m := 7) (by decide)
  have b3 := fm (x := r.fdiv 16) (m := 9) (by decide)
  have b4 := fm (x := t.fdiv 40) (m := 2) (by decide)
  have s1 : szI 10 (r.fmod 2001 - 1000) := by unfold szI; omega
  have sm : szI 140 (m : Int) := by unfold szI; rw [Int.natAbs_natCast]; exact hm
  have s2 : szI 3 (t.fmod 7) := by unfold szI; omega
  have s3 : szI 4 ((r.fdiv 16).fmod 9) := by unfold szI; omega
  have s4 : szI 1 ((t.fdiv 40).fmod 2) := by unfold szI; omega
  have o1 : szI 1 1 := by unfold szI; decide
  have m1 : mulOk (r.fmod 2001 - 1000) (m : Int) = true := mulOk_sz s1 sm
  have m2 : mulOk (m : Int) ((t.fdiv 40).fmod 2) = true := mulOk_sz sm s4
  have w1 := o1.add (sm.mul s4)
  have m3 : mulOk ((r.fdiv 16).fmod 9) (1 + (m : Int) * (t.fdiv 40).fmod 2) = true := mulOk_sz s3 w1
  have w2 := (o1.add (s3.mul w1)).mono (m := 160) (by omega)
  have w3 := ((s1.mul sm).add s2).mono (m := 160) (by omega)
  have pos : 0 ≤ (r.fdiv 16).fmod 9 * (1 + (m : Int) * (t.fdiv 40).fmod 2) := Int.mul_nonneg b3.1 (by have := Int.mul_nonneg (a := (m : Int)) (by omega) b4.1; omega)
  have z : 1 + (r.fdiv 16).fmod 9 * (1 + (m : Int) * (t.fdiv 40).fmod 2) ≠ 0 := by omega
  refine ⟨_, sz_frac z w3 w2, ?_⟩
  unfold F__law_any_number m__law_any_number
  refine fn_ret ?_
  refine seq_nx (set_eq em) ?_
  exact ret_eq (v_call (v_cons (v_op (v_op (v_op (v_op (v_var rfl) v_ret (mod_ii (by decide))) v_ret sub_ii) (v_var rfl) (mul_ii m1)) (v_op (v_var rfl) v_ret (mod_ii (by decide))) add_ii)
    (v_cons (v_op v_ret (v_op (v_op (v_op (v_var rfl) v_ret (div_ii (divOk_lit (by decide) (by decide)))) v_ret (mod_ii (by decide))) (v_op v_ret (v_op (v_var rfl) (v_op (v_op (v_var rfl) v_ret (div_ii (divOk_lit (by decide) (by decide)))) v_ret (mod_ii (by decide))) (mul_ii m2)) add_ii) (mul_ii m3)) add_ii) v_nil)) (e_frac z w2 S))

/-! ### lists compared -/
/-! ### quotients -/
/-! ### texts of numbers -/
def intL (i : Int) : List Nat := if i < 0 then 45 :: TL.numL i.natAbs else TL.numL i.natAbs
theorem nat_txt (n : Nat) : ((toString n).toList.map Char.toNat) = TL.numL n := by
  have h := TL.tl_num n
  rw [TL.tl_ofString] at h
  exact h
theorem int_txt (i : Int) : Str.ofString (toString i) = ⟨(intL i).toArray⟩ := by
  refine TL.ext_tl ?_
  show TL.tl (Str.ofString (toString i)) = intL i
  cases i with
  | ofNat n =>
    have h := TL.tl_num n
    unfold intL
    rw [if_neg (by show ¬ (n : Int) < 0; omega)]
    exact h
  | negSucc n =>
    unfold intL
    rw [if_pos (Int.negSucc_lt_zero n), TL.tl_ofString]
    have e : toString (Int.negSucc n) = "-" ++ toString (n + 1) := rfl
    rw [e, String.toList_append, List.map_append, nat_txt]
    rfl
theorem num_len49 {n : Nat} (h : n < 2 ^ 160) : (TL.numL n).length ≤ 49 := TL.numL_len (by decide) (Nat.lt_of_lt_of_le h (by decide))
theorem no47_num (n : Nat) : 47 ∉ TL.numL n := fun h => by have := num_dig n 47 h; omega
theorem no47_int (i : Int) : 47 ∉ intL i := by
  unfold intL
  split
  · intro h
    rcases List.mem_cons.mp h with h | h
    · exact absurd h (by decide)
    · exact no47_num _ h
  · exact no47_num _
theorem cut1_none : ∀ {l : List Nat}, 47 ∉ l → cut1 l = (l, none)
  | [], _ => rfl
  | c :: r, h => by
    have hc : c ≠ 47 := fun z => h (by rw [z]; exact List.mem_cons_self)
    rw [cut1, if_neg hc, cut1_none (fun z => h (List.mem_cons_of_mem _ z))]
theorem cut1_some : ∀ {l q : List Nat}, 47 ∉ l → cut1 (l ++ 47 :: q) = (l, some q)
  | [], q, _ => by show (if (47 : Nat) = 47 then _ else _) = _; rw [if_pos rfl]
  | c :: r, q, h => by
    have hc : c ≠ 47 := fun z => h (by rw [z]; exact List.mem_cons_self)
    rw [List.cons_append, cut1, if_neg hc, cut1_some (fun z => h (List.mem_cons_of_mem _ z))]
theorem neg_int (i : Int) : negL (intL i) = decide (i < 0) := by
  unfold intL negL
  by_cases c : i < 0
  · rw [if_pos c, decide_eq_true c]; rfl
  · rw [if_neg c, decide_eq_false c]
    cases e : TL.numL i.natAbs with
    | nil => rfl
    | cons x r =>
      have := num_dig i.natAbs x (by rw [e]; exact List.mem_cons_self)
      show (some x == some 45) = false
      have : x ≠ 45 := by omega
      simp [this]
theorem off_int (i : Int) : offN (decide (i < 0)) (intL i) = TL.numL i.natAbs := by
  unfold intL offN
  by_cases c : i < 0
  · rw [if_pos c, decide_eq_true c]; rfl
  · rw [if_neg c, decide_eq_false c]; rfl
def textL (q : Rat) : List Nat := if 1 < q.den then intL q.num ++ 47 :: TL.numL q.den else intL q.num
theorem res_text {q : Rat} (h1 : q.num.natAbs < 2 ^ 160) (h2 : q.den < 2 ^ 160) : res (textL q) = some (q.num, (q.den : Int)) := by
  have l1 := num_len49 h1
  have l2 := num_len49 h2
  have hp := q.den_pos
  have hb : ¬ (decide (q.num < 0) = true ∧ q.num.natAbs = 0) := fun ⟨a, b⟩ => by
    have := of_decide_eq_true a
    omega
  have hs : sgnN (decide (q.num < 0)) q.num.natAbs = q.num := by
    unfold sgnN
    by_cases c : q.num < 0
    · rw [decide_eq_true c, if_pos rfl]; omega
    · rw [decide_eq_false c, if_neg (by decide)]; omega
  rw [res_T]
  unfold textL
  by_cases c : 1 < q.den
  · rw [if_pos c, cut1_some (no47_int _)]
    dsimp only
    rw [neg_int, off_int, figN_num (by omega)]
    dsimp only
    unfold resT
    rw [if_neg hb]
    dsimp only
    rw [figN_num (by omega)]
    dsimp only
    rw [if_neg (by rintro (h | h); omega; exact h q.reduced), hs]
  · rw [if_neg c, cut1_none (no47_int _)]
    dsimp only
    rw [neg_int, off_int, figN_num (by omega)]
    dsimp only
    unfold resT
    rw [if_neg hb, hs, show q.den = 1 by omega]
    rfl
theorem asc_num (n : Nat) : Asc (TL.numL n) := fun c hc => by have := num_dig n c hc; omega
theorem asc_int (i : Int) : Asc (intL i) := by
  unfold intL
  split
  · intro c hc
    rcases List.mem_cons.mp hc with rfl | hc
    · decide
    · exact asc_num _ c hc
  · exact asc_num _
theorem len_int {i : Int} (h : i.natAbs < 2 ^ 160) : (intL i).length ≤ 50 := by
  have := num_len49 h
  unfold intL
  split
  · rw [List.length_cons]; omega
  · omega
theorem asc_text (q : Rat) : Asc (textL q) := by
  unfold textL
  split
  · intro c hc
    rcases List.mem_append.mp hc with hc | hc
    · exact asc_int _ c hc
    · rcases List.mem_cons.mp hc with rfl | hc
      · decide
      · exact asc_num _ c hc
  · exact asc_int _
theorem len_text {q : Rat} (h1 : q.num.natAbs < 2 ^ 160) (h2 : q.den < 2 ^ 160) : (textL q).length ≤ 100 := by
  have l1 := len_int h1
  have l2 := num_len49 h2
  unfold textL
  split
  · rw [List.length_append, List.length_cons]; omega
  · omega
theorem g_strI {i : Int} (h : i.natAbs < 2 ^ 160) {S : Sto} {Q : D → Sto → Prop} (q : Q (tL (intL i)) S) : WG (gStr [.int i] S) Q := ⟨.str (Str.ofString (toString i)), S, by
  unfold gStr
  dsimp only
  have : i.natAbs.log2 < 1920 := by
    by_cases z : i.natAbs = 0
    · rw [z]; decide
    · exact (Nat.log2_lt z).mpr (Nat.lt_of_lt_of_le h (Nat.pow_le_pow_right (by decide) (by decide)))
  rw [if_pos this], by rw [int_txt]; exact q⟩
theorem g_fmtI {i : Int} (h : i.natAbs < 2 ^ 160) {S : Sto} {Q : D → Sto → Prop} (q : Q (tL (intL i)) S) : WG (gFmt (.int i) S) Q := ⟨.str (Str.ofString (toString i)), S, by
  unfold gFmt
  dsimp only
  have : i.natAbs.log2 < 1920 := by
    by_cases z : i.natAbs = 0
    · rw [z]; decide
    · exact (Nat.log2_lt z).mpr (Nat.lt_of_lt_of_le h (Nat.pow_le_pow_right (by decide) (by decide)))
  rw [if_pos this], by rw [int_txt]; exact q⟩
theorem app_L (a b : List Nat) : (⟨a.toArray⟩ : Str) ++ ⟨b.toArray⟩ = ⟨(a ++ b).toArray⟩ := TL.ext_tl (by rw [TL.tl_append])
theorem g_addS {a b : List Nat} (h : a.length + b.length ≤ 100000) {S : Sto} {Q : D → Sto → Prop} (q : Q (tL (a ++ b)) S) : WG (gAdd (tL a) (tL b) S) Q := ⟨.str ((⟨a.toArray⟩ : Str) ++ ⟨b.toArray⟩), S, by
  have x1 : (gI (fun _ _ => true) fun i j => .int (i + j)) (tL a) (tL b) S = none := rfl
  have x2 : (gS (fun i j => decide (i.length + j.length ≤ 1000000)) fun i j => .str (i ++ j)) (tL a) (tL b) S = some (.str ((⟨a.toArray⟩ : Str) ++ ⟨b.toArray⟩), S) := by
    unfold gS
    dsimp only
    rw [if_pos (decide_eq_true (by rw [len_L, len_L]; omega))]
  unfold gAdd orG
  rw [x1]
  dsimp only
  rw [x2], by rw [app_L]; exact q⟩
theorem wv_js0 {acc : Str} {ρ : Rf.Env} {S : Sto} {Q : D → Sto → Prop} (q : Q (.str acc) S) : WV (mJs [] acc ρ S) Q := wv_ret q
theorem wv_jsC {m : M D} {ms : List (M D)} {acc : List Nat} {ρ : Rf.Env} {S : Sto} {Q : D → Sto → Prop} (h : WV (m ρ S) fun d S1 => ∃ y : List Nat, d = tL y ∧ (acc ++ y).length ≤ 1000 ∧ WV (mJs ms ⟨(acc ++ y).toArray⟩ ρ S1) Q) : WV (mJs (m :: ms) ⟨acc.toArray⟩ ρ S) Q := by
  refine wv_b (h.imp fun d S1 ⟨y, ed, hl, q⟩ => ?_)
  subst ed
  dsimp only
  rw [app_L, if_pos (by rw [len_L]; omega)]
  exact q
theorem w_write_number {q : Rat} (h1 : q.num.natAbs < 2 ^ 160) (h2 : q.den < 2 ^ 160) {S : Sto} {Q : D → Sto → Prop} (k : Q (tL (textL q)) S) : WV (F_write_number [nq q] S) Q := by
  have hp := q.den_pos
  unfold F_write_number m_write_number
  refine wfn [some (nq q), none, none] rfl ?_
  repeat infer_instance
  refine ⟨_, rfl, ?_⟩
  simp only [set0, setS]
  repeat infer_instance
  unfold textL at k
  by_cases c : q.den = 1
  · rw [decide_eq_true (show ((q.den : Nat) : Int) = 1 by omega)]
    rw [if_neg (by omega)] at k
    refine ⟨fun _ => ?_, fun z => (nomatch z)⟩
    repeat infer_instance
    refine g_strI h1 ?_
    repeat infer_instance
    exact k
  · rw [decide_eq_false (show ¬ ((q.den : Nat) : Int) = 1 by omega)]
    rw [if_pos (by omega)] at k
    refine ⟨fun z => (nomatch z), fun _ => ?_⟩
    have l1 := len_int h1
    have l2 := num_len49 h2
    have e0 : (Str.empty : Str) = ⟨([] : List Nat).toArray⟩ := rfl
    rw [e0]
    refine wv_jsC ?_
    repeat infer_instance
    refine g_fmtI h1 ?_
    refine ⟨_, rfl, by rw [List.nil_append]; omega, ?_⟩
    refine wv_jsC (wv_ret ⟨[47], by rw [e47], by rw [List.nil_append, List.length_append]; show _ + 1 ≤ 1000; omega, ?_⟩)
    refine wv_jsC ?_
    repeat infer_instance
    refine g_fmtI (i := (q.den : Int)) (by rw [Int.natAbs_natCast]; exact h2) ?_
    have ed : intL (q.den : Int) = TL.numL q.den := by unfold intL; rw [if_neg (by omega), Int.natAbs_natCast]
    rw [ed]
    refine ⟨_, rfl, by rw [List.nil_append, List.length_append, List.length_append]; show _ + 1 + _ ≤ 1000; omega, ?_⟩
    refine wv_js0 ?_
    rw [List.nil_append, List.append_assoc]
    exact k
end Gn

set_option maxHeartbeats 4000000
namespace Gn
open PySem PySem.Spec PyProof.Rows L2 Rf
local macro_rules
  | `(tactic| infer_instance) => `(tactic| with_reducible first
    | (apply kWS; first
        | apply ws_seq
        | apply ws_ret
        | apply ws_if
        | apply ws_ex
        | apply ws_asg
        | apply ws_par
        | apply ws_dput
        | apply ws_lput
        | apply ws_nil
        | apply ws_retN
        | (apply kSet; first
            | apply s0
            | apply s1
            | apply s2
            | apply s3
            | apply s4
            | apply s5
            | apply s6
            | apply s7
            | apply s8
            | apply s9
            | apply s10
            | apply s11
            | apply s12
            | apply s13
            | apply s14
            | apply s15
            | apply s16
            | apply s17
            | apply s18
            | apply s19
            | apply s20
            | apply s21
            | apply s22
            | apply s23
            | apply s24
            | apply s25
            ))
    | (apply kWV; first
        | (apply kVar; first
            | apply v0
            | apply v1
            | apply v2
            | apply v3
            | apply v4
            | apply v5
            | apply v6
            | apply v7
            | apply v8
            | apply v9
            | apply v10
            | apply v11
            | apply v12
            | apply v13
            | apply v14
            | apply v15
            | apply v16
            | apply v17
            | apply v18
            | apply v19
            | apply v20
            | apply v21
            | apply v22
            | apply v23
            | apply v24
            | apply v25
            )
        | apply wv_cons
        | apply wv_op
        | apply wv_ret
        | apply wv_nil
        | apply wv_call
        | apply wv_tup
        | apply wv_T
        | apply wv_bi
        | apply wv_tru
        | apply wv_un
        | apply wv_lst
        | apply wv_call0
        | apply wv_not
        | apply wv_and
        | apply wv_or
        | apply wv_if
        | apply wv_andV
        | apply wv_orV
        | apply wv_yes
        | apply wv_app
        | apply wv_dget
        | apply wv_dget2
        | apply wv_din
        | apply wv_dct1
        | apply wv_dct0
        | apply wv_sx2
        | apply wv_sxH
        | apply wv_sxL
        )
    | (apply kWG; first
        | apply g_add
        | apply g_sub
        | apply g_eq
        | apply g_lt
        | apply g_le
        | apply g_gt
        | apply g_ge
        | apply g_ne
        | apply g_ix0
        | apply g_ix1
        | apply g_ix2
        | apply g_nq0
        | apply g_nq1
        | apply g_iadd
        | apply g_isub
        | apply g_neg
        | apply g_not
        | apply g_gcd
        | apply g_abs
        | apply g_int
        | apply g_intb
        | apply g_lenT
        )
    | apply exI
    | apply Rf.exT
    | apply exTru
    | apply ifT
    | apply ifF
    | apply ifT'
    | apply ifF'
    | apply nf1
    | apply nf2
    | apply nf3
    | apply nf4
    | apply len0
    | apply len1
    | apply len2
    | apply len3
    | apply len4
    )

theorem w_cell {ns : List Int} {k : Nat} {S : Sto} {Q : D → Sto → Prop} (h : ∀ c : Int, Q (.int c) S) : WV (F__law_cell [.fro (ns.map D.int), .int (k : Int)] S) Q := by
  obtain ⟨c, e⟩ := e_cell (ns := ns) (k := k) S
  exact wv_of e (h c)
theorem w_draws {c : Int} {n : Nat} {S : Sto} {Q : D → Sto → Prop} (hn : n < 900) (h : ∀ (new : List Int) (S' : Sto) (i : Nat), new.length = n → (∀ r ∈ new, 0 ≤ r ∧ r < 4096) → Keep S S' → S.length ≤ i → S'[i]? = some (.lst (new.map D.int)) → Q (.ref i) S') : WV (F__law_draws [.int c, .int (n : Int)] S) Q := by
  obtain ⟨new, h1, h2, e⟩ := e_draws c n S hn
  exact wv_of e (h new _ _ h1 h2 (Keep.app _ _) (Nat.le_refl _) get_new)
/-- one of the draws -/
theorem g_draw {new : List Int} {m : Nat} (hl : new.length = m) (hb : ∀ r ∈ new, 0 ≤ r ∧ r < 4096) {di : Nat} {S : Sto} (hs : S[di]? = some (.lst (new.map D.int))) {j : Nat} (hj : j < m) {Q : D → Sto → Prop} (h : ∀ r : Int, 0 ≤ r → r < 4096 → Q (.int r) S) : WG (gIx (.ref di) (.int (j : Int)) S) Q := by
  have hlt : j < new.length := by omega
  have b := hb _ (List.getElem_mem hlt)
  exact g_ixR hs (by rw [List.getElem?_map, List.getElem?_eq_getElem hlt]; rfl) (h _ b.1 b.2)
theorem kitSS : kitB "str" "str" = some true := by decide +kernel
theorem w_is_text {y z : Str} (h : y = z) {S : Sto} {Q : D → Sto → Prop} (q : Q (.bl true) S) : WV (F__law_is_text [.str y, .str z] S) Q := by
  subst h
  unfold F__law_is_text m__law_is_text
  refine wfn [some (.str y), some (.str y)] rfl ?_
  repeat infer_instance
  refine g_isi (show tyD S (.str y) = some "str" from rfl) kitSS ?_
  repeat infer_instance
  exact ⟨_, _, rfl, by rw [decide_eq_true rfl]; exact q⟩
theorem kitN1 : kitB "NoneType" "tuple" = some false := by decide +kernel
theorem kitN2 : kitB "NoneType" "list" = some false := by decide +kernel
theorem same_non {k : Nat} {S : Sto} {Q : D → Sto → Prop} (q : Q (.bl true) S) : WV (F__law_same (k + 1) [.non, .non] S) Q := by
  show WV (fnOf 3 (m__law_same (F__law_same k)) [.non, .non] S) _
  unfold m__law_same
  refine wfn [some .non, some .non, none] rfl ?_
  repeat infer_instance
  refine g_isi rfl kitN1 ?_
  repeat infer_instance
  refine g_isi rfl kitN2 ?_
  repeat infer_instance
  refine wg_of (a := .bl true) rfl ?_
  repeat infer_instance
  exact wg_of (a := .bl true) rfl q
theorem same_opt {o : Option (Int × Int)} {S : Sto} {Q : D → Sto → Prop} (q : ∀ S', Keep S S' → Q (.bl true) S') : WV (F__law_same 40 [optP o, optP o] S) Q := by
  cases o with
  | none => exact same_non (q S (Keep.refl _))
  | some x =>
    obtain ⟨G, e⟩ := e_same 40 (optP (some x)) ⟨by show 2 < 900; decide, fun y hy => by
        rcases List.mem_cons.mp hy with rfl | hy
        · exact trivial
        · rw [List.mem_singleton.mp hy]; exact trivial⟩ S
    exact wv_of e (q _ (Keep.app _ _))
def GD (d : D) : Prop := ∃ r : List Nat, d = tL r ∧ Asc r ∧ r.length ≤ 1000
theorem gd_lit (s : String) (h : ((Str.ofString s).cps.toList.all (fun c => decide (c < 128)) && decide ((Str.ofString s).cps.toList.length ≤ 1000)) = true) : GD (.str (Str.ofString s)) := by
  rw [Bool.and_eq_true] at h
  refine ⟨(Str.ofString s).cps.toList, ?_, fun c hc => ?_, of_decide_eq_true h.2⟩
  · show D.str (Str.ofString s) = .str ⟨(Str.ofString s).cps.toList.toArray⟩
    rw [Array.toArray_toList]
  · exact of_decide_eq_true (List.all_eq_true.mp h.1 c hc)
theorem sign_ok : ∀ k : Fin 16, ∃ c : Fin 128, gIx (.str (Str.ofString "0123456789/-+ .x")) (.int (k.val : Int)) [] = some (tL [c.val], []) := by
  intro k
  have : ∀ k : Fin 16, ∃ c : Fin 128, (Str.ofString "0123456789/-+ .x").cps.toList[k.val]? = some c.val := by decide +kernel
  obtain ⟨c, hc⟩ := this k
  refine ⟨c, ?_⟩
  show (if (Str.ofString "0123456789/-+ .x").length ≤ 1000000 then (atI (Str.ofString "0123456789/-+ .x").cps.toList (k.val : Int)).map fun c => (D.str ⟨#[c]⟩, []) else none) = _
  rw [if_pos (by decide +kernel)]
  have : atI (Str.ofString "0123456789/-+ .x").cps.toList (k.val : Int) = some c.val := by
    have hl : k.val < (Str.ofString "0123456789/-+ .x").cps.toList.length := (List.getElem?_eq_some_iff.mp hc).1
    unfold atI ixN
    rw [if_pos (by omega), if_pos (by omega), Option.bind_some, Int.toNat_natCast]
    exact hc
  rw [this]; rfl
theorem g_sign {k : Nat} (h : k < 16) {S : Sto} {Q : D → Sto → Prop} (q : ∀ c : Nat, c < 128 → Q (tL [c]) S) : WG (gIx (.str (Str.ofString "0123456789/-+ .x")) (.int (k : Int)) S) Q := by
  obtain ⟨c, hc⟩ := sign_ok ⟨k, h⟩
  refine ⟨tL [c.val], S, ?_, q _ c.isLt⟩
  have e : ∀ S : Sto, gIx (.str (Str.ofString "0123456789/-+ .x")) (.int (k : Int)) S = ((if (Str.ofString "0123456789/-+ .x").length ≤ 1000000 then (atI (Str.ofString "0123456789/-+ .x").cps.toList (k : Int)).map fun c => D.str ⟨#[c]⟩ else none).map fun d => (d, S)) := fun S => by
    show (if (Str.ofString "0123456789/-+ .x").length ≤ 1000000 then (atI (Str.ofString "0123456789/-+ .x").cps.toList (k : Int)).map fun c => (D.str ⟨#[c]⟩, S) else none) = _
    split
    · rw [Option.map_map]; rfl
    · rfl
  rw [e] at hc ⊢
  obtain ⟨d, hd, he⟩ := Option.map_eq_some_iff.mp hc
  rw [hd]
  cases he
  rfl
theorem fig_ok : ∀ k : Fin 4, ((Txt.mul (Str.ofString "0") ((58 : Int) + (k.val : Int))).cps.toList.all (fun c => decide (c < 128)) && decide ((Txt.mul (Str.ofString "0") ((58 : Int) + (k.val : Int))).cps.toList.length ≤ 100)) = true := by decide +kernel
theorem g_fig {n : Int} (h0 : 0 ≤ n) (h : n < 4) {S : Sto} {Q : D → Sto → Prop} (q : ∀ F : List Nat, Asc F → F.length ≤ 100 → Q (tL F) S) : WG (gMulT (.str (Str.ofString "0")) (.int (58 + n)) S) Q := by
  have len0 : (PySem.Str.ofString "0").length = 1 := by decide +kernel
  refine ⟨.str (Txt.mul (Str.ofString "0") (58 + n)), S, ?_, ?_⟩
  · have x1 : gMul (.str (PySem.Str.ofString "0")) (.int (58 + n)) S = none := rfl
    have x2 : gRep (.str (PySem.Str.ofString "0")) (.int (58 + n)) S = some (.str (Txt.mul (PySem.Str.ofString "0") (58 + n)), S) := by
      unfold gRep
      dsimp only
      rw [if_pos]
      rw [Bool.and_eq_true]
      exact ⟨decide_eq_true len0, decide_eq_true (by omega)⟩
    unfold gMulT orG
    rw [x1]
    exact x2
  · obtain ⟨k, hk⟩ : ∃ k : Nat, n = (k : Int) := ⟨n.toNat, by omega⟩
    subst hk
    have := fig_ok ⟨k, by omega⟩
    rw [Bool.and_eq_true] at this
    have qq : Q (D.str ⟨(Txt.mul (Str.ofString "0") (58 + (k : Int))).cps.toList.toArray⟩) S := q (Txt.mul (Str.ofString "0") (58 + (k : Int))).cps.toList (fun c hc => of_decide_eq_true (List.all_eq_true.mp this.1 c hc)) (of_decide_eq_true this.2)
    rw [Array.toArray_toList] at qq
    exact qq
theorem g_addO {a b : List Nat} {s : Str} (hs : s = ⟨a.toArray⟩) (h : a.length + b.length ≤ 100000) {S : Sto} {Q : D → Sto → Prop} (q : Q (tL (a ++ b)) S) : WG (gAdd (.str s) (tL b) S) Q := by
  rw [hs]; exact g_addS h q
theorem g_gd {i : Nat} {xs : List D} {S : Sto} (hs : S[i]? = some (.lst xs)) (hg : ∀ d ∈ xs, GD d) (h0 : 0 < xs.length) {z : Int} {Q : D → Sto → Prop} (q : ∀ d, GD d → Q d S) : WG (gIx (.ref i) (.int (z.fmod (xs.length : Int))) S) Q := by
  have b := fm (x := z) (m := (xs.length : Int)) (by omega)
  obtain ⟨j, hj⟩ : ∃ j : Nat, z.fmod (xs.length : Int) = (j : Int) := ⟨(z.fmod (xs.length : Int)).toNat, by omega⟩
  rw [hj]
  have hlt : j < xs.length := by omega
  exact g_ixR hs (List.getElem?_eq_getElem hlt) (q _ (hg _ (List.getElem_mem hlt)))
theorem law_true (ns : List Int) (_ : ns.length ≤ 63) : ∃ S', F_law [.fro (ns.map D.int)] [] = some (.val (.bl true) S') := by
  suffices h : WV (F_law [.fro (ns.map D.int)] []) fun d _ => d = .bl true by
    obtain ⟨d, S', e, rfl⟩ := h
    exact ⟨S', e⟩
  unfold F_law m_law
  refine wfn [some (.fro (ns.map D.int)), none, none, none, none, none, none, none, none, none, none] rfl ?_
  repeat infer_instance
  refine ws_for (rngD 0 3) (fun j ρ S1 => ∃ x1 x2 x3 x4 x5 x6 x7 x8 x9 x10 : Option D, ρ = [some (.fro (ns.map D.int)), x1, x2, x3, x4, x5, x6, x7, x8, x9, x10]) (by decide) ?_ (fun j x ρ S1 hx hI => ?_) (fun ρ S1 hI => ?_)
  · refine wv_rng1 ?_
    repeat infer_instance
    exact ⟨_, rfl, by decide, ⟨_, _, _, _, _, _, _, _, _, _, rfl⟩, fun _ _ _ _ => sqIs_it⟩
  · obtain ⟨x1, x2, x3, x4, x5, x6, x7, x8, x9, x10, rfl⟩ := hI
    obtain ⟨t, ht, rfl⟩ := rngD_mem (List.mem_of_getElem? hx)
    refine ⟨_, rfl, ?_⟩
    unfold L1_law
    simp only [tN, set0, setS]
    repeat infer_instance
    refine w_cell fun c => ?_
    repeat infer_instance
    refine w_draws (n := 8) (by decide) fun new S2 di hl hb _ _ hs => ?_
    repeat infer_instance
    refine g_draw (j := 0) hl hb hs (by decide) fun r0 _ _ => ?_
    repeat infer_instance
    refine g_draw (j := 1) hl hb hs (by decide) fun r1 _ _ => ?_
    repeat infer_instance
    obtain ⟨x, hsz, ex⟩ := e_any_number r0 r1 S2
    refine wv_of ex ?_
    repeat infer_instance
    have hn : x.num.natAbs < 2 ^ 160 := hsz.1
    have hd : x.den < 2 ^ 160 := hsz.2
    have hp := x.den_pos
    have tl := len_text hn hd
    refine g_strI hn ?_
    refine ws_cut (fun ρ S3 => S3 = S2 ∧ ρ = [some (.fro (ns.map D.int)), some (.int (t : Int)), some (.ref di), some (nq x), some (tL (textL x)), x5, x6, x7, x8, x9, x10]) ?_ (fun ρ S3 hM => ?_)
    · repeat infer_instance
      have l1 := len_int hn
      have l2 := num_len49 hd
      by_cases c1 : 1 < x.den
      · rw [decide_eq_true (show (1 : Int) < ((x.den : Nat) : Int) by omega)]
        refine ⟨fun _ => ?_, fun z => (nomatch z)⟩
        repeat infer_instance
        rw [e47]
        refine g_addS (by show _ + 1 ≤ 100000; omega) ?_
        repeat infer_instance
        refine g_strI (i := (x.den : Int)) (by rw [Int.natAbs_natCast]; exact hd) ?_
        have ed : intL (x.den : Int) = TL.numL x.den := by unfold intL; rw [if_neg (by omega), Int.natAbs_natCast]
        rw [ed]
        refine g_addS (by rw [List.length_append]; show _ + 1 + _ ≤ 100000; omega) ?_
        refine ⟨rfl, ?_⟩
        unfold textL
        rw [if_pos c1, List.append_assoc]; rfl
      · rw [decide_eq_false (show ¬ (1 : Int) < ((x.den : Nat) : Int) by omega)]
        refine ⟨fun z => (nomatch z), fun _ => ws_nil ⟨rfl, ?_⟩⟩
        unfold textL
        rw [if_neg c1]
    obtain ⟨e3, rfl⟩ := hM
    subst e3
    have ta := asc_text x
    repeat infer_instance
    refine w_write_number hn hd ?_
    repeat infer_instance
    refine w_is_text rfl ?_
    repeat infer_instance
    refine w_law_read ta (by omega) ?_
    rw [res_text hn hd]
    repeat infer_instance
    have eo : nq x = optP (some (x.num, (x.den : Int))) := rfl
    rw [eo]
    refine same_opt fun S4 k4 => ?_
    rw [← eo]
    have hs4 := k4 _ _ hs
    repeat infer_instance
    refine g_draw (j := 2) hl hb hs4 (by decide) fun r2 _ _ => ?_
    repeat infer_instance
    refine g_lenS (l := textL x) (by omega) ?_
    repeat infer_instance
    refine g_mod (by omega) ?_
    have b2 := fm (x := r2) (m := ((textL x).length : Int) + 1) (by omega)
    obtain ⟨k, hk⟩ : ∃ k : Nat, r2.fmod (((textL x).length : Int) + 1) = (k : Int) := ⟨(r2.fmod (((textL x).length : Int) + 1)).toNat, by omega⟩
    rw [hk]
    repeat infer_instance
    refine g_draw (j := 3) hl hb hs4 (by decide) fun r3 _ _ => ?_
    repeat infer_instance
    refine g_mod (by decide) ?_
    have b3 := fm (x := r3) (m := 16) (by decide)
    obtain ⟨s, hsg⟩ : ∃ k : Nat, r3.fmod 16 = (k : Int) := ⟨(r3.fmod 16).toNat, by omega⟩
    rw [hsg]
    refine g_sign (by omega) fun c hc => ?_
    obtain ⟨L, eL⟩ : ∃ L, L = textL x := ⟨_, rfl⟩
    rw [← eL] at ta tl ⊢
    clear eL
    have tkl : (L.take k).length ≤ 100 := Nat.le_trans (List.length_take_le' k L) tl
    have dkl : ∀ j, (L.drop j).length ≤ 100 := fun j => by rw [List.length_drop]; omega
    have atk : Asc (L.take k) := fun c hc => ta c (List.mem_of_mem_take hc)
    have adk : ∀ j, Asc (L.drop j) := fun j c hc => ta c (List.mem_of_mem_drop hc)
    have asg : Asc [c] := fun c' hc' => by rw [List.mem_singleton.mp hc']; exact hc
    have aap : ∀ {a b : List Nat}, Asc a → Asc b → Asc (a ++ b) := fun ha hb c hc => (List.mem_append.mp hc).elim (ha c) (hb c)
    repeat infer_instance
    refine wv_syH ?_
    repeat infer_instance
    refine ⟨L, k, rfl, rfl, by omega, ?_⟩
    repeat infer_instance
    refine g_addS (by show _ + 1 ≤ 100000; omega) ?_
    repeat infer_instance
    refine wv_syL ?_
    repeat infer_instance
    refine ⟨L, k, rfl, rfl, by omega, ?_⟩
    repeat infer_instance
    refine g_addS (by have := dkl k; rw [List.length_append]; show _ + 1 + _ ≤ 100000; omega) ?_
    repeat infer_instance
    refine wv_syH ?_
    repeat infer_instance
    refine ⟨L, k, rfl, rfl, by omega, ?_⟩
    repeat infer_instance
    refine wv_syL ?_
    repeat infer_instance
    refine ⟨L, k + 1, rfl, congrArg D.int (by omega), by omega, ?_⟩
    repeat infer_instance
    refine g_addS (by have := dkl (k + 1); omega) ?_
    repeat infer_instance
    refine wv_syH ?_
    repeat infer_instance
    refine ⟨L, k, rfl, rfl, by omega, ?_⟩
    repeat infer_instance
    refine g_addS (by show _ + 1 ≤ 100000; omega) ?_
    repeat infer_instance
    refine wv_syL ?_
    repeat infer_instance
    refine ⟨L, k + 1, rfl, congrArg D.int (by omega), by omega, ?_⟩
    repeat infer_instance
    refine g_addS (by have := dkl (k + 1); rw [List.length_append]; show _ + 1 + _ ≤ 100000; omega) ?_
    repeat infer_instance
    have g3 : ∀ d ∈ [tL (L.take k ++ [c] ++ L.drop k), tL (L.take k ++ L.drop (k + 1)), tL (L.take k ++ [c] ++ L.drop (k + 1))], GD d := fun d hd' => by
      have d0 := dkl k
      have d1 := dkl (k + 1)
      rcases List.mem_cons.mp hd' with rfl | hd'
      · exact ⟨_, rfl, aap (aap atk asg) (adk k), by rw [List.length_append, List.length_append]; show _ + 1 + _ ≤ 1000; omega⟩
      · rcases List.mem_cons.mp hd' with rfl | hd'
        · exact ⟨_, rfl, aap atk (adk (k + 1)), by rw [List.length_append]; omega⟩
        · rw [List.mem_singleton.mp hd']
          exact ⟨_, rfl, aap (aap atk asg) (adk (k + 1)), by rw [List.length_append, List.length_append]; show _ + 1 + _ ≤ 1000; omega⟩
    have l3 : [tL (L.take k ++ [c] ++ L.drop k), tL (L.take k ++ L.drop (k + 1)), tL (L.take k ++ [c] ++ L.drop (k + 1))].length = 3 := rfl
    generalize [tL (L.take k ++ [c] ++ L.drop k), tL (L.take k ++ L.drop (k + 1)), tL (L.take k ++ [c] ++ L.drop (k + 1))] = rows at g3 l3 ⊢
    have k5 := Keep.app S4 [O.lst rows]
    have hr5 := get_new (S := S4) (o := O.lst rows)
    have hs5 := k5 _ _ hs4
    generalize S4 ++ [O.lst rows] = S5 at k5 hr5 hs5 ⊢
    generalize S4.length = ri at hr5 ⊢
    refine g_draw (j := 5) hl hb hs5 (by decide) fun r5 _ _ => ?_
    repeat infer_instance
    refine g_mod (by decide) ?_
    have b5 := fm (x := r5) (m := 4) (by decide)
    repeat infer_instance
    refine g_fig b5.1 b5.2 fun F aF lF => ?_
    refine g_addO (a := [49]) (by decide +kernel) (by show 1 + _ ≤ 100000; omega) ?_
    have aG : Asc ([49] ++ F) := aap (fun c hc => by rw [List.mem_singleton.mp hc]; decide) aF
    have lG : ([49] ++ F).length ≤ 101 := by rw [List.length_append]; show 1 + _ ≤ 101; omega
    generalize [49] ++ F = G at aG lG ⊢
    repeat infer_instance
    refine g_addO (a := [49, 47]) (by decide +kernel) (by show 2 + _ ≤ 100000; omega) ?_
    repeat infer_instance
    refine g_addO (a := [45]) (by decide +kernel) (by show 1 + _ ≤ 100000; omega) ?_
    repeat infer_instance
    refine ⟨by show 23 ≤ 1000; decide, ?_⟩
    have g23 : ∀ d ∈ [D.str (Str.ofString ""), D.str (Str.ofString "-"), D.str (Str.ofString "-0"), D.str (Str.ofString "00"), D.str (Str.ofString "07"), D.str (Str.ofString "2/4"), D.str (Str.ofString "3/1"), D.str (Str.ofString "1/0"), D.str (Str.ofString "0/1"), D.str (Str.ofString "-0/1"), D.str (Str.ofString "1/-2"), D.str (Str.ofString "/2"), D.str (Str.ofString "1/"), D.str (Str.ofString "1/2/3"), D.str (Str.ofString " 1"), D.str (Str.ofString "1 "), D.str (Str.ofString "+1"), D.str (Str.ofString "1.5"), D.str (Str.ofString "--1"), D.str (Str.ofString "0/7"), tL G, tL ([49, 47] ++ G), tL ([45] ++ G)], GD d := fun d hd' => by
      simp only [List.mem_cons, List.not_mem_nil, or_false] at hd'
      rcases hd' with rfl | rfl | rfl | rfl | rfl | rfl | rfl | rfl | rfl | rfl | rfl | rfl | rfl | rfl | rfl | rfl | rfl | rfl | rfl | rfl | rfl | rfl | rfl
      · exact gd_lit _ (by decide +kernel)
      · exact gd_lit _ (by decide +kernel)
      · exact gd_lit _ (by decide +kernel)
      · exact gd_lit _ (by decide +kernel)
      · exact gd_lit _ (by decide +kernel)
      · exact gd_lit _ (by decide +kernel)
      · exact gd_lit _ (by decide +kernel)
      · exact gd_lit _ (by decide +kernel)
      · exact gd_lit _ (by decide +kernel)
      · exact gd_lit _ (by decide +kernel)
      · exact gd_lit _ (by decide +kernel)
      · exact gd_lit _ (by decide +kernel)
      · exact gd_lit _ (by decide +kernel)
      · exact gd_lit _ (by decide +kernel)
      · exact gd_lit _ (by decide +kernel)
      · exact gd_lit _ (by decide +kernel)
      · exact gd_lit _ (by decide +kernel)
      · exact gd_lit _ (by decide +kernel)
      · exact gd_lit _ (by decide +kernel)
      · exact gd_lit _ (by decide +kernel)
      · exact ⟨_, rfl, aG, by omega⟩
      · refine ⟨_, rfl, aap (fun c hc => ?_) aG, by rw [List.length_append]; show 2 + _ ≤ 1000; omega⟩
        rcases List.mem_cons.mp hc with rfl | hc
        · decide
        · rw [List.mem_singleton.mp hc]; decide
      · exact ⟨_, rfl, aap (fun c hc => by rw [List.mem_singleton.mp hc]; decide) aG, by rw [List.length_append]; show 1 + _ ≤ 1000; omega⟩
    have l23 : ([D.str (Str.ofString ""), D.str (Str.ofString "-"), D.str (Str.ofString "-0"), D.str (Str.ofString "00"), D.str (Str.ofString "07"), D.str (Str.ofString "2/4"), D.str (Str.ofString "3/1"), D.str (Str.ofString "1/0"), D.str (Str.ofString "0/1"), D.str (Str.ofString "-0/1"), D.str (Str.ofString "1/-2"), D.str (Str.ofString "/2"), D.str (Str.ofString "1/"), D.str (Str.ofString "1/2/3"), D.str (Str.ofString " 1"), D.str (Str.ofString "1 "), D.str (Str.ofString "+1"), D.str (Str.ofString "1.5"), D.str (Str.ofString "--1"), D.str (Str.ofString "0/7"), tL G, tL ([49, 47] ++ G), tL ([45] ++ G)] : List D).length = 23 := rfl
    generalize [D.str (Str.ofString ""), D.str (Str.ofString "-"), D.str (Str.ofString "-0"), D.str (Str.ofString "00"), D.str (Str.ofString "07"), D.str (Str.ofString "2/4"), D.str (Str.ofString "3/1"), D.str (Str.ofString "1/0"), D.str (Str.ofString "0/1"), D.str (Str.ofString "-0/1"), D.str (Str.ofString "1/-2"), D.str (Str.ofString "/2"), D.str (Str.ofString "1/"), D.str (Str.ofString "1/2/3"), D.str (Str.ofString " 1"), D.str (Str.ofString "1 "), D.str (Str.ofString "+1"), D.str (Str.ofString "1.5"), D.str (Str.ofString "--1"), D.str (Str.ofString "0/7"), tL G, tL ([49, 47] ++ G), tL ([45] ++ G)] = odd at g23 l23 ⊢
    have k6 := Keep.app S5 [O.lst odd]
    have ho6 := get_new (S := S5) (o := O.lst odd)
    have hs6 := k6 _ _ hs5
    have hr6 := k6 _ _ hr5
    generalize S5 ++ [O.lst odd] = S6 at k6 ho6 hs6 hr6 ⊢
    generalize S5.length = oi at ho6 ⊢
    repeat infer_instance
    refine g_draw (j := 4) hl hb hs6 (by decide) fun r4 _ _ => ?_
    repeat infer_instance
    refine g_lenTR ho6 ?_
    refine g_mod (by omega) ?_
    refine g_gd ho6 g23 (by omega) fun d1 gd1 => ?_
    repeat infer_instance
    refine g_draw (j := 4) hl hb hs6 (by decide) fun r4' _ _ => ?_
    repeat infer_instance
    refine g_lenTR ho6 ?_
    refine g_mod (by omega) ?_
    refine g_gd ho6 g23 (by omega) fun d2 gd2 => ?_
    repeat infer_instance
    have k7 := Keep.app S6 [O.lst [d1, d2]]
    have hd7 := get_new (S := S6) (o := O.lst [d1, d2])
    have hr7 := k7 _ _ hr6
    generalize S6 ++ [O.lst [d1, d2]] = S7 at k7 hd7 hr7 ⊢
    generalize S6.length = dj at hd7 ⊢
    refine g_catL hr7 hd7 (by rw [l3]; show 3 + 2 ≤ 1000000; decide) ?_
    have gall : ∀ d ∈ rows ++ [d1, d2], GD d := fun d hd' => by
      rcases List.mem_append.mp hd' with h | h
      · exact g3 d h
      · rcases List.mem_cons.mp h with rfl | h
        · exact gd1
        · rw [List.mem_singleton.mp h]; exact gd2
    have lall : (rows ++ [d1, d2]).length = 5 := by rw [List.length_append, l3]; rfl
    generalize rows ++ [d1, d2] = all at gall lall ⊢
    have h8 := get_new (S := S7) (o := O.lst all)
    generalize S7 ++ [O.lst all] = S8 at h8 ⊢
    generalize S7.length = ai at h8 ⊢
    repeat infer_instance
    refine ws_for all (fun j ρ S9 => Keep S8 S9 ∧ ∃ y10 : Option D, ρ = [some (.fro (ns.map D.int)), some (.int (t : Int)), some (.ref di), some (nq x), some (tL L), some (.int (k : Int)), some (tL [c]), some (.ref ai), some (tL G), some (.ref oi), y10]) (by omega) ?_ (fun j y ρ S9 hy hI => ?_) (fun ρ S9 hI => ?_)
    · refine wv_seq ?_
      repeat infer_instance
      exact ⟨_, sq_refN h8, ⟨Keep.refl _, _, rfl⟩, fun _ _ _ hI => sqIs_ref (hI.1 _ _ h8)⟩
    · obtain ⟨k9, y10, rfl⟩ := hI
      obtain ⟨r, rfl, ra, rl⟩ := gall y (List.mem_of_getElem? hy)
      refine ⟨_, rfl, ?_⟩
      unfold L0_law
      simp only [tN, set0, setS]
      repeat infer_instance
      refine w_law_read ra rl ?_
      repeat infer_instance
      refine w_law_meant ra rl fun S10 k10 => ?_
      repeat infer_instance
      refine same_opt fun S11 k11 => ?_
      repeat infer_instance
      exact ⟨k9.trans (k10.trans k11), _, rfl⟩
    · obtain ⟨k9, y10, rfl⟩ := hI
      exact ⟨_, _, _, _, _, _, _, _, _, _, rfl⟩
  · obtain ⟨x1, x2, x3, x4, x5, x6, x7, x8, x9, x10, rfl⟩ := hI
    repeat infer_instance
    rfl
end Gn

namespace Gn
open PySem PySem.Spec PyProof.Rows L2 Rf
/-- what is promised of the law -/
def spLaw (K : PySem.W.Frag) : Sp := fun vs H Q _ => ∃ (a : Addr) (ns : List Int), vs = [.ref a] ∧ SqL K H a (ns.map V.int) ∧ ns.length ≤ 63 ∧ ∀ H', Q (.bl true) H'
theorem rels_ints {K : PySem.W.Frag} {φ : Nat → Addr} {n : Nat} {H : Hp} : ∀ ns : List Int, Rels K φ n H (ns.map V.int) (ns.map D.int)
  | [] => .nil
  | x :: r => .cons (.int x) (rels_ints r)
theorem law_sp {K : PySem.W.Frag} {ec : Str → Value} {F : List D → Sto → Option (R D)} (h : ∀ ns : List Int, ns.length ≤ 63 → ∃ S', F [.fro (ns.map D.int)] [] = some (.val (.bl true) S')) : ∀ vs H Q E, spLaw K vs H Q E → spF K ec 1 F vs H Q E := by
  intro vs H Q E hs
  obtain ⟨a, ns, rfl, hS, hl, q⟩ := hs
  obtain ⟨S', e⟩ := h ns hl
  refine ⟨fun _ => 0, [], [.fro (ns.map D.int)], ⟨fun i o z => by simp at z, fun i j z => absurd z (by simp)⟩, .cons (.fro ?_ (rels_ints ns)) .nil, rfl, _, e, fun φ' H' v ex ok r => ?_⟩
  · rcases hS with hS | hS
    · exact .inl ⟨hS, fun i z => absurd z (by simp)⟩
    · exact .inr hS
  · cases r
    exact q H'
theorem cx_none {P : Program} {w : World} {H : Hp} {s : Shared} {e : Value} {s' : Shared} (h : L2.CX P w [] H s (fun _ _ _ => False) e s') : False := by
  obtain ⟨_, _, _, _, _, _, _, _, _, _, _, _, z⟩ := h
  exact z
theorem all_mk {P : Program} {w : World} {K : PySem.W.Frag} {h : Heap} {mg : Str → Option Value} {fa : Addr} (X : K.In h) (G : h.Ns mainGlobals mg) (hfa : mg "law" = some (.ref fa))
    {f0 : Addr} {od0 an0 : Option Addr} {sl0 : Array (Option Value)} {oc0 kV0 dc0 pm0 cd0 ct0 : Value}
    (a0 : PySem.W.nsIn K mainGlobals "write_number" = some (some (.ref f0))) (l0 : K.lookup f0 = some ⟨oc0, od0, .func (PySem.W.fnOf "write_number" "write_number" (defArgs s_write_number) (defBody s_write_number) (defScope s_write_number) .none kV0 dc0 pm0 an0 cd0 ct0), sl0⟩) (c0 : PySem.W.codeIn K cd0 "write_number" = true) (k0 : PySem.W.keepIn K (.ref f0) = true)
    {f1 : Addr} {od1 an1 : Option Addr} {sl1 : Array (Option Value)} {oc1 kV1 dc1 pm1 cd1 ct1 : Value}
    (a1 : PySem.W.nsIn K mainGlobals "read_number" = some (some (.ref f1))) (l1 : K.lookup f1 = some ⟨oc1, od1, .func (PySem.W.fnOf "read_number" "read_number" (defArgs s_read_number) (defBody s_read_number) (defScope s_read_number) .none kV1 dc1 pm1 an1 cd1 ct1), sl1⟩) (c1 : PySem.W.codeIn K cd1 "read_number" = true) (k1 : PySem.W.keepIn K (.ref f1) = true)
    {f2 : Addr} {od2 an2 : Option Addr} {sl2 : Array (Option Value)} {oc2 kV2 dc2 pm2 cd2 ct2 : Value}
    (a2 : PySem.W.nsIn K mainGlobals "_read_figures" = some (some (.ref f2))) (l2 : K.lookup f2 = some ⟨oc2, od2, .func (PySem.W.fnOf "_read_figures" "_read_figures" (defArgs s__read_figures) (defBody s__read_figures) (defScope s__read_figures) .none kV2 dc2 pm2 an2 cd2 ct2), sl2⟩) (c2 : PySem.W.codeIn K cd2 "_read_figures" = true) (k2 : PySem.W.keepIn K (.ref f2) = true)
    {f3 : Addr} {od3 an3 : Option Addr} {sl3 : Array (Option Value)} {oc3 kV3 dc3 pm3 cd3 ct3 : Value}
    (a3 : PySem.W.nsIn K mainGlobals "_law_cell" = some (some (.ref f3))) (l3 : K.lookup f3 = some ⟨oc3, od3, .func (PySem.W.fnOf "_law_cell" "_law_cell" (defArgs s__law_cell) (defBody s__law_cell) (defScope s__law_cell) .none kV3 dc3 pm3 an3 cd3 ct3), sl3⟩) (c3 : PySem.W.codeIn K cd3 "_law_cell" = true) (k3 : PySem.W.keepIn K (.ref f3) = true)
    {f4 : Addr} {od4 an4 : Option Addr} {sl4 : Array (Option Value)} {oc4 kV4 dc4 pm4 cd4 ct4 : Value}
    (a4 : PySem.W.nsIn K mainGlobals "_law_draws" = some (some (.ref f4))) (l4 : K.lookup f4 = some ⟨oc4, od4, .func (PySem.W.fnOf "_law_draws" "_law_draws" (defArgs s__law_draws) (defBody s__law_draws) (defScope s__law_draws) .none kV4 dc4 pm4 an4 cd4 ct4), sl4⟩) (c4 : PySem.W.codeIn K cd4 "_law_draws" = true) (k4 : PySem.W.keepIn K (.ref f4) = true)
    {f5 : Addr} {od5 an5 : Option Addr} {sl5 : Array (Option Value)} {oc5 kV5 dc5 pm5 cd5 ct5 : Value}
    (a5 : PySem.W.nsIn K mainGlobals "_law_is_int" = some (some (.ref f5))) (l5 : K.lookup f5 = some ⟨oc5, od5, .func (PySem.W.fnOf "_law_is_int" "_law_is_int" (defArgs s__law_is_int) (defBody s__law_is_int) (defScope s__law_is_int) .none kV5 dc5 pm5 an5 cd5 ct5), sl5⟩) (c5 : PySem.W.codeIn K cd5 "_law_is_int" = true) (k5 : PySem.W.keepIn K (.ref f5) = true)
    {f6 : Addr} {od6 an6 : Option Addr} {sl6 : Array (Option Value)} {oc6 kV6 dc6 pm6 cd6 ct6 : Value}
    (a6 : PySem.W.nsIn K mainGlobals "_law_is_text" = some (some (.ref f6))) (l6 : K.lookup f6 = some ⟨oc6, od6, .func (PySem.W.fnOf "_law_is_text" "_law_is_text" (defArgs s__law_is_text) (defBody s__law_is_text) (defScope s__law_is_text) .none kV6 dc6 pm6 an6 cd6 ct6), sl6⟩) (c6 : PySem.W.codeIn K cd6 "_law_is_text" = true) (k6 : PySem.W.keepIn K (.ref f6) = true)
    {f7 : Addr} {od7 an7 : Option Addr} {sl7 : Array (Option Value)} {oc7 kV7 dc7 pm7 cd7 ct7 : Value}
    (a7 : PySem.W.nsIn K mainGlobals "_law_is_number" = some (some (.ref f7))) (l7 : K.lookup f7 = some ⟨oc7, od7, .func (PySem.W.fnOf "_law_is_number" "_law_is_number" (defArgs s__law_is_number) (defBody s__law_is_number) (defScope s__law_is_number) .none kV7 dc7 pm7 an7 cd7 ct7), sl7⟩) (c7 : PySem.W.codeIn K cd7 "_law_is_number" = true) (k7 : PySem.W.keepIn K (.ref f7) = true)
    {f8 : Addr} {od8 an8 : Option Addr} {sl8 : Array (Option Value)} {oc8 kV8 dc8 pm8 cd8 ct8 : Value}
    (a8 : PySem.W.nsIn K mainGlobals "_law_gcd" = some (some (.ref f8))) (l8 : K.lookup f8 = some ⟨oc8, od8, .func (PySem.W.fnOf "_law_gcd" "_law_gcd" (defArgs s__law_gcd) (defBody s__law_gcd) (defScope s__law_gcd) .none kV8 dc8 pm8 an8 cd8 ct8), sl8⟩) (c8 : PySem.W.codeIn K cd8 "_law_gcd" = true) (k8 : PySem.W.keepIn K (.ref f8) = true)
    {f9 : Addr} {od9 an9 : Option Addr} {sl9 : Array (Option Value)} {oc9 kV9 dc9 pm9 cd9 ct9 : Value}
    (a9 : PySem.W.nsIn K mainGlobals "_law_frac" = some (some (.ref f9))) (l9 : K.lookup f9 = some ⟨oc9, od9, .func (PySem.W.fnOf "_law_frac" "_law_frac" (defArgs s__law_frac) (defBody s__law_frac) (defScope s__law_frac) .none kV9 dc9 pm9 an9 cd9 ct9), sl9⟩) (c9 : PySem.W.codeIn K cd9 "_law_frac" = true) (k9 : PySem.W.keepIn K (.ref f9) = true)
    {f10 : Addr} {od10 an10 : Option Addr} {sl10 : Array (Option Value)} {oc10 kV10 dc10 pm10 cd10 ct10 : Value}
    (a10 : PySem.W.nsIn K mainGlobals "_law_same" = some (some (.ref f10))) (l10 : K.lookup f10 = some ⟨oc10, od10, .func (PySem.W.fnOf "_law_same" "_law_same" (defArgs s__law_same) (defBody s__law_same) (defScope s__law_same) .none kV10 dc10 pm10 an10 cd10 ct10), sl10⟩) (c10 : PySem.W.codeIn K cd10 "_law_same" = true) (k10 : PySem.W.keepIn K (.ref f10) = true)
    {f11 : Addr} {od11 an11 : Option Addr} {sl11 : Array (Option Value)} {oc11 kV11 dc11 pm11 cd11 ct11 : Value}
    (a11 : PySem.W.nsIn K mainGlobals "_law_any_number" = some (some (.ref f11))) (l11 : K.lookup f11 = some ⟨oc11, od11, .func (PySem.W.fnOf "_law_any_number" "_law_any_number" (defArgs s__law_any_number) (defBody s__law_any_number) (defScope s__law_any_number) .none kV11 dc11 pm11 an11 cd11 ct11), sl11⟩) (c11 : PySem.W.codeIn K cd11 "_law_any_number" = true) (k11 : PySem.W.keepIn K (.ref f11) = true)
    {f12 : Addr} {od12 an12 : Option Addr} {sl12 : Array (Option Value)} {oc12 kV12 dc12 pm12 cd12 ct12 : Value}
    (a12 : PySem.W.nsIn K mainGlobals "_law_read" = some (some (.ref f12))) (l12 : K.lookup f12 = some ⟨oc12, od12, .func (PySem.W.fnOf "_law_read" "_law_read" (defArgs s__law_read) (defBody s__law_read) (defScope s__law_read) .none kV12 dc12 pm12 an12 cd12 ct12), sl12⟩) (c12 : PySem.W.codeIn K cd12 "_law_read" = true) (k12 : PySem.W.keepIn K (.ref f12) = true)
    {f13 : Addr} {od13 an13 : Option Addr} {sl13 : Array (Option Value)} {oc13 kV13 dc13 pm13 cd13 ct13 : Value}
    (a13 : PySem.W.nsIn K mainGlobals "_law_meant" = some (some (.ref f13))) (l13 : K.lookup f13 = some ⟨oc13, od13, .func (PySem.W.fnOf "_law_meant" "_law_meant" (defArgs s__law_meant) (defBody s__law_meant) (defScope s__law_meant) .none kV13 dc13 pm13 an13 cd13 ct13), sl13⟩) (c13 : PySem.W.codeIn K cd13 "_law_meant" = true) (k13 : PySem.W.keepIn K (.ref f13) = true)
    {f14 : Addr} {od14 an14 : Option Addr} {sl14 : Array (Option Value)} {oc14 kV14 dc14 pm14 cd14 ct14 : Value}
    (a14 : PySem.W.nsIn K mainGlobals "law" = some (some (.ref f14))) (l14 : K.lookup f14 = some ⟨oc14, od14, .func (PySem.W.fnOf "law" "law" (defArgs s_law) (defBody s_law) (defScope s_law) .none kV14 dc14 pm14 an14 cd14 ct14), sl14⟩) (c14 : PySem.W.codeIn K cd14 "law" = true) (k14 : PySem.W.keepIn K (.ref f14) = true)
    (z_abs : PySem.W.nsIn K mainGlobals "abs" = some none)
    (z_bool : PySem.W.nsIn K mainGlobals "bool" = some none)
    (z_int : PySem.W.nsIn K mainGlobals "int" = some none)
    (z_isinstance : PySem.W.nsIn K mainGlobals "isinstance" = some none)
    (z_len : PySem.W.nsIn K mainGlobals "len" = some none)
    (z_list : PySem.W.nsIn K mainGlobals "list" = some none)
    (z_range : PySem.W.nsIn K mainGlobals "range" = some none)
    (z_str : PySem.W.nsIn K mainGlobals "str" = some none)
    (z_tuple : PySem.W.nsIn K mainGlobals "tuple" = some none)
    (z_gcd : PySem.W.nsIn K mainGlobals "gcd" = some (some (.builtin "math.gcd")))
    {c_BadText : Addr} (g_BadText : PySem.W.nsIn K mainGlobals "BadText" = some (some (.ref c_BadText))) (x_BadText : PySem.W.excIn K c_BadText [.type "ValueError", .type "Exception", .type "BaseException", .type "object"] "ValueError.__new__" = true) (k_BadText : PySem.W.keepIn K (.ref c_BadText) = true) (s_BadText : PySem.W.subIn K (.ref c_BadText) (.type "BaseException") = some true) (t_BadText : PySem.W.typeIn K (.ref c_BadText) = some (.type "type"))
    (i_BadText : PySem.W.isClsIn K c_BadText = true) (u_BadText : PySem.W.subIn K (.ref c_BadText) (.ref c_BadText) = some true)
    {tk__MOST_FIGURES : Tok} (q__MOST_FIGURES : PySem.W.nsIn K mainGlobals "_MOST_FIGURES" = some (some (Value.int 60 tk__MOST_FIGURES)))
    {tk__FIGURES : Tok} (q__FIGURES : PySem.W.nsIn K mainGlobals "_FIGURES" = some (some (Value.str (PySem.Str.ofString "0123456789") tk__FIGURES))) :
    ∃ fd : FuncData, (∀ (s : Shared) (v : Value), BindsTo s fd ⟨[v], []⟩ [("script", v)]) ∧ ∀ base : Heap, K.In base → base.Ns mainGlobals mg → FnOk P w K mg base (L2.CX P w) 44 fa fd ["script"] (spLaw K) := by
  have e : fa = f14 := Value.ref.inj (Option.some.inj (hfa.symm.trans (PySem.W.mg_of X G a14)))
  subst e
  have T : Txt K mg ⟨f0, _, f1, _, f2, _, f3, _, f4, _, f5, _, f6, _, f7, _, f8, _, f9, _, f10, _, f11, _, f12, _, f13, _, fa, _, 0, c_BadText⟩ := { F_write_number := fun_mk (st := s_write_number) l0 c0 k0, b_write_number := (fun_mk (st := s_write_number) l0 c0 k0).binds (ps := ["x"]) (fun _ _ _ _ _ _ us hl => match us, hl with | [_], _ => rfl), g_write_number := PySem.W.mg_of X G a0, F_read_number := fun_mk (st := s_read_number) l1 c1 k1, b_read_number := (fun_mk (st := s_read_number) l1 c1 k1).binds (ps := ["text"]) (fun _ _ _ _ _ _ us hl => match us, hl with | [_], _ => rfl), g_read_number := PySem.W.mg_of X G a1, F__read_figures := fun_mk (st := s__read_figures) l2 c2 k2, b__read_figures := (fun_mk (st := s__read_figures) l2 c2 k2).binds (ps := ["text"]) (fun _ _ _ _ _ _ us hl => match us, hl with | [_], _ => rfl), g__read_figures := PySem.W.mg_of X G a2, F__law_cell := fun_mk (st := s__law_cell) l3 c3 k3, b__law_cell := (fun_mk (st := s__law_cell) l3 c3 k3).binds (ps := ["script", "k"]) (fun _ _ _ _ _ _ us hl => match us, hl with | [_, _], _ => rfl), g__law_cell := PySem.W.mg_of X G a3, F__law_draws := fun_mk (st := s__law_draws) l4 c4 k4, b__law_draws := (fun_mk (st := s__law_draws) l4 c4 k4).binds (ps := ["cell", "count"]) (fun _ _ _ _ _ _ us hl => match us, hl with | [_, _], _ => rfl), g__law_draws := PySem.W.mg_of X G a4, F__law_is_int := fun_mk (st := s__law_is_int) l5 c5 k5, b__law_is_int := (fun_mk (st := s__law_is_int) l5 c5 k5).binds (ps := ["x"]) (fun _ _ _ _ _ _ us hl => match us, hl with | [_], _ => rfl), g__law_is_int := PySem.W.mg_of X G a5, F__law_is_text := fun_mk (st := s__law_is_text) l6 c6 k6, b__law_is_text := (fun_mk (st := s__law_is_text) l6 c6 k6).binds (ps := ["x", "due"]) (fun _ _ _ _ _ _ us hl => match us, hl with | [_, _], _ => rfl), g__law_is_text := PySem.W.mg_of X G a6, F__law_is_number := fun_mk (st := s__law_is_number) l7 c7 k7, b__law_is_number := (fun_mk (st := s__law_is_number) l7 c7 k7).binds (ps := ["x", "due"]) (fun _ _ _ _ _ _ us hl => match us, hl with | [_, _], _ => rfl), g__law_is_number := PySem.W.mg_of X G a7, F__law_gcd := fun_mk (st := s__law_gcd) l8 c8 k8, b__law_gcd := (fun_mk (st := s__law_gcd) l8 c8 k8).binds (ps := ["a", "b"]) (fun _ _ _ _ _ _ us hl => match us, hl with | [_, _], _ => rfl), g__law_gcd := PySem.W.mg_of X G a8, F__law_frac := fun_mk (st := s__law_frac) l9 c9 k9, b__law_frac := (fun_mk (st := s__law_frac) l9 c9 k9).binds (ps := ["a", "b"]) (fun _ _ _ _ _ _ us hl => match us, hl with | [_, _], _ => rfl), g__law_frac := PySem.W.mg_of X G a9, F__law_same := fun_mk (st := s__law_same) l10 c10 k10, b__law_same := (fun_mk (st := s__law_same) l10 c10 k10).binds (ps := ["x", "due"]) (fun _ _ _ _ _ _ us hl => match us, hl with | [_, _], _ => rfl), g__law_same := PySem.W.mg_of X G a10, F__law_any_number := fun_mk (st := s__law_any_number) l11 c11 k11, b__law_any_number := (fun_mk (st := s__law_any_number) l11 c11 k11).binds (ps := ["draw", "more"]) (fun _ _ _ _ _ _ us hl => match us, hl with | [_, _], _ => rfl), g__law_any_number := PySem.W.mg_of X G a11, F__law_read := fun_mk (st := s__law_read) l12 c12 k12, b__law_read := (fun_mk (st := s__law_read) l12 c12 k12).binds (ps := ["text"]) (fun _ _ _ _ _ _ us hl => match us, hl with | [_], _ => rfl), g__law_read := PySem.W.mg_of X G a12, F__law_meant := fun_mk (st := s__law_meant) l13 c13 k13, b__law_meant := (fun_mk (st := s__law_meant) l13 c13 k13).binds (ps := ["text"]) (fun _ _ _ _ _ _ us hl => match us, hl with | [_], _ => rfl), g__law_meant := PySem.W.mg_of X G a13, F_law := fun_mk (st := s_law) l14 c14 k14, b_law := (fun_mk (st := s_law) l14 c14 k14).binds (ps := ["script"]) (fun _ _ _ _ _ _ us hl => match us, hl with | [_], _ => rfl), g_law := PySem.W.mg_of X G a14, z_abs := PySem.W.mg_none_of X G z_abs, z_bool := PySem.W.mg_none_of X G z_bool, z_int := PySem.W.mg_none_of X G z_int, z_isinstance := PySem.W.mg_none_of X G z_isinstance, z_len := PySem.W.mg_none_of X G z_len, z_list := PySem.W.mg_none_of X G z_list, z_range := PySem.W.mg_none_of X G z_range, z_str := PySem.W.mg_none_of X G z_str, z_tuple := PySem.W.mg_none_of X G z_tuple, z_gcd := PySem.W.mg_of X G z_gcd, g_BadText := PySem.W.mg_of X G g_BadText, x_BadText := x_BadText, k_BadText := k_BadText, s_BadText := s_BadText, t_BadText := t_BadText, i_BadText := i_BadText, u_BadText := u_BadText, q__MOST_FIGURES := ⟨_, PySem.W.mg_of X G q__MOST_FIGURES⟩, q__FIGURES := ⟨_, PySem.W.mg_of X G q__FIGURES⟩ }
  exact ⟨_, fun s v => .of_eq rfl, fun base _ _ => (ok_law T).imp (law_sp law_true)⟩
end Gn
open PySem PySem.W PyProof.Rows
set_option maxHeartbeats 0 in
theorem PySem.Challenge.cw_rootfast_k04_texts_of_numbers_holds : PySem.Challenge.rw_rootfast_k04_texts_of_numbers.Holds := by
  w_on; o_law; k_head; (case hw => w_witness2)
  k_fill
  refine L2.walk_of (l := PySem.Challenge.rw_rootfast_k04_texts_of_numbers) (n := 63) (k := 44) (x := "script") (CX := fun w => L2.CX PySem.Challenge.rw_rootfast_k04_texts_of_numbers.prog w) (sp := fun w => Gn.spLaw _) rfl (by decide) rfl ⟨rfl, by decide, by decide⟩ (fun w h Y => PySem.W.kIn_of Y) ?F (fun _ _ a ns hl _ hS => ⟨a, ns, rfl, hS, hl, fun _ => rfl⟩) (fun _ _ _ _ _ h => Gn.cx_none h)
  case F =>
    intro w mg fa h KX G hmg
    refine' Gn.all_mk KX G hmg ?a0 ?l0 ?c0 ?k0 ?a1 ?l1 ?c1 ?k1 ?a2 ?l2 ?c2 ?k2 ?a3 ?l3 ?c3 ?k3 ?a4 ?l4 ?c4 ?k4 ?a5 ?l5 ?c5 ?k5 ?a6 ?l6 ?c6 ?k6 ?a7 ?l7 ?c7 ?k7 ?a8 ?l8 ?c8 ?k8 ?a9 ?l9 ?c9 ?k9 ?a10 ?l10 ?c10 ?k10 ?a11 ?l11 ?c11 ?k11 ?a12 ?l12 ?c12 ?k12 ?a13 ?l13 ?c13 ?k13 ?a14 ?l14 ?c14 ?k14 ?z_abs ?z_bool ?z_int ?z_isinstance ?z_len ?z_list ?z_range ?z_str ?z_tuple ?z_gcd ?g_BadText ?x_BadText ?k_BadText ?s_BadText ?t_BadText ?i_BadText ?u_BadText ?q__MOST_FIGURES ?q__FIGURES
    (case a0 => k_is); (case l0 => k_is); (case c0 => k_is); (case k0 => k_is); (case a1 => k_is); (case l1 => k_is); (case c1 => k_is); (case k1 => k_is); (case a2 => k_is); (case l2 => k_is); (case c2 => k_is); (case k2 => k_is); (case a3 => k_is); (case l3 => k_is); (case c3 => k_is); (case k3 => k_is); (case a4 => k_is); (case l4 => k_is); (case c4 => k_is); (case k4 => k_is); (case a5 => k_is); (case l5 => k_is); (case c5 => k_is); (case k5 => k_is); (case a6 => k_is); (case l6 => k_is); (case c6 => k_is); (case k6 => k_is); (case a7 => k_is); (case l7 => k_is); (case c7 => k_is); (case k7 => k_is); (case a8 => k_is); (case l8 => k_is); (case c8 => k_is); (case k8 => k_is); (case a9 => k_is); (case l9 => k_is); (case c9 => k_is); (case k9 => k_is); (case a10 => k_is); (case l10 => k_is); (case c10 => k_is); (case k10 => k_is); (case a11 => k_is); (case l11 => k_is); (case c11 => k_is); (case k11 => k_is); (case a12 => k_is); (case l12 => k_is); (case c12 => k_is); (case k12 => k_is); (case a13 => k_is); (case l13 => k_is); (case c13 => k_is); (case k13 => k_is); (case a14 => k_is); (case l14 => k_is); (case c14 => k_is); (case k14 => k_is); (case z_abs => k_is); (case z_bool => k_is); (case z_int => k_is); (case z_isinstance => k_is); (case z_len => k_is); (case z_list => k_is); (case z_range => k_is); (case z_str => k_is); (case z_tuple => k_is); (case z_gcd => k_is); (case g_BadText => k_is); (case x_BadText => k_exc); (case k_BadText => k_is); (case s_BadText => k_is); (case t_BadText => k_is); (case i_BadText => k_is); (case u_BadText => k_is); (case q__MOST_FIGURES => k_is); (case q__FIGURES => k_is)
