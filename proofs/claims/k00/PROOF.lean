import PyProof.Rows.All
import Wide.All
import OpenK.AllK
import Wide.FinOn
import HandS.ForMost
import HandS.ForExc
import HandS.ExcInit
import HandS.IsInst
import HandS.Wide
import HandS.Conv
import HandS.Flow
import HandS.Gcd
import HandS.TryOnly
import PyProof.ReprRoads
import HandS.WordsExc
import KE.KExcIs
import PySem.Challenge.RW_lanecross_k00_errors_and_their_fields
set_option Elab.async false
set_option linter.all false
set_option maxRecDepth 100000
set_option maxHeartbeats 4000000
/-! Values as trees over the hand layer: what is never changed is a tree, what is changed has an address. -/
namespace Z
open PySem L2 PySem.Spec PyProof.Rows

inductive D where
  | non | bl (b : Bool) | int (i : Int) | str (x : Str) | flt (b : UInt64) | ref (a : Addr) | ty (n : String)
  | lst (xs : List D) | tup (xs : List D) | dct (kvs : List (Key × D)) | obj (C : Addr) (fs : List (Str × D)) | exn (C : Addr) (fs : List (Str × D))
inductive MO where
  | lst (xs : List D) | dct (kvs : List (Key × D)) | ins (C : Addr) (fs : List (Str × D))
abbrev MH := Addr → Option MO
abbrev EnvD := List (Option D)
def mput (M : MH) (a : Addr) (o : MO) : MH := fun b => if b = a then some o else M b
theorem mput_same {M : MH} {a : Addr} {o : MO} : mput M a o a = some o := by unfold mput; rw [if_pos rfl]
theorem mput_ne {M : MH} {a b : Addr} {o : MO} (h : b ≠ a) : mput M a o b = M b := by unfold mput; rw [if_neg h]
def mdel (M : MH) (a : Addr) : MH := fun b => if b = a then none else M b
theorem mdel_same {M : MH} {a : Addr} : mdel M a a = none := by unfold mdel; rw [if_pos rfl]
theorem mdel_ne {M : MH} {a b : Addr} (h : b ≠ a) : mdel M a b = M b := by unfold mdel; rw [if_neg h]

def WrL (K : PySem.W.Frag) (a : Addr) (xs : List V) : Prop :=
  ∃ (o : Obj) (its : Array Value) (n : Nat), K.lookup a = some o ∧ o.cls = .type "list" ∧ o.dict = none ∧ o.data = .seq its n ∧ its.size ≤ sizeLine ∧ Vals xs its.toList
def WrT (K : PySem.W.Frag) (a : Addr) (xs : List V) : Prop :=
  ∃ (o : Obj) (its : Array Value) (n : Nat), K.lookup a = some o ∧ o.cls = .type "tuple" ∧ o.data = .seq its n ∧ its.size ≤ sizeLine ∧ Vals xs its.toList
def ReL (K : PySem.W.Frag) (H : Hp) (M : MH) (a : Addr) (xs : List V) : Prop := (M a = none ∧ Rd H a (.lst xs)) ∨ WrL K a xs
def ReT (K : PySem.W.Frag) (H : Hp) (M : MH) (a : Addr) (xs : List V) : Prop := (M a = none ∧ Rd H a (.tup xs)) ∨ WrT K a xs
theorem ReL.sq {K : PySem.W.Frag} {H : Hp} {M : MH} {a : Addr} {xs : List V} (h : ReL K H M a xs) : SqL K H a xs := h.elim (fun h => .inl h.2) .inr
theorem ReT.sq {K : PySem.W.Frag} {H : Hp} {M : MH} {a : Addr} {xs : List V} (h : ReT K H M a xs) : SqT K H a xs := h.elim (fun h => .inl h.2) .inr

/-- an exception that was caught: of the class at C, its own dict at dx -/
def ExcAt (a C : Addr) (dx : Option Addr) : Heap → Prop := fun h => ∃ oe vs, h.get? a = some oe ∧ oe.cls = .ref C ∧ oe.dict = dx ∧ oe.data = .fields vs

mutual
inductive Rep (K : PySem.W.Frag) (H : Hp) (M : MH) : V → D → Prop
  | non : Rep K H M .non .non
  | bl (b) : Rep K H M (.bl b) (.bl b)
  | int (i) : Rep K H M (.int i) (.int i)
  | str (x) : Rep K H M (.str x) (.str x)
  | flt (x) : Rep K H M (.flt x) (.flt x)
  | ref (a) : Rep K H M (.ref a) (.ref a)
  | ty (n) : Rep K H M (.ty n) (.ty n)
  | lst {a vs xs} : ReL K H M a vs → Reps K H M vs xs → Rep K H M (.ref a) (.lst xs)
  | tup {a vs xs} : ReT K H M a vs → Reps K H M vs xs → Rep K H M (.ref a) (.tup xs)
  | dct {a kvs kds} : M a = none → H a = some (.dK kvs) → RepK K H M kvs kds → Rep K H M (.ref a) (.dct kds)
  | obj {a C dx fs ds} : M a = none → H a = some (.ins C dx fs) → RepF K H M fs ds → Rep K H M (.ref a) (.obj C ds)
  | exn {a C dx fs ds} : M a = none → M dx = none → H a = some (.ext (ExcAt a C (some dx))) → H dx = some (.xd fs) → RepF K H M fs ds → Rep K H M (.ref a) (.exn C ds)
  | exn0 {a C} : M a = none → H a = some (.ext (ExcAt a C none)) → Rep K H M (.ref a) (.exn C [])
inductive Reps (K : PySem.W.Frag) (H : Hp) (M : MH) : List V → List D → Prop
  | nil : Reps K H M [] []
  | cons {v d vs ds} : Rep K H M v d → Reps K H M vs ds → Reps K H M (v :: vs) (d :: ds)
inductive RepK (K : PySem.W.Frag) (H : Hp) (M : MH) : List (Key × V) → List (Key × D) → Prop
  | nil : RepK K H M [] []
  | cons {k v d vs ds} : Rep K H M v d → RepK K H M vs ds → RepK K H M ((k, v) :: vs) ((k, d) :: ds)
inductive RepF (K : PySem.W.Frag) (H : Hp) (M : MH) : List (Str × V) → List (Str × D) → Prop
  | nil : RepF K H M [] []
  | cons {k v d vs ds} : Rep K H M v d → RepF K H M vs ds → RepF K H M ((k, v) :: vs) ((k, d) :: ds)
end

/-- what is a tree stays -/
def Good (H : Hp) (M : MH) (H' : Hp) (M' : MH) : Prop := ∀ a o, H a = some o → M a = none → H' a = some o ∧ M' a = none
theorem Good.refl {H : Hp} {M : MH} : Good H M H M := fun _ _ h m => ⟨h, m⟩
theorem Good.trans {H H1 H2 : Hp} {M M1 M2 : MH} (a : Good H M H1 M1) (b : Good H1 M1 H2 M2) : Good H M H2 M2 := fun c o h m => let ⟨h1, m1⟩ := a c o h m; b c o h1 m1

section
variable {K : PySem.W.Frag} {H H' : Hp} {M M' : MH}
theorem Rd.good {a : Addr} {u : HO} (g : Good H M H' M') (m : M a = none) (r : Rd H a u) : Rd H' a u ∧ M' a = none := by
  rcases r with r | ⟨o, r⟩
  · exact ⟨.inl (g a _ r m).1, (g a _ r m).2⟩
  · exact ⟨.inr ⟨o, (g a _ r m).1⟩, (g a _ r m).2⟩
theorem ReL.good {a : Addr} {xs : List V} (g : Good H M H' M') (h : ReL K H M a xs) : ReL K H' M' a xs := by
  rcases h with ⟨m, r⟩ | h
  · exact .inl ⟨(Rd.good g m r).2, (Rd.good g m r).1⟩
  · exact .inr h
theorem ReT.good {a : Addr} {xs : List V} (g : Good H M H' M') (h : ReT K H M a xs) : ReT K H' M' a xs := by
  rcases h with ⟨m, r⟩ | h
  · exact .inl ⟨(Rd.good g m r).2, (Rd.good g m r).1⟩
  · exact .inr h
mutual
theorem Rep.good (g : Good H M H' M') : ∀ {v : V} {d : D}, Rep K H M v d → Rep K H' M' v d
  | _, _, .non => .non
  | _, _, .bl b => .bl b
  | _, _, .int i => .int i
  | _, _, .str x => .str x
  | _, _, .flt x => .flt x
  | _, _, .ref a => .ref a
  | _, _, .ty n => .ty n
  | _, _, .lst h r => .lst (h.good g) (Reps.good g r)
  | _, _, .tup h r => .tup (h.good g) (Reps.good g r)
  | _, _, .dct m h r => .dct (g _ _ h m).2 (g _ _ h m).1 (RepK.good g r)
  | _, _, .obj m h r => .obj (g _ _ h m).2 (g _ _ h m).1 (RepF.good g r)
  | _, _, .exn0 m h => .exn0 (g _ _ h m).2 (g _ _ h m).1
  | _, _, .exn m m2 h h2 r => .exn (g _ _ h m).2 (g _ _ h2 m2).2 (g _ _ h m).1 (g _ _ h2 m2).1 (RepF.good g r)
theorem Reps.good (g : Good H M H' M') : ∀ {vs : List V} {ds : List D}, Reps K H M vs ds → Reps K H' M' vs ds
  | _, _, .nil => .nil
  | _, _, .cons r t => .cons (Rep.good g r) (Reps.good g t)
theorem RepK.good (g : Good H M H' M') : ∀ {vs : List (Key × V)} {ds : List (Key × D)}, RepK K H M vs ds → RepK K H' M' vs ds
  | _, _, .nil => .nil
  | _, _, .cons r t => .cons (Rep.good g r) (RepK.good g t)
theorem RepF.good (g : Good H M H' M') : ∀ {vs : List (Str × V)} {ds : List (Str × D)}, RepF K H M vs ds → RepF K H' M' vs ds
  | _, _, .nil => .nil
  | _, _, .cons r t => .cons (Rep.good g r) (RepF.good g t)
end
theorem Reps.length : ∀ {vs : List V} {ds : List D}, Reps K H M vs ds → vs.length = ds.length
  | _, _, .nil => rfl
  | _, _, .cons _ t => by simp [Reps.length t]
theorem Reps.get : ∀ {vs : List V} {ds : List D} {i : Nat} {d : D}, Reps K H M vs ds → ds[i]? = some d → ∃ v, vs[i]? = some v ∧ Rep K H M v d
  | _, _, _, _, .nil, e => by simp at e
  | _, _, 0, _, .cons r _, e => by simp at e; subst e; exact ⟨_, rfl, r⟩
  | _, _, i + 1, d, .cons _ t, e => by
    obtain ⟨v, h1, h2⟩ := Reps.get (i := i) t (by simpa using e)
    exact ⟨v, by simpa using h1, h2⟩
theorem Reps.get' : ∀ {vs : List V} {ds : List D} {i : Nat} {v : V}, Reps K H M vs ds → vs[i]? = some v → ∃ d, ds[i]? = some d ∧ Rep K H M v d
  | _, _, _, _, .nil, e => by simp at e
  | _, _, 0, _, .cons r _, e => by simp at e; subst e; exact ⟨_, rfl, r⟩
  | _, _, i + 1, d, .cons _ t, e => by
    obtain ⟨v, h1, h2⟩ := Reps.get' (i := i) t (by simpa using e)
    exact ⟨v, by simpa using h1, h2⟩
theorem Reps.append : ∀ {vs ws : List V} {ds es : List D}, Reps K H M vs ds → Reps K H M ws es → Reps K H M (vs ++ ws) (ds ++ es)
  | _, _, _, _, .nil, s => s
  | _, _, _, _, .cons r t, s => .cons r (Reps.append t s)
theorem Reps.set {v : V} {d : D} (r : Rep K H M v d) : ∀ {vs : List V} {ds : List D} (i : Nat), Reps K H M vs ds → Reps K H M (vs.set i v) (ds.set i d)
  | _, _, _, .nil => .nil
  | _, _, 0, .cons _ t => .cons r t
  | _, _, i + 1, .cons q t => .cons q (Reps.set r i t)
theorem Reps.take : ∀ {vs : List V} {ds : List D} (n : Nat), Reps K H M vs ds → Reps K H M (vs.take n) (ds.take n)
  | _, _, 0, _ => .nil
  | _, _, _ + 1, .nil => .nil
  | _, _, n + 1, .cons r t => .cons r (Reps.take n t)
theorem Reps.drop : ∀ {vs : List V} {ds : List D} (n : Nat), Reps K H M vs ds → Reps K H M (vs.drop n) (ds.drop n)
  | _, _, 0, r => r
  | _, _, _ + 1, .nil => .nil
  | _, _, n + 1, .cons _ t => Reps.drop n t
theorem RepF.lookup {f : Str} : ∀ {vs : List (Str × V)} {ds : List (Str × D)} {d : D}, RepF K H M vs ds → ds.lookup f = some d → ∃ v, vs.lookup f = some v ∧ Rep K H M v d
  | _, _, _, .nil, e => by simp at e
  | _, _, d, .cons (k := k) r t, e => by
    rw [List.lookup_cons] at e ⊢
    cases h : f == k with
    | true => rw [h] at e; cases e; exact ⟨_, rfl, r⟩
    | false => rw [h] at e; exact RepF.lookup t e
theorem RepF.length : ∀ {vs : List (Str × V)} {ds : List (Str × D)}, RepF K H M vs ds → vs.length = ds.length
  | _, _, .nil => rfl
  | _, _, .cons _ t => by simp [RepF.length t]
theorem RepF.lookup_none {f : Str} : ∀ {vs : List (Str × V)} {ds : List (Str × D)}, RepF K H M vs ds → ds.lookup f = none → vs.lookup f = none
  | _, _, .nil, _ => rfl
  | _, _, .cons (k := k) r t, e => by
    rw [List.lookup_cons] at e ⊢
    cases h : f == k with
    | true => rw [h] at e; cases e
    | false => rw [h] at e; exact RepF.lookup_none t e
end

/-- what has an address -/
inductive RepM (K : PySem.W.Frag) (H : Hp) (M : MH) : HO → MO → Prop
  | lst {vs xs} : Reps K H M vs xs → RepM K H M (.lst vs) (.lst xs)
  | dct {kvs kds} : RepK K H M kvs kds → RepM K H M (.dK kvs) (.dct kds)
  | ins {C dx fs ds o} : M dx = none → H dx = some o → RepF K H M fs ds → RepM K H M (.ins C dx fs) (.ins C ds)
def Mut (K : PySem.W.Frag) (H : Hp) (M : MH) : Prop := ∀ a mo, M a = some mo → ∃ ho, H a = some ho ∧ RepM K H M ho mo
def Slots (K : PySem.W.Frag) (H : Hp) (M : MH) (σ : L2.St) (τ : EnvD) : Prop := σ.length = τ.length ∧ ∀ (i : Nat) (d : D), τ[i]? = some (some d) → ∃ v, σ[i]? = some (some v) ∧ Rep K H M v d
section
variable {K : PySem.W.Frag} {H H' : Hp} {M M' : MH} {σ : L2.St} {τ : EnvD}
theorem RepM.good (g : Good H M H' M') {ho : HO} {mo : MO} (h : RepM K H M ho mo) : RepM K H' M' ho mo := by
  cases h with
  | lst r => exact .lst (r.good g)
  | dct r => exact .dct (r.good g)
  | ins m e r => exact .ins (g _ _ e m).2 (g _ _ e m).1 (r.good g)
theorem Slots.good (g : Good H M H' M') (h : Slots K H M σ τ) : Slots K H' M' σ τ := ⟨h.1, fun i d e => let ⟨v, e1, r⟩ := h.2 i d e; ⟨v, e1, r.good g⟩⟩
theorem Slots.set {i : Nat} {v : V} {d : D} (h : Slots K H M σ τ) (r : Rep K H M v d) : Slots K H M (σ.set i (some v)) (τ.set i (some d)) := by
  refine ⟨by simp [h.1], fun j e q => ?_⟩
  by_cases hj : i = j
  · subst hj
    by_cases hl : i < τ.length
    · rw [List.getElem?_set_self hl] at q
      cases q
      exact ⟨v, List.getElem?_set_self (by rw [h.1]; exact hl), r⟩
    · rw [List.getElem?_eq_none (by simpa using hl)] at q
      cases q
  · rw [List.getElem?_set_ne hj] at q ⊢
    exact h.2 j e q
theorem Slots.unset {i : Nat} (h : Slots K H M σ τ) : Slots K H M (σ.set i none) (τ.set i none) := by
  refine ⟨by simp [h.1], fun j e q => ?_⟩
  by_cases hj : i = j
  · subst hj
    by_cases hl : i < τ.length
    · rw [List.getElem?_set_self hl] at q
      cases q
    · rw [List.getElem?_eq_none (by simpa using hl)] at q
      cases q
  · rw [List.getElem?_set_ne hj] at q ⊢
    exact h.2 j e q
end

/-! ### readings over trees -/
abbrev WD := Addr → List (Str × D) → EnvD → MH → Prop
abbrev QD := D → MH → Prop
abbrev TED := WD → EnvD → MH → QD → Prop
abbrev TTD := WD → EnvD → MH → (Bool → MH → Prop) → Prop
abbrev TAD := WD → EnvD → MH → (List D → MH → Prop) → Prop
structure EndsD where
  nx : EnvD → MH → Prop
  rt : QD
  bk : EnvD → MH → Prop := fun _ _ => False
  ct : EnvD → MH → Prop := fun _ _ => False
abbrev TSD := WD → EndsD → EnvD → MH → Prop

/-- an exception's own dict -/
def ExD (K : PySem.W.Frag) (H : Hp) (M : MH) (d : Option Addr) (fs : List (Str × D)) : Prop :=
  (∃ dx ws, d = some dx ∧ M dx = none ∧ H dx = some (.xd ws) ∧ RepF K H M ws fs) ∨ (d = none ∧ fs = [])
/-- the wish for exceptions, over trees -/
def liftW (K : PySem.W.Frag) (H0 : Hp) (M0 : MH) (W : WD) : WX := fun cls d σ H => ∃ C ds τ M, cls = .ref C ∧ ExD K H M d ds ∧ Good H0 M0 H M ∧ Slots K H M σ τ ∧ Mut K H M ∧ W C ds τ M
def upE (K : PySem.W.Frag) (H0 : Hp) (M0 : MH) (W : WD) (t : TED) : TE := fun σ H Q => ∃ τ M F, Good H0 M0 H M ∧ Slots K H M σ τ ∧ Mut K H M ∧ t W τ M F ∧
  ∀ v H' d M', Good H M H' M' → Mut K H' M' → Rep K H' M' v d → F d M' → Q v H'
def upT (K : PySem.W.Frag) (H0 : Hp) (M0 : MH) (W : WD) (t : TTD) : TT := fun σ H Q => ∃ τ M F, Good H0 M0 H M ∧ Slots K H M σ τ ∧ Mut K H M ∧ t W τ M F ∧
  ∀ b H' M', Good H M H' M' → Mut K H' M' → F b M' → Q b H'
def upA (K : PySem.W.Frag) (H0 : Hp) (M0 : MH) (W : WD) (t : TAD) : TA := fun σ H Q => ∃ τ M F, Good H0 M0 H M ∧ Slots K H M σ τ ∧ Mut K H M ∧ t W τ M F ∧
  ∀ vs H' ds M', Good H M H' M' → Mut K H' M' → Reps K H' M' vs ds → F ds M' → Q vs H'
def liftN (K : PySem.W.Frag) (H0 : Hp) (M0 : MH) (N : EnvD → MH → Prop) : L2.St → Hp → Prop := fun σ H => ∃ τ M, Good H0 M0 H M ∧ Slots K H M σ τ ∧ Mut K H M ∧ N τ M
def liftR (K : PySem.W.Frag) (H0 : Hp) (M0 : MH) (R : QD) : VK := fun v H => ∃ d M, Good H0 M0 H M ∧ Mut K H M ∧ Rep K H M v d ∧ R d M
def upS (K : PySem.W.Frag) (H0 : Hp) (M0 : MH) (W : WD) (t : TSD) : TS := fun D σ H => ∃ τ M F, Good H0 M0 H M ∧ Slots K H M σ τ ∧ Mut K H M ∧ t W F τ M ∧
  (∀ σ' H', liftN K H M F.nx σ' H' → D.nx σ' H') ∧ (∀ v H', liftR K H M F.rt v H' → D.rt v H') ∧ (∀ σ' H', liftN K H M F.bk σ' H' → D.bk σ' H') ∧ (∀ σ' H', liftN K H M F.ct σ' H' → D.ct σ' H')
theorem liftN.tr {K : PySem.W.Frag} {H H1 H2 : Hp} {M M1 : MH} {N : EnvD → MH → Prop} {σ : L2.St} (g : Good H M H1 M1) (h : liftN K H1 M1 N σ H2) : liftN K H M N σ H2 := let ⟨τ, M2, g2, sl, mu, q⟩ := h; ⟨τ, M2, g.trans g2, sl, mu, q⟩
theorem liftR.tr {K : PySem.W.Frag} {H H1 H2 : Hp} {M M1 : MH} {R : QD} {v : V} (g : Good H M H1 M1) (h : liftR K H1 M1 R v H2) : liftR K H M R v H2 := let ⟨d, M2, g2, mu, r, q⟩ := h; ⟨d, M2, g.trans g2, mu, r, q⟩

/-- a place where code runs: X up to what is wished of exceptions -/
structure At (X : Cx) (pn : List (Addr × Obj)) (xe : Value → Shared → Prop) (H0 : Hp) (M0 : MH) (W : WD) : Prop where
  tk : Takes (X.tr pn xe) (liftW X.K H0 M0 W)
  po : PassesOwn (model X.prog X.w) X.A X.env xe
def PD (X : Cx) (e : Expr) (t : TED) : Prop := ∀ pn xe H0 M0 W, At X pn xe H0 M0 W → PE (X.tr pn xe) e (upE X.K H0 M0 W t)
def PDT (X : Cx) (e : Expr) (t : TTD) : Prop := ∀ pn xe H0 M0 W, At X pn xe H0 M0 W → PT (X.tr pn xe) e (upT X.K H0 M0 W t)
def PDW (X : Cx) (e : Expr) (t : TTD) : Prop := ∀ pn xe H0 M0 W, At X pn xe H0 M0 W → PW (X.tr pn xe) e (upT X.K H0 M0 W t)
def PDA (X : Cx) (es : List Expr) (t : TAD) : Prop := ∀ pn xe H0 M0 W, At X pn xe H0 M0 W → PA (X.tr pn xe) es (upA X.K H0 M0 W t)
def PDS (X : Cx) (s : Stmt) (t : TSD) : Prop := ∀ pn xe H0 M0 W, At X pn xe H0 M0 W → PS (X.tr pn xe) s (upS X.K H0 M0 W t)
def PDB (X : Cx) (s : List Stmt) (t : TSD) : Prop := ∀ pn xe H0 M0 W, At X pn xe H0 M0 W → PSs (X.tr pn xe) s (upS X.K H0 M0 W t)
end Z

set_option Elab.async false
set_option linter.all false
set_option maxRecDepth 100000
set_option maxHeartbeats 4000000
namespace Z
open PySem L2 PySem.Spec PyProof.Rows

theorem imE {X : Cx} {e : Expr} {t t' : TE} (h : PE X e t) (i : ∀ σ H Q, t' σ H Q → t σ H Q) : PE X e t' := ⟨fun pins s σ H Q I q => h.run pins s σ H Q I (i σ H Q q)⟩
theorem imT {X : Cx} {e : Expr} {t t' : TT} (h : PT X e t) (i : ∀ σ H Q, t' σ H Q → t σ H Q) : PT X e t' := ⟨fun pins s σ H Q I q => h.run pins s σ H Q I (i σ H Q q)⟩
theorem imW {X : Cx} {e : Expr} {t t' : TT} (h : PW X e t) (i : ∀ σ H Q, t' σ H Q → t σ H Q) : PW X e t' := ⟨fun w pins s σ H Q I q => h.run w pins s σ H Q I (i σ H Q q)⟩
theorem imA {X : Cx} {e : List Expr} {t t' : TA} (h : PA X e t) (i : ∀ σ H Q, t' σ H Q → t σ H Q) : PA X e t' := ⟨fun pos pins s σ H Q I q => h.run pos pins s σ H Q I (i σ H Q q)⟩
theorem imS {X : Cx} {e : Stmt} {t t' : TS} (h : PS X e t) (i : ∀ D σ H, t' D σ H → t D σ H) : PS X e t' := ⟨fun pins s σ H D I q => h.run pins s σ H D I (i D σ H q)⟩
theorem imB {X : Cx} {e : List Stmt} {t t' : TS} (h : PSs X e t) (i : ∀ D σ H, t' D σ H → t D σ H) : PSs X e t' := ⟨fun pins s σ H D I q => h.run pins s σ H D I (i D σ H q)⟩

/-! ### slots by their places -/
def getN : EnvD → Nat → Option D
  | [], _ => none
  | x :: _, 0 => x
  | _ :: r, n + 1 => getN r n
def setN : EnvD → Nat → Option D → EnvD
  | [], _, _ => []
  | _ :: r, 0, d => d :: r
  | x :: r, n + 1, d => x :: setN r n d
theorem getN_some : ∀ {τ : EnvD} {i : Nat} {d : D}, getN τ i = some d → τ[i]? = some (some d)
  | [], _, _, h => by cases h
  | x :: _, 0, d, h => by simp [getN] at h; subst h; rfl
  | _ :: r, n + 1, d, h => by simpa using getN_some (τ := r) (i := n) h
theorem setN_eq : ∀ (τ : EnvD) (i : Nat) (d : Option D), setN τ i d = τ.set i d
  | [], _, _ => rfl
  | _ :: _, 0, _ => rfl
  | x :: r, n + 1, d => by show x :: setN r n d = x :: r.set n d; rw [setN_eq r n d]

/-! ### relations between operations on values and on trees -/
abbrev R2D := D → D → MH → QD → Prop
abbrev RCD := List D → MH → QD → Prop
/-- behind an operation -/
abbrev Fin (K : PySem.W.Frag) (H : Hp) (M : MH) (F : QD) (Q : VK) : Prop := ∀ v H' d M', Good H M H' M' → Mut K H' M' → Rep K H' M' v d → F d M' → Q v H'
def SimOp (K : PySem.W.Frag) (r : R2) (rd : R2D) : Prop := ∀ x y d e H M F Q, Rep K H M x d → Rep K H M y e → Mut K H M → rd d e M F → Fin K H M F Q → r x y H Q
def SimU (K : PySem.W.Frag) (r : V → Hp → VK → Prop) (rd : D → MH → QD → Prop) : Prop := ∀ x d H M F Q, Rep K H M x d → Mut K H M → rd d M F → Fin K H M F Q → r x H Q
def SimC (K : PySem.W.Frag) (r : List V → Hp → VK → Prop) (rd : RCD) : Prop := ∀ xs ds H M F Q, Reps K H M xs ds → Mut K H M → rd ds M F → Fin K H M F Q → r xs H Q

/-! ### expressions -/
def tVarD (i : Nat) : TED := fun _ τ M Q => match getN τ i with | some d => Q d M | none => False
def tCD (d : D) : TED := fun _ _ M Q => Q d M
def tOpD (r : R2D) (ta tb : TED) : TED := fun W τ M Q => ta W τ M fun x M1 => tb W τ M1 fun y M2 => r x y M2 Q
def tUnD (r : D → MH → QD → Prop) (ta : TED) : TED := fun W τ M Q => ta W τ M fun x M1 => r x M1 Q
def tNilD : TAD := fun _ _ M Q => Q [] M
def tConsD (ta : TED) (tr : TAD) : TAD := fun W τ M Q => ta W τ M fun x M1 => tr W τ M1 fun xs M2 => Q (x :: xs) M2
def tCBD (r : RCD) (t : TAD) : TED := fun W τ M Q => t W τ M fun ds M1 => r ds M1 Q
section
variable {X : Cx} {e a b c : Expr} {es : List Expr} {t ta tb tc : TED} {ts : TAD} {pos p : Pos}

theorem upE_fin {K : PySem.W.Frag} {H0 : Hp} {M0 : MH} {W : WD} {σ : L2.St} {H : Hp} {M : MH} {τ : EnvD} {t : TED} {F : QD} {Q : VK} (g0 : Good H0 M0 H M) (sl : Slots K H M σ τ) (mu : Mut K H M) (h : t W τ M F) (k : Fin K H M F Q) : upE K H0 M0 W t σ H Q :=
  ⟨τ, M, F, g0, sl, mu, h, k⟩

theorem pd_var (i : Nat) {x : Str} (hN : X.N[i]? = some x := by rfl) (hv : Vis X.env.scope x := by first | exact Or.inl rfl | exact Or.inr (Or.inl rfl) | exact Or.inr (Or.inr rfl)) (hd : (x == ("__debug__" : Str)) = false := by decide)
    (hcd : (x == ("__classdict__" : Str)) = false := by decide) : PD X (.Name x pos) (tVarD i) := fun pn xe H0 M0 W at_ =>
  imE (pe_var (X := X.tr pn xe) hN hv hd hcd) fun σ H Q ⟨τ, M, F, g0, sl, mu, h, k⟩ => by
    unfold tVarD at h
    cases q : getN τ i with
    | none => rw [q] at h; exact h.elim
    | some d =>
      rw [q] at h
      obtain ⟨v, e1, r⟩ := sl.2 i d (getN_some q)
      exact ⟨v, e1, k v H d M .refl mu r h⟩
theorem pd_c {v : V} {d : D} (h : ∀ pn xe, PE (X.tr pn xe) e (tC v)) (r : ∀ K H M, Rep K H M v d) : PD X e (tCD d) := fun pn xe H0 M0 W at_ =>
  imE (h pn xe) fun σ H Q ⟨τ, M, F, g0, sl, mu, h, k⟩ => k v H d M .refl mu (r _ _ _) h
theorem pd_int {i j} : PD X (.Constant (.int i) j pos) (tCD (.int i)) := pd_c (fun _ _ => pe_int) fun _ _ _ => .int i
theorem pd_bl {i j} : PD X (.Constant (.bool i) j pos) (tCD (.bl i)) := pd_c (fun _ _ => pe_bl) fun _ _ _ => .bl i
theorem pd_non {j} : PD X (.Constant .none j pos) (tCD .non) := pd_c (fun _ _ => pe_non) fun _ _ _ => .non
theorem pd_str {i j} : PD X (.Constant (.str i) j pos) (tCD (.str i)) := pd_c (fun _ _ => pe_str) fun _ _ _ => .str i
/-- a def, a class -/
theorem pd_glob {x : Str} {f : Addr} (hm : X.mg x = some (.ref f)) (hg : Gl X x := by rfl) (hd : (x == ("__debug__" : Str)) = false := by decide) : PD X (.Name x pos) (tCD (.ref f)) :=
  pd_c (fun pn xe => pe_glob (X := X.tr pn xe) (v := .ref f) hg hm rfl hd) fun _ _ _ => .ref f
/-- a built-in type -/
theorem pd_ty {x : Str} {n : String} (hm : X.mg x = none) (hv : bootBuiltins x = some (.type n) := by decide +kernel) (hg : Gl X x := by rfl) (hn : x ≠ "__name__" := by decide) (hd : (x == ("__debug__" : Str)) = false := by decide) : PD X (.Name x pos) (tCD (.ty n)) :=
  pd_c (fun pn xe => pe_bltn (X := X.tr pn xe) (v := .ty n) hg hm hv rfl hn hd) fun _ _ _ => .ty n

theorem pd_op {op : Operator} {r : R2} {rd : R2D} (ho : ∀ pn xe, OpR (X.tr pn xe) (binaryOp op) r) (hs : SimOp X.K r rd) (ha : PD X a ta) (hb : PD X b tb) : PD X (.BinOp a op b pos) (tOpD rd ta tb) := fun pn xe H0 M0 W at_ =>
  imE (pe_op (ho pn xe) (ha pn xe H0 M0 W at_) (hb pn xe H0 M0 W at_)) fun σ H Q ⟨τ, M, F, g0, sl, mu, h, k⟩ =>
    upE_fin g0 sl mu h fun x H1 d M1 g1 mu1 r1 h1 => upE_fin (g0.trans g1) (sl.good g1) mu1 h1 fun y H2 e M2 g2 mu2 r2 h2 =>
      hs x y d e H2 M2 F Q (r1.good g2) r2 mu2 h2 fun v H' d' M' g' mu' r' f' => k v H' d' M' ((g1.trans g2).trans g') mu' r' f'
theorem pd_cmp {op : CmpOp} {r : R2} {rd : R2D} (ho : ∀ pn xe, OpR (X.tr pn xe) (compareOp op) r) (hs : SimOp X.K r rd) (ha : PD X a ta) (hb : PD X b tb) (hm : behindInMarks op b = false := by first | exact nomark _ | rfl) : PD X (.Compare a [op] [b] pos) (tOpD rd ta tb) := fun pn xe H0 M0 W at_ =>
  imE (pe_cmpR (ho pn xe) (ha pn xe H0 M0 W at_) (hb pn xe H0 M0 W at_) hm) fun σ H Q ⟨τ, M, F, g0, sl, mu, h, k⟩ =>
    upE_fin g0 sl mu h fun x H1 d M1 g1 mu1 r1 h1 => upE_fin (g0.trans g1) (sl.good g1) mu1 h1 fun y H2 e M2 g2 mu2 r2 h2 =>
      hs x y d e H2 M2 F Q (r1.good g2) r2 mu2 h2 fun v H' d' M' g' mu' r' f' => k v H' d' M' ((g1.trans g2).trans g') mu' r' f'
theorem pd_un {op : UnaryOp} {r : V → Hp → VK → Prop} {rd : D → MH → QD → Prop} (ho : ∀ pn xe, UnR (X.tr pn xe) (unaryOp op) r) (hs : SimU X.K r rd) (ha : PD X a ta) : PD X (.UnaryOp op a pos) (tUnD rd ta) := fun pn xe H0 M0 W at_ =>
  imE (pe_un (ho pn xe) (ha pn xe H0 M0 W at_)) fun σ H Q ⟨τ, M, F, g0, sl, mu, h, k⟩ =>
    upE_fin g0 sl mu h fun x H1 d M1 g1 mu1 r1 h1 => hs x d H1 M1 F Q r1 mu1 h1 fun v H' d' M' g' mu' r' f' => k v H' d' M' (g1.trans g') mu' r' f'

/-! ### arguments, displays -/
theorem pda_nil : PDA X [] tNilD := fun pn xe H0 M0 W at_ => imA pa_nil fun σ H Q ⟨τ, M, F, g0, sl, mu, h, k⟩ => k [] H [] M .refl mu .nil h
theorem pda_cons (ha : PD X e t) (hr : PDA X es ts) (hs : starEach (e :: es) X.env = (false, eval e X.env) :: starEach es X.env := by rfl) : PDA X (e :: es) (tConsD t ts) := fun pn xe H0 M0 W at_ =>
  imA (pa_cons (X := X.tr pn xe) (ha pn xe H0 M0 W at_) (hr pn xe H0 M0 W at_) hs) fun σ H Q ⟨τ, M, F, g0, sl, mu, h, k⟩ =>
    upE_fin g0 sl mu h fun x H1 d M1 g1 mu1 r1 h1 => ⟨τ, M1, _, g0.trans g1, sl.good g1, mu1, h1, fun xs H2 ds M2 g2 mu2 r2 h2 => k (x :: xs) H2 (d :: ds) M2 (g1.trans g2) mu2 (.cons (r1.good g2) r2) h2⟩

theorem good_new {H : Hp} {M : MH} {p : Addr} {o : HO} (hp : H p = none) : Good H M (upd H p o) M := fun a u h m => ⟨by rw [upd_ne (ne_of_none h hp)]; exact h, m⟩
theorem good_put {H : Hp} {M : MH} {p : Addr} {o : HO} {mo : MO} (hp : H p = none) : Good H M (upd H p o) (mput M p mo) := fun a u h m => ⟨by rw [upd_ne (ne_of_none h hp)]; exact h, by rw [mput_ne (ne_of_none h hp)]; exact m⟩
theorem mut_none {K : PySem.W.Frag} {H : Hp} {M : MH} {p : Addr} (mu : Mut K H M) (hp : H p = none) : M p = none := by
  cases q : M p with
  | none => rfl
  | some mo => obtain ⟨ho, e, _⟩ := mu p mo q; rw [hp] at e; cases e
theorem mut_new {K : PySem.W.Frag} {H : Hp} {M : MH} {p : Addr} {o : HO} (mu : Mut K H M) (hp : H p = none) : Mut K (upd H p o) M := fun a mo e => by
  obtain ⟨ho, e1, r⟩ := mu a mo e
  exact ⟨ho, by rw [upd_ne (ne_of_none e1 hp)]; exact e1, r.good (good_new hp)⟩
theorem mut_put {K : PySem.W.Frag} {H : Hp} {M : MH} {p : Addr} {o : HO} {mo : MO} (mu : Mut K H M) (hp : H p = none) (r : RepM K H M o mo) : Mut K (upd H p o) (mput M p mo) := fun a mo' e => by
  by_cases h : a = p
  · subst h
    rw [mput_same] at e
    cases e
    exact ⟨o, upd_same, r.good (good_put hp)⟩
  · rw [mput_ne h] at e
    obtain ⟨ho, e1, r⟩ := mu a mo' e
    exact ⟨ho, by rw [upd_ne h]; exact e1, r.good (good_put hp)⟩
theorem good_write {H : Hp} {M : MH} {p : Addr} {o : HO} {mo mo' : MO} (hp : M p = some mo') : Good H M (upd H p o) (mput M p mo) := fun a u h m => by
  have n : a ≠ p := fun e => by rw [e, hp] at m; cases m
  exact ⟨by rw [upd_ne n]; exact h, by rw [mput_ne n]; exact m⟩
theorem mut_write {K : PySem.W.Frag} {H : Hp} {M : MH} {p : Addr} {o : HO} {mo mo' : MO} (mu : Mut K H M) (hp : M p = some mo') (r : RepM K H M o mo) : Mut K (upd H p o) (mput M p mo) := fun a m e => by
  by_cases h : a = p
  · subst h
    rw [mput_same] at e
    cases e
    exact ⟨o, upd_same, r.good (good_write hp)⟩
  · rw [mput_ne h] at e
    obtain ⟨ho, e1, r⟩ := mu a m e
    exact ⟨ho, by rw [upd_ne h]; exact e1, r.good (good_write hp)⟩
theorem good_del {H : Hp} {M : MH} {p : Addr} : Good H M H (mdel M p) := fun a u h m => ⟨h, by unfold mdel; split <;> first | rfl | exact m⟩
theorem mut_del {K : PySem.W.Frag} {H : Hp} {M : MH} {p : Addr} (mu : Mut K H M) : Mut K H (mdel M p) := fun a mo e => by
  by_cases h : a = p
  · subst h; rw [mdel_same] at e; cases e
  · rw [mdel_ne h] at e
    obtain ⟨ho, e1, r⟩ := mu a mo e
    exact ⟨ho, e1, r.good good_del⟩

def tTupD (t : TAD) : TED := fun W τ M Q => t W τ M fun ds M1 => decide (ds.length ≤ 16777216) = true ∧ Q (.tup ds) M1
def tLstD (t : TAD) : TED := fun W τ M Q => t W τ M fun ds M1 => decide (ds.length ≤ 16777216) = true ∧ Q (.lst ds) M1
/-- a list that is going to be changed -/
def tLstM (t : TAD) : TED := fun W τ M Q => t W τ M fun ds M1 => decide (ds.length ≤ 16777216) = true ∧ ∀ p, M1 p = none → Q (.ref p) (mput M1 p (.lst ds))
theorem szl {n : Nat} (h : decide (n ≤ 16777216) = true) : n ≤ sizeLine := by rw [sizeLine_eq]; exact of_decide_eq_true h
theorem rep_tup {K : PySem.W.Frag} {H : Hp} {M : MH} {p : Addr} {vs : List V} {ds : List D} (mu : Mut K H M) (hp : H p = none) (r : Reps K H M vs ds) : Rep K (upd H p (.tup vs)) M (.ref p) (.tup ds) :=
  .tup (.inl ⟨mut_none mu hp, .inl upd_same⟩) (r.good (good_new hp))
theorem rep_lst {K : PySem.W.Frag} {H : Hp} {M : MH} {p : Addr} {vs : List V} {ds : List D} (mu : Mut K H M) (hp : H p = none) (r : Reps K H M vs ds) : Rep K (upd H p (.lst vs)) M (.ref p) (.lst ds) :=
  .lst (.inl ⟨mut_none mu hp, .inl upd_same⟩) (r.good (good_new hp))
theorem pd_tup {x1} (h : PDA X es ts) : PD X (.Tuple es x1 pos) (tTupD ts) := fun pn xe H0 M0 W at_ =>
  imE (pe_tup (h pn xe H0 M0 W at_)) fun σ H Q ⟨τ, M, F, g0, sl, mu, h, k⟩ => ⟨τ, M, _, g0, sl, mu, h, fun vs H1 ds M1 g1 mu1 r ⟨z, q⟩ =>
    ⟨by rw [r.length]; exact szl z, fun p hp => k _ _ _ M1 (g1.trans (good_new hp)) (mut_new mu1 hp) (rep_tup mu1 hp r) q⟩⟩
theorem pd_lst (h : PDA X es ts) : PD X (.List es pos) (tLstD ts) := fun pn xe H0 M0 W at_ =>
  imE (pe_lst (h pn xe H0 M0 W at_)) fun σ H Q ⟨τ, M, F, g0, sl, mu, h, k⟩ => ⟨τ, M, _, g0, sl, mu, h, fun vs H1 ds M1 g1 mu1 r ⟨z, q⟩ =>
    ⟨by rw [r.length]; exact szl z, fun p hp => k _ _ _ M1 (g1.trans (good_new hp)) (mut_new mu1 hp) (rep_lst mu1 hp r) q⟩⟩
theorem pd_lstM (h : PDA X es ts) : PD X (.List es pos) (tLstM ts) := fun pn xe H0 M0 W at_ =>
  imE (pe_lst (h pn xe H0 M0 W at_)) fun σ H Q ⟨τ, M, F, g0, sl, mu, h, k⟩ => ⟨τ, M, _, g0, sl, mu, h, fun vs H1 ds M1 g1 mu1 r ⟨z, q⟩ =>
    ⟨by rw [r.length]; exact szl z, fun p hp => k _ _ _ _ (g1.trans (good_put hp)) (mut_put mu1 hp (.lst r)) (.ref p) (q p (mut_none mu1 hp))⟩⟩

/-! ### and, or, not, if -/
def tTestB (t : TED) : TTD := fun W τ M Q => t W τ M fun d M1 => match d with | .bl b => Q b M1 | _ => False
def tAndD (t u : TTD) : TTD := fun W τ M Q => t W τ M fun c M1 => (c = true → u W τ M1 Q) ∧ (c = false → Q false M1)
def tOrD (t u : TTD) : TTD := fun W τ M Q => t W τ M fun c M1 => (c = true → Q true M1) ∧ (c = false → u W τ M1 Q)
def tNotD (t : TTD) : TTD := fun W τ M Q => t W τ M fun c M1 => Q (!c) M1
def tAndE (t u : TED) : TED := fun W τ M Q => t W τ M fun d M1 => match d with | .bl c => (c = true → u W τ M1 Q) ∧ (c = false → Q (.bl false) M1) | _ => False
def tOrE (t u : TED) : TED := fun W τ M Q => t W τ M fun d M1 => match d with | .bl c => (c = true → Q (.bl true) M1) ∧ (c = false → u W τ M1 Q) | _ => False
def tNotE (t : TED) : TED := fun W τ M Q => t W τ M fun d M1 => match d with | .bl c => Q (.bl (!c)) M1 | _ => False
def tIfE (t : TTD) (ta tb : TED) : TED := fun W τ M Q => t W τ M fun c M1 => (c = true → ta W τ M1 Q) ∧ (c = false → tb W τ M1 Q)
variable {u u' : TTD} {rest : List Expr} {op : BoolOp}
theorem pd_one (h : PD X a ta) : PD X (.BoolOp op [a] pos) ta := fun pn xe H0 M0 W at_ => pe_one (h pn xe H0 M0 W at_)
theorem pd_and (ha : PD X a ta) (hb : PD X (.BoolOp .And (b :: rest) pos) tb) : PD X (.BoolOp .And (a :: b :: rest) pos) (tAndE ta tb) := fun pn xe H0 M0 W at_ =>
  imE (pe_and (ha pn xe H0 M0 W at_) (hb pn xe H0 M0 W at_)) fun σ H Q ⟨τ, M, F, g0, sl, mu, h, k⟩ => upE_fin g0 sl mu h fun x H1 d M1 g1 mu1 r1 h1 => by
    cases r1 with
    | bl c =>
      refine ⟨c, rfl, ?_⟩
      cases c with
      | true =>
        rw [if_pos rfl]
        exact upE_fin (g0.trans g1) (sl.good g1) mu1 (h1.1 rfl) fun y H2 e M2 g2 => k y H2 e M2 (g1.trans g2)
      | false =>
        rw [if_neg Bool.false_ne_true]
        exact k _ _ _ _ g1 mu1 (.bl _) (h1.2 rfl)
    | _ => exact h1.elim
theorem pd_or (ha : PD X a ta) (hb : PD X (.BoolOp .Or (b :: rest) pos) tb) : PD X (.BoolOp .Or (a :: b :: rest) pos) (tOrE ta tb) := fun pn xe H0 M0 W at_ =>
  imE (pe_or (ha pn xe H0 M0 W at_) (hb pn xe H0 M0 W at_)) fun σ H Q ⟨τ, M, F, g0, sl, mu, h, k⟩ => upE_fin g0 sl mu h fun x H1 d M1 g1 mu1 r1 h1 => by
    cases r1 with
    | bl c =>
      refine ⟨c, rfl, ?_⟩
      cases c with
      | true =>
        rw [if_pos rfl]
        exact k _ _ _ _ g1 mu1 (.bl _) (h1.1 rfl)
      | false =>
        rw [if_neg Bool.false_ne_true]
        exact upE_fin (g0.trans g1) (sl.good g1) mu1 (h1.2 rfl) fun y H2 e M2 g2 => k y H2 e M2 (g1.trans g2)
    | _ => exact h1.elim
theorem pd_not (ha : PD X a ta) : PD X (.UnaryOp .Not a pos) (tNotE ta) := fun pn xe H0 M0 W at_ =>
  imE (pe_not (ha pn xe H0 M0 W at_)) fun σ H Q ⟨τ, M, F, g0, sl, mu, h, k⟩ => upE_fin g0 sl mu h fun x H1 d M1 g1 mu1 r1 h1 => by
    cases r1 with
    | bl c => exact ⟨c, rfl, k _ _ _ _ g1 mu1 (.bl _) h1⟩
    | _ => exact h1.elim
/-- behind a test -/
abbrev FinT (K : PySem.W.Frag) (H : Hp) (M : MH) (F : Bool → MH → Prop) (Q : Bool → Hp → Prop) : Prop := ∀ b H' M', Good H M H' M' → Mut K H' M' → F b M' → Q b H'
theorem upT_fin {K : PySem.W.Frag} {H0 : Hp} {M0 : MH} {W : WD} {σ : L2.St} {H : Hp} {M : MH} {τ : EnvD} {t : TTD} {F : Bool → MH → Prop} {Q : Bool → Hp → Prop} (g0 : Good H0 M0 H M) (sl : Slots K H M σ τ) (mu : Mut K H M) (h : t W τ M F) (k : FinT K H M F Q) : upT K H0 M0 W t σ H Q :=
  ⟨τ, M, F, g0, sl, mu, h, k⟩
theorem pd_ifE (hc : PDT X c u) (ha : PD X a ta) (hb : PD X b tb) : PD X (.IfExp c a b pos) (tIfE u ta tb) := fun pn xe H0 M0 W at_ =>
  imE (pe_ifExp (hc pn xe H0 M0 W at_) (ha pn xe H0 M0 W at_) (hb pn xe H0 M0 W at_)) fun σ H Q ⟨τ, M, F, g0, sl, mu, h, k⟩ => upT_fin g0 sl mu h fun c H1 M1 g1 mu1 h1 => by
    cases c with
    | true =>
      rw [if_pos rfl]
      exact upE_fin (g0.trans g1) (sl.good g1) mu1 (h1.1 rfl) fun y H2 e M2 g2 => k y H2 e M2 (g1.trans g2)
    | false =>
      rw [if_neg Bool.false_ne_true]
      exact upE_fin (g0.trans g1) (sl.good g1) mu1 (h1.2 rfl) fun y H2 e M2 g2 => k y H2 e M2 (g1.trans g2)
theorem pdt_w (h : PDW X a u) : PDT X a u := fun pn xe H0 M0 W at_ => (h pn xe H0 M0 W at_).pt
theorem pdt_cmp {op : CmpOp} {r : R2} {rd : R2D} (ho : ∀ pn xe, OpR (X.tr pn xe) (compareOp op) r) (hs : SimOp X.K r rd) (ha : PD X a ta) (hb : PD X b tb) (hm : behindInMarks op b = false := by first | exact nomark _ | rfl) : PDT X (.Compare a [op] [b] pos) (tTestB (tOpD rd ta tb)) := fun pn xe H0 M0 W at_ =>
  imT (pt_cmpR (ho pn xe) (ha pn xe H0 M0 W at_) (hb pn xe H0 M0 W at_) hm) fun σ H Q ⟨τ, M, F, g0, sl, mu, h, k⟩ =>
    upE_fin g0 sl mu h fun x H1 d M1 g1 mu1 r1 h1 => upE_fin (g0.trans g1) (sl.good g1) mu1 h1 fun y H2 e M2 g2 mu2 r2 h2 =>
      hs x y d e H2 M2 _ _ (r1.good g2) r2 mu2 h2 fun v H' d' M' g' mu' r' f' => by
        cases r' with
        | bl c => exact ⟨c, rfl, k c H' M' ((g1.trans g2).trans g') mu' f'⟩
        | _ => exact f'.elim
theorem pdw_and1 (ha : PDT X a u) : PDW X (.BoolOp .And [a] pos) u := fun pn xe H0 M0 W at_ => pw_and1 (ha pn xe H0 M0 W at_)
theorem pdw_or1 (ha : PDT X a u) : PDW X (.BoolOp .Or [a] pos) u := fun pn xe H0 M0 W at_ => pw_or1 (ha pn xe H0 M0 W at_)
theorem pdw_and (ha : PDT X a u) (hb : PDW X (.BoolOp .And (b :: rest) pos) u') : PDW X (.BoolOp .And (a :: b :: rest) pos) (tAndD u u') := fun pn xe H0 M0 W at_ =>
  imW (pw_and (ha pn xe H0 M0 W at_) (hb pn xe H0 M0 W at_)) fun σ H Q ⟨τ, M, F, g0, sl, mu, h, k⟩ => upT_fin g0 sl mu h fun c H1 M1 g1 mu1 h1 => by
    cases c with
    | true =>
      rw [if_pos rfl]
      exact upT_fin (g0.trans g1) (sl.good g1) mu1 (h1.1 rfl) fun b H2 M2 g2 => k b H2 M2 (g1.trans g2)
    | false =>
      rw [if_neg Bool.false_ne_true]
      exact k _ _ _ g1 mu1 (h1.2 rfl)
theorem pdw_or (ha : PDT X a u) (hb : PDW X (.BoolOp .Or (b :: rest) pos) u') : PDW X (.BoolOp .Or (a :: b :: rest) pos) (tOrD u u') := fun pn xe H0 M0 W at_ =>
  imW (pw_or (ha pn xe H0 M0 W at_) (hb pn xe H0 M0 W at_)) fun σ H Q ⟨τ, M, F, g0, sl, mu, h, k⟩ => upT_fin g0 sl mu h fun c H1 M1 g1 mu1 h1 => by
    cases c with
    | true =>
      rw [if_pos rfl]
      exact k _ _ _ g1 mu1 (h1.1 rfl)
    | false =>
      rw [if_neg Bool.false_ne_true]
      exact upT_fin (g0.trans g1) (sl.good g1) mu1 (h1.2 rfl) fun b H2 M2 g2 => k b H2 M2 (g1.trans g2)
theorem pdt_not (ha : PDT X a u) : PDT X (.UnaryOp .Not a pos) (tNotD u) := fun pn xe H0 M0 W at_ =>
  imT (pt_not (ha pn xe H0 M0 W at_)) fun σ H Q ⟨τ, M, F, g0, sl, mu, h, k⟩ => upT_fin g0 sl mu h fun c H1 M1 g1 mu1 h1 => k _ _ _ g1 mu1 h1

/-! ### truth of values -/
def truthD (d : D) (M : MH) : Option Bool := match d with
  | .non => some false
  | .bl b => some b
  | .int i => some (i != 0)
  | .lst xs => some (!xs.isEmpty)
  | .tup xs => some (!xs.isEmpty)
  | .dct xs => some (!xs.isEmpty)
  | .ref a => match M a with | some (.lst xs) => some (!xs.isEmpty) | some (.dct xs) => some (!xs.isEmpty) | _ => none
  | _ => none
def tTruD (t : TED) : TTD := fun W τ M Q => t W τ M fun d M1 => match truthD d M1 with | some b => Q b M1 | none => False
theorem reps_emp {K : PySem.W.Frag} {H : Hp} {M : MH} {vs : List V} {ds : List D} (r : Reps K H M vs ds) : ds.isEmpty = vs.isEmpty := by cases r <;> rfl
theorem repk_emp {K : PySem.W.Frag} {H : Hp} {M : MH} {vs : List (Key × V)} {ds : List (Key × D)} (r : RepK K H M vs ds) : ds.isEmpty = vs.isEmpty := by cases r <;> rfl
theorem tru_sim {K : PySem.W.Frag} {H : Hp} {M : MH} {x : V} {d : D} {b : Bool} (r : Rep K H M x d) (mu : Mut K H M) (h : truthD d M = some b) : TruV K x H b := by
  cases r with
  | non => cases h; exact rfl
  | bl c => cases h; exact rfl
  | int i => cases h; exact rfl
  | lst hr rs => cases h; exact .inl ⟨_, hr.sq, by rw [reps_emp rs]⟩
  | tup hr rs => cases h; exact .inr (.inl ⟨_, hr.sq, by rw [reps_emp rs]⟩)
  | dct m e rs => cases h; exact .inr (.inr ⟨_, e, by rw [repk_emp rs]⟩)
  | ref a =>
    unfold truthD at h
    dsimp only at h
    cases q : M a with
    | none => rw [q] at h; cases h
    | some mo =>
      rw [q] at h
      obtain ⟨ho, e, r⟩ := mu a mo q
      cases r with
      | lst rs => cases h; exact .inl ⟨_, .inl (.inl e), by rw [reps_emp rs]⟩
      | dct rs => cases h; exact .inr (.inr ⟨_, e, by rw [repk_emp rs]⟩)
      | ins _ _ _ => cases h
  | _ => cases h
theorem pdt_tru (ha : PD X a ta) (he : ∀ whole, isTrue a X.env whole = (do let v ← whole; standAt a.pos; holding [v] (truthy v)) := by intro _; rfl) : PDT X a (tTruD ta) := fun pn xe H0 M0 W at_ =>
  imT (pt_truth (X := X.tr pn xe) (ha pn xe H0 M0 W at_) he) fun σ H Q ⟨τ, M, F, g0, sl, mu, h, k⟩ => upE_fin g0 sl mu h fun x H1 d M1 g1 mu1 r1 h1 => by
    cases q : truthD d M1 with
    | none => rw [q] at h1; exact h1.elim
    | some b =>
      rw [q] at h1
      exact ⟨b, tru_sim r1 mu1 q, k b H1 M1 g1 mu1 h1⟩
end
end Z

set_option Elab.async false
set_option linter.all false
set_option maxRecDepth 100000
set_option maxHeartbeats 4000000
namespace Z
open PySem L2 PySem.Spec PyProof.Rows

/-! ### what a def promises, over trees -/
abbrev ED := Addr → List (Str × D) → MH → Prop
abbrev SpD := List D → MH → QD → ED → Prop
def spOf (K : PySem.W.Frag) (sp : SpD) : Sp := fun vs H Q E => ∃ ds M F FE, Reps K H M vs ds ∧ Mut K H M ∧ sp ds M F FE ∧ Fin K H M F Q ∧
  ∀ C fs d H' M', Good H M H' M' → Mut K H' M' → ExD K H' M' d fs → FE C fs M' → E (.ref C) d H'
def startD (N : List Str) (ds : List D) : EnvD := ds.map some ++ List.replicate (N.length - ds.length) none
theorem slots_start {K : PySem.W.Frag} {H : Hp} {M : MH} {N : List Str} {vs : List V} {ds : List D} (r : Reps K H M vs ds) : Slots K H M (L2.start N vs) (startD N ds) := by
  unfold L2.start startD
  have hl := r.length
  refine ⟨by simp [hl], fun i d e => ?_⟩
  by_cases hi : i < ds.length
  · rw [List.getElem?_append_left (by simpa using hi), List.getElem?_map] at e
    cases q : ds[i]? with
    | none => rw [q] at e; cases e
    | some d' =>
      rw [q] at e
      cases e
      obtain ⟨v, e1, r1⟩ := r.get q
      exact ⟨v, by rw [List.getElem?_append_left (by simpa [hl] using hi), List.getElem?_map, e1]; rfl, r1⟩
  · rw [List.getElem?_append_right (by simpa using hi), List.getElem?_replicate] at e
    split at e <;> cases e

section
variable {P : Program} {w : World} {K : PySem.W.Frag} {mg : Str → Option Value} {base : Heap}
/-- THE RULE for a def: its body as a term of rules, and what that term asks of the promise -/
theorem fnD {x qual : Str} {st : Stmt} {f : Addr} {fd : FuncData} {N ps : List Str} {k : Nat} {sp : SpD} {t : TSD} (F : Fun K x qual st f fd) (S : FnScope N ps (defScope st)) (len : ∀ ds M F E, sp ds M F E → ds.length = ps.length)
    (hb : ∀ (cdv : Value) (A : Around) (outer : List Env) (s : Shared) (H : Hp) (E : XK), Room k (A.deeper (envOfC qual (defScope st) s.heap.objs.size f cdv)) → PDB (cxOf (L2.CX P w) P w K mg base N qual (defScope st) f cdv A outer s H E) (defBody st) t)
    (wp : ∀ ds M F FE, sp ds M F FE → t (fun C fs _ M => FE C fs M) { nx := fun _ M => F .non M, rt := F } (startD N ds) M) : FnOk P w K mg base (L2.CX P w) (k + 1) f fd ps (spOf K sp) := by
  obtain ⟨oc, od, kV, doc, pm, an, cdv, ct, osl, rfl, lk, hcd⟩ := F.ex
  refine fn_of lk hcd S (fun vs H Q E ⟨ds, M, G, FE, r, _, h, _⟩ => by rw [r.length]; exact len _ _ _ _ h) fun A outer s H vs Q E hr hsp => ?_
  obtain ⟨ds, M, G, FE, r, mu, h, k1, k2⟩ := hsp
  have at_ : At (cxOf (L2.CX P w) P w K mg base N qual (defScope st) f cdv A outer s H E) (cxOf (L2.CX P w) P w K mg base N qual (defScope st) f cdv A outer s H E).pn (cxOf (L2.CX P w) P w K mg base N qual (defScope st) f cdv A outer s H E).xe H M (fun C fs _ M => FE C fs M) := by
    refine ⟨?_, passes_of rfl⟩
    refine Takes.imp (takes_of rfl rfl rfl rfl) fun c d σ H' ⟨C, ds', τ, M', e, ex, g, sl, mu', q⟩ => ?_
    subst e
    exact k2 C ds' d H' M' g mu' ex q
  refine ⟨upS K H M (fun C fs _ M => FE C fs M) t, hb cdv A outer s H E hr _ _ H M _ at_, startD N ds, M, _, .refl, slots_start r, mu, wp ds M G FE h, ?_, ?_, ?_, ?_⟩
  · rintro σ' H' ⟨τ, M', g, sl, mu', q⟩
    exact k1 _ _ _ _ g mu' .non q
  · rintro v H' ⟨d, M', g, mu', r', q⟩
    exact k1 _ _ _ _ g mu' r' q
  · rintro σ' H' ⟨τ, M', g, sl, mu', q⟩
    exact q.elim
  · rintro σ' H' ⟨τ, M', g, sl, mu', q⟩
    exact q.elim
end

/-! ### calls of own defs -/
def tCallD (sp : SpD) (t : TAD) : TED := fun W τ M Q => t W τ M fun ds M1 => sp ds M1 Q (fun C fs M' => W C fs τ M')
def permL {α : Type} (ix : List Nat) (l : List α) : List α := ix.filterMap fun i => l[i]?
theorem Reps.perm {K : PySem.W.Frag} {H : Hp} {M : MH} {vs : List V} {ds : List D} (r : Reps K H M vs ds) : ∀ ix : List Nat, Reps K H M (permL ix vs) (permL ix ds)
  | [] => .nil
  | i :: ix => by
    unfold permL
    rw [List.filterMap_cons, List.filterMap_cons]
    cases e : ds[i]? with
    | none =>
      have hl := r.length
      have e2 : vs[i]? = none := by rw [List.getElem?_eq_none_iff] at e ⊢; omega
      rw [e2]
      exact Reps.perm r ix
    | some d =>
      obtain ⟨v, e1, r1⟩ := r.get e
      rw [e1]
      exact .cons r1 (Reps.perm r ix)
theorem vals_perm {vs : List V} {us : List Value} (r : Vals vs us) : ∀ ix : List Nat, Vals (permL ix vs) (permL ix us)
  | [] => .nil
  | i :: ix => by
    unfold permL
    rw [List.filterMap_cons, List.filterMap_cons]
    cases e : vs[i]? with
    | none =>
      rw [r.none_of e]
      exact vals_perm r ix
    | some d =>
      obtain ⟨u, e1, r1⟩ := r.get e
      rw [e1]
      exact .cons r1 (vals_perm r ix)
def tCallKD (sp : SpD) (ix : List Nat) (t : TAD) : TED := fun W τ M Q => t W τ M fun ds M1 => sp (permL ix ds) M1 Q (fun C fs M' => W C fs τ M')
/-- how a call by keywords alone binds -/
def KwB (K : PySem.W.Frag) (fd : FuncData) (ps ks : List Str) (ix : List Nat) : Prop := ∀ ws : List Value, ws.length = ks.length → bindArgs fd ⟨[], ks.zip ws⟩ = pure (ps.zip (permL ix ws))
theorem kwB {K : PySem.W.Frag} {x qual : Str} {st : Stmt} {f : Addr} {fd : FuncData} {ps ks : List Str} {ix : List Nat} (F : Fun K x qual st f fd)
    (h : ∀ (kV doc pm : Value) (an : Option Addr) (cdv ct : Value) (us : List Value), us.length = ks.length → bindArgs (PySem.W.fnOf x qual (defArgs st) (defBody st) (defScope st) .none kV doc pm an cdv ct) ⟨[], ks.zip us⟩ = pure (ps.zip (permL ix us))) : KwB K fd ps ks ix := by
  obtain ⟨oc, od, kV, doc, pm, an, cdv, ct, osl, rfl, lk, hcd⟩ := F.ex
  exact h kV doc pm an cdv ct

section
variable {X : Cx} {k : Nat} {f : Addr} {fd : FuncData} {ps ks : List Str} {sp : SpD} {x : Str} {e : Expr} {es : List Expr} {kws : List Keyword} {ta : TAD} {pos p : Pos} {ix : List Nat}
/-- the keywords' values -/
def PDK (X : Cx) (es : List Keyword) (t : TAD) : Prop := ∀ pn xe H0 M0 W, At X pn xe H0 M0 W → PK (X.tr pn xe) es (upA X.K H0 M0 W t)
theorem imK {X : Cx} {e : List Keyword} {t t' : TA} (h : PK X e t) (i : ∀ σ H Q, t' σ H Q → t σ H Q) : PK X e t' := ⟨fun pos pins s σ H Q I q => h.run pos pins s σ H Q I (i σ H Q q)⟩
theorem pdk_nil : PDK X [] tNilD := fun pn xe H0 M0 W at_ => imK pk_nil fun σ H Q ⟨τ, M, F, g0, sl, mu, h, k⟩ => k [] H [] M .refl mu .nil h
theorem pdk_cons {nm : Option Str} {kpos : Pos} {t : TED} {ts : TAD} (ha : PD X e t) (hr : PDK X kws ts) : PDK X (⟨nm, e, kpos⟩ :: kws) (tConsD t ts) := fun pn xe H0 M0 W at_ =>
  imK (pk_cons (ha pn xe H0 M0 W at_) (hr pn xe H0 M0 W at_)) fun σ H Q ⟨τ, M, F, g0, sl, mu, h, k⟩ =>
    upE_fin g0 sl mu h fun x H1 d M1 g1 mu1 r1 h1 => ⟨τ, M1, _, g0.trans g1, sl.good g1, mu1, h1, fun xs H2 ds M2 g2 mu2 r2 h2 => k (x :: xs) H2 (d :: ds) M2 (g1.trans g2) mu2 (.cons (r1.good g2) r2) h2⟩

theorem sp_of_call {H0 : Hp} {M0 : MH} {W : WD} {σ : L2.St} {τ : EnvD} {H H1 : Hp} {M M1 : MH} {F : QD} {Q : VK} {vs : List V} {ds : List D} (g0 : Good H0 M0 H M) (sl : Slots X.K H M σ τ) (k : Fin X.K H M F Q) (g1 : Good H M H1 M1) (mu1 : Mut X.K H1 M1) (r1 : Reps X.K H1 M1 vs ds)
    (h : sp ds M1 F (fun C fs M' => W C fs τ M')) : spOf X.K sp vs H1 Q (WE (liftW X.K H0 M0 W) σ) :=
  ⟨ds, M1, F, _, r1, mu1, h, fun v H' d M' g' mu' r' f' => k v H' d M' (g1.trans g') mu' r' f', fun C fs d H' M' g' mu' ex we => ⟨C, fs, τ, M', rfl, ex, (g0.trans g1).trans g', sl.good (g1.trans g'), mu', we⟩⟩
theorem pd_call (F : FnOk X.prog X.w X.K X.mg X.base (L2.CX X.prog X.w) k f fd ps (spOf X.K sp)) (hr : Room k X.A) (hm : X.mg x = some (.ref f)) (hk : PySem.W.keepIn X.K (.ref f) = true) (hb : Binds X.K fd ps [])
    (ha : PDA X (e :: es) ta) (hg : Gl X x := by rfl) (hdb : (x == ("__debug__" : Str)) = false := by decide) (he : starEach (e :: es) X.env = (false, eval e X.env) :: starEach es X.env := by rfl) (hpl : (backTo pos (starEach es X.env)).any (·.1) = false := by rfl) :
    PD X (.Call (.Name x p) (e :: es) [] pos) (tCallD sp ta) := fun pn xe H0 M0 W at_ =>
  imE (pe_callS (X := X.tr pn xe) F hr hg hm hk hb (fun σ => passAt at_.tk σ) (ha pn xe H0 M0 W at_) hdb he hpl) fun σ H Q ⟨τ, M, G, g0, sl, mu, h, k⟩ =>
    ⟨τ, M, _, g0, sl, mu, h, fun vs H1 ds M1 g1 mu1 r1 h1 => sp_of_call g0 sl k g1 mu1 r1 h1⟩
theorem pd_call0 (F : FnOk X.prog X.w X.K X.mg X.base (L2.CX X.prog X.w) k f fd ps (spOf X.K sp)) (hr : Room k X.A) (hm : X.mg x = some (.ref f)) (hk : PySem.W.keepIn X.K (.ref f) = true) (hb : Binds X.K fd ps [])
    (hg : Gl X x := by rfl) (hdb : (x == ("__debug__" : Str)) = false := by decide) : PD X (.Call (.Name x p) [] [] pos) (tCallD sp tNilD) := fun pn xe H0 M0 W at_ => by
  refine ⟨fun pins s σ H Q I ⟨τ, M, G, g0, sl, mu, h, k⟩ => ?_⟩
  refine wpAny_Call_Name_kw (ld_glob I hg hm ?_ hdb)
  exact PySem.W.callWith_K0 I.kIn hk (run_fnS (us := []) (X := X.tr pn xe) F hr hb (passAt at_.tk σ) I .nil (sp_of_call (X := X) g0 sl k .refl mu .nil h))
theorem pd_callK (F : FnOk X.prog X.w X.K X.mg X.base (L2.CX X.prog X.w) k f fd ps (spOf X.K sp)) (hr : Room k X.A) (hm : X.mg x = some (.ref f)) (hk : PySem.W.keepIn X.K (.ref f) = true) (hb : KwB X.K fd ps ks ix)
    (ha : PDK X kws ta) (hl : kws.length = ks.length) (hg : Gl X x := by rfl) (hdb : (x == ("__debug__" : Str)) = false := by decide) (hall : (backToKw pos (keywordEach kws X.env)).all (·.1.isSome) = true := by rfl)
    (hks : (backToKw pos (keywordEach kws X.env)).filterMap (·.1) = ks := by rfl) (hpl : ((backTo pos (starEach [] X.env)).any (·.1) || (backToKw pos (keywordEach kws X.env)).any (·.1.isNone)) = false := by rfl) (hlk : ∀ (W : WD) τ M (R : List D → MH → Prop), ta W τ M R → ta W τ M (fun ds M => R ds M ∧ ds.length = kws.length)) :
    PD X (.Call (.Name x p) [] kws pos) (tCallKD sp ix ta) := fun pn xe H0 M0 W at_ => by
  refine ⟨fun pins s σ H Q I ⟨τ, M, G, g0, sl, mu, h, k⟩ => ?_⟩
  refine wpAny_Call_Name_kw (ld_glob I hg hm ?_ hdb)
  refine PySem.W.callWith_KW0 (h₀ := X.base) I.ok.mod.kin hk hall (thn ((ha pn xe H0 M0 W at_).run pos pins s σ H (fun zs H1 => zs.length = kws.length ∧ spOf X.K sp (permL ix zs) H1 Q (WE (liftW X.K H0 M0 W) σ)) I ?_) fun ws s1 ⟨zs, H1, I1, r, hzl, q⟩ => ⟨I1.kIn, ?_⟩) hpl
  · exact ⟨τ, M, _, g0, sl, mu, hlk _ _ _ _ h, fun vs H1 ds M1 g1 mu1 r1 ⟨h1, h2⟩ => ⟨by rw [r1.length, h2], sp_of_call (X := X) g0 sl k g1 mu1 (r1.perm ix) h1⟩⟩
  · rw [hks]
    have hx := passAt at_.tk σ
    refine wpAny_call (codeAny_mono (F.run X.A X.stack s1 H1 ⟨[], ks.zip ws⟩ (permL ix ws) (permL ix zs) Q (WE (liftW X.K H0 M0 W) σ) hr I1.env0 (BindsTo.of_eq (hb ws (by rw [← r.length, hzl, hl]))) (vals_perm r ix) q) fun r s' hq => ?_)
    cases r with
    | error e => exact hx pins H1 s1 e s' I1 hq
    | ok fl =>
      cases fl with
      | ret u => exact I1.after hq
      | next => exact False.elim hq
      | brk => exact False.elim hq
      | cont => exact False.elim hq
theorem lk_nil {W : WD} {τ : EnvD} {M : MH} {R : List D → MH → Prop} (h : tNilD W τ M R) : tNilD W τ M (fun ds M => R ds M ∧ ds.length = 0) := ⟨h, rfl⟩
/-- a call of a built-in function, a built-in type -/
theorem pd_bf {id : String} {r : List V → Hp → VK → Prop} {rd : RCD} (hm : X.mg x = none) (hv : bootBuiltins x = some (.builtin id)) (hc : ∀ pn xe, CallR (X.tr pn xe) (.builtin id) r) (hs : SimC X.K r rd) (ha : PDA X (e :: es) ta) (hg : Gl X x := by rfl) (hn : x ≠ "__name__" := by decide) (hdb : (x == ("__debug__" : Str)) = false := by decide)
    (he : starEach (e :: es) X.env = (false, eval e X.env) :: starEach es X.env := by rfl) (hpl : (backTo pos (starEach es X.env)).any (·.1) = false := by rfl) : PD X (.Call (.Name x p) (e :: es) [] pos) (tCBD rd ta) := fun pn xe H0 M0 W at_ =>
  imE (pe_callB (X := X.tr pn xe) (hc pn xe) hg hm hv (ha pn xe H0 M0 W at_) hn hdb he hpl) fun σ H Q ⟨τ, M, G, g0, sl, mu, h, k⟩ =>
    ⟨τ, M, _, g0, sl, mu, h, fun vs H1 ds M1 g1 mu1 r1 h1 => hs vs ds H1 M1 G Q r1 mu1 h1 fun v H' d M' g' mu' r' f' => k v H' d M' (g1.trans g') mu' r' f'⟩
theorem pd_bt {T : String} {r : List V → Hp → VK → Prop} {rd : RCD} (hm : X.mg x = none) (hv : bootBuiltins x = some (.type T)) (hc : ∀ pn xe, CallR (X.tr pn xe) (.type T) r) (hs : SimC X.K r rd) (ha : PDA X (e :: es) ta) (hg : Gl X x := by rfl) (hn : x ≠ "__name__" := by decide) (hdb : (x == ("__debug__" : Str)) = false := by decide)
    (he : starEach (e :: es) X.env = (false, eval e X.env) :: starEach es X.env := by rfl) (hpl : (backTo pos (starEach es X.env)).any (·.1) = false := by rfl) : PD X (.Call (.Name x p) (e :: es) [] pos) (tCBD rd ta) := fun pn xe H0 M0 W at_ =>
  imE (pe_callTy (X := X.tr pn xe) (hc pn xe) hg hm hv (ha pn xe H0 M0 W at_) hn hdb he hpl) fun σ H Q ⟨τ, M, G, g0, sl, mu, h, k⟩ =>
    ⟨τ, M, _, g0, sl, mu, h, fun vs H1 ds M1 g1 mu1 r1 h1 => hs vs ds H1 M1 G Q r1 mu1 h1 fun v H' d M' g' mu' r' f' => k v H' d M' (g1.trans g') mu' r' f'⟩
end

/-! ### statements -/
def tNextD : TSD := fun _ F τ M => F.nx τ M
def tSeqD (t u : TSD) : TSD := fun W F τ M => t W { F with nx := fun τ' M' => u W F τ' M' } τ M
def tDropD (t : TED) : TSD := fun W F τ M => t W τ M fun _ M1 => F.nx τ M1
def tRetD (t : TED) : TSD := fun W F τ M => t W τ M F.rt
def tRetN : TSD := fun _ F _ M => F.rt .non M
def tIfD (c : TTD) (t u : TSD) : TSD := fun W F τ M => c W τ M fun b M1 => (b = true → t W F τ M1) ∧ (b = false → u W F τ M1)
def tSetD (i : Nat) (t : TED) : TSD := fun W F τ M => t W τ M fun d M1 => F.nx (setN τ i (some d)) M1
def tContD : TSD := fun _ F τ M => F.ct τ M
def tBrkD : TSD := fun _ F τ M => F.bk τ M
section
variable {X : Cx} {st : Stmt} {rest : List Stmt} {t u : TSD} {e c : Expr} {te : TED} {tt : TTD} {pos : Pos}
theorem upS_fin {K : PySem.W.Frag} {H0 : Hp} {M0 : MH} {W : WD} {σ : L2.St} {H H1 : Hp} {M M1 : MH} {τ : EnvD} {t : TSD} {F : EndsD} {D : Ends} (g0 : Good H0 M0 H M) (g1 : Good H M H1 M1) (sl : Slots K H1 M1 σ τ) (mu : Mut K H1 M1) (h : t W F τ M1)
    (k1 : ∀ σ' H', liftN K H M F.nx σ' H' → D.nx σ' H') (k2 : ∀ v H', liftR K H M F.rt v H' → D.rt v H') (k3 : ∀ σ' H', liftN K H M F.bk σ' H' → D.bk σ' H') (k4 : ∀ σ' H', liftN K H M F.ct σ' H' → D.ct σ' H') : upS K H0 M0 W t D σ H1 :=
  ⟨τ, M1, F, g0.trans g1, sl, mu, h, fun σ' H' q => k1 σ' H' (q.tr g1), fun σ' H' q => k2 σ' H' (q.tr g1), fun σ' H' q => k3 σ' H' (q.tr g1), fun σ' H' q => k4 σ' H' (q.tr g1)⟩
theorem pdb_nil : PDB X [] tNextD := fun pn xe H0 M0 W at_ => imB pss_nil fun D σ H ⟨τ, M, F, g0, sl, mu, h, k1, k2, k3, k4⟩ => k1 σ H ⟨τ, M, .refl, sl, mu, h⟩
theorem pdb_cons (h1 : PDS X st t) (h2 : PDB X rest u) : PDB X (st :: rest) (tSeqD t u) := fun pn xe H0 M0 W at_ =>
  imB (pss_cons (h1 pn xe H0 M0 W at_) (h2 pn xe H0 M0 W at_)) fun D σ H ⟨τ, M, F, g0, sl, mu, h, k1, k2, k3, k4⟩ =>
    ⟨τ, M, _, g0, sl, mu, h, (fun σ' H' ⟨τ', M', g', sl', mu', q⟩ => upS_fin g0 g' sl' mu' q k1 k2 k3 k4), k2, k3, k4⟩
theorem pdb_one (h1 : PDS X st t) : PDB X [st] t := fun pn xe H0 M0 W at_ => pss_one (h1 pn xe H0 M0 W at_)
theorem pds_pass : PDS X (.Pass pos) tNextD := fun pn xe H0 M0 W at_ => imS ps_pass fun D σ H ⟨τ, M, F, g0, sl, mu, h, k1, k2, k3, k4⟩ => k1 σ H ⟨τ, M, .refl, sl, mu, h⟩
theorem pds_cont : PDS X (.Continue pos) tContD := fun pn xe H0 M0 W at_ => imS ps_continue fun D σ H ⟨τ, M, F, g0, sl, mu, h, k1, k2, k3, k4⟩ => k4 σ H ⟨τ, M, .refl, sl, mu, h⟩
theorem pds_brk : PDS X (.Break pos) tBrkD := fun pn xe H0 M0 W at_ => imS ps_break fun D σ H ⟨τ, M, F, g0, sl, mu, h, k1, k2, k3, k4⟩ => k3 σ H ⟨τ, M, .refl, sl, mu, h⟩
theorem pds_expr (he : PD X e te) (hs : swapsWith e none pos.line X.env = pure false := by rfl) : PDS X (.Expr e pos) (tDropD te) := fun pn xe H0 M0 W at_ =>
  imS (ps_expr (X := X.tr pn xe) (he pn xe H0 M0 W at_) hs) fun D σ H ⟨τ, M, F, g0, sl, mu, h, k1, k2, k3, k4⟩ => upE_fin g0 sl mu h fun v H1 d M1 g1 mu1 r1 q => k1 σ H1 ⟨τ, M1, g1, sl.good g1, mu1, q⟩
theorem pds_ret (he : PD X e te) : PDS X (.Return (some e) pos) (tRetD te) := fun pn xe H0 M0 W at_ =>
  imS (ps_ret (he pn xe H0 M0 W at_)) fun D σ H ⟨τ, M, F, g0, sl, mu, h, k1, k2, k3, k4⟩ => upE_fin g0 sl mu h fun v H1 d M1 g1 mu1 r1 q => k2 v H1 ⟨d, M1, g1, mu1, r1, q⟩
theorem pds_retN : PDS X (.Return none pos) tRetN := fun pn xe H0 M0 W at_ => imS ps_retN fun D σ H ⟨τ, M, F, g0, sl, mu, h, k1, k2, k3, k4⟩ => k2 _ H ⟨_, M, .refl, mu, .non, h⟩
theorem pds_if {a b : List Stmt} (hc : PDT X c tt) (ha : PDB X a t) (hb : PDB X b u) : PDS X (.If c a b pos) (tIfD tt t u) := fun pn xe H0 M0 W at_ =>
  imS (ps_if (hc pn xe H0 M0 W at_) (ha pn xe H0 M0 W at_) (hb pn xe H0 M0 W at_)) fun D σ H ⟨τ, M, F, g0, sl, mu, h, k1, k2, k3, k4⟩ => upT_fin g0 sl mu h fun c H1 M1 g1 mu1 h1 => by
    cases c with
    | true =>
      rw [if_pos rfl]
      exact upS_fin g0 g1 (sl.good g1) mu1 (h1.1 rfl) k1 k2 k3 k4
    | false =>
      rw [if_neg Bool.false_ne_true]
      exact upS_fin g0 g1 (sl.good g1) mu1 (h1.2 rfl) k1 k2 k3 k4
theorem pds_set {i : Nat} {x : Str} {pos' : Pos} (he : PD X e te) (hN : X.N.Nodup) (hi : X.N[i]? = some x := by rfl) (hx : Loc X.env.scope x := by first | exact Or.inl rfl | exact Or.inr rfl) (hs : swapsWith e (some (.Name x pos')) pos.line X.env = pure false := by rfl)
    (hf : X.fn x = true ∨ X.env.scope.names.lookup x = some .local := by first | exact .inl rfl | exact .inr rfl) : PDS X (.Assign [.Name x pos'] e pos) (tSetD i te) := fun pn xe H0 M0 W at_ =>
  imS (ps_set (X := X.tr pn xe) hN hi hx (he pn xe H0 M0 W at_) hs hf) fun D σ H ⟨τ, M, F, g0, sl, mu, h, k1, k2, k3, k4⟩ => upE_fin g0 sl mu h fun v H1 d M1 g1 mu1 r1 q =>
    k1 _ H1 ⟨setN τ i (some d), M1, g1, by rw [setN_eq]; exact (sl.good g1).set r1, mu1, q⟩
end
end Z

set_option Elab.async false
set_option linter.all false
set_option maxRecDepth 100000
set_option maxHeartbeats 4000000
namespace Z
open PySem L2

/-! ### ints -/
def rdI (g : Int → Int → Int) : R2D := fun d e M F => match d, e with | .int i, .int j => F (.int (g i j)) M | _, _ => False
def rdIC (C : Int → Int → Prop) (g : Int → Int → Int) : R2D := fun d e M F => match d, e with | .int i, .int j => C i j ∧ F (.int (g i j)) M | _, _ => False
def rdB (g : Int → Int → Bool) : R2D := fun d e M F => match d, e with | .int i, .int j => F (.bl (g i j)) M | _, _ => False
theorem rdI_inv {g : Int → Int → Int} {d e : D} {M : MH} {F : QD} (h : rdI g d e M F) : ∃ i j, d = .int i ∧ e = .int j ∧ F (.int (g i j)) M := by
  unfold rdI at h
  split at h
  · exact ⟨_, _, rfl, rfl, h⟩
  · exact h.elim
theorem rdIC_inv {C : Int → Int → Prop} {g : Int → Int → Int} {d e : D} {M : MH} {F : QD} (h : rdIC C g d e M F) : ∃ i j, d = .int i ∧ e = .int j ∧ C i j ∧ F (.int (g i j)) M := by
  unfold rdIC at h
  split at h
  · exact ⟨_, _, rfl, rfl, h⟩
  · exact h.elim
theorem rdB_inv {g : Int → Int → Bool} {d e : D} {M : MH} {F : QD} (h : rdB g d e M F) : ∃ i j, d = .int i ∧ e = .int j ∧ F (.bl (g i j)) M := by
  unfold rdB at h
  split at h
  · exact ⟨_, _, rfl, rfl, h⟩
  · exact h.elim
section
variable {K : PySem.W.Frag}
theorem simI {g : Int → Int → Int} : SimOp K (rI0 fun i j => .int (g i j)) (rdI g) := fun x y d e H M F Q rx ry mu h k => by
  obtain ⟨i, j, rfl, rfl, q⟩ := rdI_inv h
  cases rx
  cases ry
  exact ⟨_, _, rfl, rfl, k _ _ _ _ .refl mu (.int _) q⟩
theorem simIC {C C' : Int → Int → Prop} {g : Int → Int → Int} (hc : ∀ i j, C' i j → C i j) : SimOp K (rI C fun i j => .int (g i j)) (rdIC C' g) := fun x y d e H M F Q rx ry mu h k => by
  obtain ⟨i, j, rfl, rfl, c, q⟩ := rdIC_inv h
  cases rx
  cases ry
  exact ⟨_, _, rfl, rfl, hc _ _ c, k _ _ _ _ .refl mu (.int _) q⟩
theorem simB {g : Int → Int → Bool} : SimOp K (rI0 fun i j => .bl (g i j)) (rdB g) := fun x y d e H M F Q rx ry mu h k => by
  obtain ⟨i, j, rfl, rfl, q⟩ := rdB_inv h
  cases rx
  cases ry
  exact ⟨_, _, rfl, rfl, k _ _ _ _ .refl mu (.bl _) q⟩
end
def MulOk (i j : Int) : Prop := CMul i j ∨ CMulW i j
def DivOk (_ j : Int) : Prop := j ≠ 0 ∧ j.natAbs.log2 < 9000
theorem op_mulZ {X : Cx} : OpR X (binaryOp .Mult) (rI MulOk fun i j => .int (i * j)) := fun pins s σ H x y v u Q I rx ry h => by
  obtain ⟨i, j, e1, e2, c, q⟩ := h
  rcases c with c | c
  · exact op_mul pins s σ H x y v u Q I rx ry ⟨i, j, e1, e2, c, q⟩
  · exact op_mulW pins s σ H x y v u Q I rx ry ⟨i, j, e1, e2, c, q⟩
theorem op_fdivZ {X : Cx} : OpR X (binaryOp .FloorDiv) (rI DivOk fun i j => .int (i.fdiv j)) := opI fun i j _ _ _ _ _ hc q =>
  PyProof.Rows.floordiv_int hc.1 q (.inl (PyProof.noPylong_of_log2 hc.2))
section
variable {X : Cx} {a b e : Expr} {ta tb : TED} {pos p : Pos}
theorem pd_add (ha : PD X a ta) (hb : PD X b tb) : PD X (.BinOp a .Add b pos) (tOpD (rdI fun i j => i + j) ta tb) := pd_op (fun _ _ => op_add) simI ha hb
theorem pd_sub (ha : PD X a ta) (hb : PD X b tb) : PD X (.BinOp a .Sub b pos) (tOpD (rdI fun i j => i - j) ta tb) := pd_op (fun _ _ => op_sub) simI ha hb
theorem pd_mul (ha : PD X a ta) (hb : PD X b tb) : PD X (.BinOp a .Mult b pos) (tOpD (rdIC MulOk fun i j => i * j) ta tb) := pd_op (fun _ _ => op_mulZ) (simIC fun _ _ h => h) ha hb
theorem pd_fdiv (ha : PD X a ta) (hb : PD X b tb) : PD X (.BinOp a .FloorDiv b pos) (tOpD (rdIC DivOk fun i j => i.fdiv j) ta tb) := pd_op (fun _ _ => op_fdivZ) (simIC fun _ _ h => h) ha hb
theorem pd_mod (ha : PD X a ta) (hb : PD X b tb) : PD X (.BinOp a .Mod b pos) (tOpD (rdIC (fun _ j => 0 < j) fun i j => i % j) ta tb) := pd_op (fun _ _ => op_mod) (simIC fun _ _ h => h) ha hb
theorem pd_pow (ha : PD X a ta) (hb : PD X b tb) : PD X (.BinOp a .Pow b pos) (tOpD (rdIC CPow fun i j => i ^ j.toNat) ta tb) := pd_op (fun _ _ => op_pow) (simIC fun _ _ h => h) ha hb
theorem pd_lt (ha : PD X a ta) (hb : PD X b tb) : PD X (.Compare a [.Lt] [b] pos) (tOpD (rdB fun i j => decide (i < j)) ta tb) := pd_cmp (fun _ _ => op_lt) simB ha hb
theorem pd_le (ha : PD X a ta) (hb : PD X b tb) : PD X (.Compare a [.LtE] [b] pos) (tOpD (rdB fun i j => decide (i ≤ j)) ta tb) := pd_cmp (fun _ _ => op_le) simB ha hb
theorem pd_gt (ha : PD X a ta) (hb : PD X b tb) : PD X (.Compare a [.Gt] [b] pos) (tOpD (rdB fun i j => decide (j < i)) ta tb) := pd_cmp (fun _ _ => op_gt) simB ha hb
theorem pd_ge (ha : PD X a ta) (hb : PD X b tb) : PD X (.Compare a [.GtE] [b] pos) (tOpD (rdB fun i j => decide (j ≤ i)) ta tb) := pd_cmp (fun _ _ => op_ge) simB ha hb
theorem pdt_lt (ha : PD X a ta) (hb : PD X b tb) : PDT X (.Compare a [.Lt] [b] pos) (tTestB (tOpD (rdB fun i j => decide (i < j)) ta tb)) := pdt_cmp (fun _ _ => op_lt) simB ha hb
theorem pdt_le (ha : PD X a ta) (hb : PD X b tb) : PDT X (.Compare a [.LtE] [b] pos) (tTestB (tOpD (rdB fun i j => decide (i ≤ j)) ta tb)) := pdt_cmp (fun _ _ => op_le) simB ha hb
theorem pdt_gt (ha : PD X a ta) (hb : PD X b tb) : PDT X (.Compare a [.Gt] [b] pos) (tTestB (tOpD (rdB fun i j => decide (j < i)) ta tb)) := pdt_cmp (fun _ _ => op_gt) simB ha hb
theorem pdt_ge (ha : PD X a ta) (hb : PD X b tb) : PDT X (.Compare a [.GtE] [b] pos) (tTestB (tOpD (rdB fun i j => decide (j ≤ i)) ta tb)) := pdt_cmp (fun _ _ => op_ge) simB ha hb
/-- -x -/
def rdNeg : D → MH → QD → Prop := fun d M F => match d with | .int i => F (.int (-i)) M | _ => False
theorem pd_neg (ha : PD X a ta) : PD X (.UnaryOp .USub a pos) (tUnD rdNeg ta) := pd_un (fun _ _ => un_neg) (fun x d H M F Q rx mu h k => by
  unfold rdNeg at h
  split at h
  · cases rx; exact ⟨_, rfl, k _ _ _ _ .refl mu (.int _) h⟩
  · exact h.elim) ha

/-! ### == and != -/
end
mutual
def toPy : D → Option PyData
  | .non => some .none
  | .bl b => some (.bool b)
  | .int i => some (.int i)
  | .str x => some (.str x)
  | .lst xs => (toPys xs).map .list
  | .tup xs => (toPys xs).map .tuple
  | _ => none
def toPys : List D → Option (List PyData)
  | [] => some []
  | x :: xs => match toPy x, toPys xs with | some p, some ps => some (p :: ps) | _, _ => none
end
section
variable {K : PySem.W.Frag} {H : Hp} {M : MH}
mutual
theorem toPy_dp : ∀ {v : V} {d : D} {p : PyData}, Rep K H M v d → toPy d = some p → Dp K H v p
  | _, _, _, .non, h => by simp only [toPy] at h; cases h; exact .non
  | _, _, _, .bl b, h => by simp only [toPy] at h; cases h; exact .bl b
  | _, _, _, .int i, h => by simp only [toPy] at h; cases h; exact .int i
  | _, _, _, .str x, h => by simp only [toPy] at h; cases h; exact .str x
  | _, _, _, .flt x, h => by simp [toPy] at h
  | _, _, _, .ref a, h => by simp [toPy] at h
  | _, _, _, .ty n, h => by simp [toPy] at h
  | _, _, _, .lst (xs := xs) r rs, h => by
    simp only [toPy] at h
    cases e : toPys xs with
    | none => rw [e] at h; cases h
    | some ps => rw [e] at h; cases h; exact .lst r.sq (toPys_dp rs e)
  | _, _, _, .tup (xs := xs) r rs, h => by
    simp only [toPy] at h
    cases e : toPys xs with
    | none => rw [e] at h; cases h
    | some ps => rw [e] at h; cases h; exact .tup r.sq (toPys_dp rs e)
  | _, _, _, .dct _ _ _, h => by simp [toPy] at h
  | _, _, _, .obj _ _ _, h => by simp [toPy] at h
  | _, _, _, .exn _ _ _ _ _, h => by simp [toPy] at h
  | _, _, _, .exn0 _ _, h => by simp [toPy] at h
theorem toPys_dp : ∀ {vs : List V} {ds : List D} {ps : List PyData}, Reps K H M vs ds → toPys ds = some ps → DpAll K H vs ps
  | _, _, _, .nil, h => by simp only [toPys] at h; cases h; exact .nil
  | _, _, _, .cons (d := d) (ds := ds) r rs, h => by
    simp only [toPys] at h
    cases e1 : toPy d with
    | none => rw [e1] at h; cases h
    | some p =>
      cases e2 : toPys ds with
      | none => rw [e1, e2] at h; cases h
      | some ps => rw [e1, e2] at h; cases h; exact .cons (toPy_dp r e1) (toPys_dp rs e2)
end
end
/-- == of trees of data; None where it is not told here -/
def eqD (d e : D) : Option Bool := match d, e with
  | .int i, .int j => some (decide (i = j))
  | .bl i, .bl j => some (decide (i = j))
  | .str i, .str j => some (decide (i = j))
  | .non, .non => some true
  | .non, .int _ | .int _, .non | .non, .bl _ | .bl _, .non | .non, .str _ | .str _, .non | .int _, .str _ | .str _, .int _ | .bl _, .str _ | .str _, .bl _ => some false
  | _, _ => match toPy d, toPy e with | some p, some q => if SeqAt.shaped p && SeqAt.shaped q then some (PyData.eqv p q) else none | _, _ => none
def rdEq : R2D := fun d e M F => match eqD d e with | some b => F (.bl b) M | none => False
def rdNe : R2D := fun d e M F => match eqD d e with | some b => F (.bl (!b)) M | none => False
theorem rdEq_inv {d e : D} {M : MH} {F : QD} (h : rdEq d e M F) : ∃ b, eqD d e = some b ∧ F (.bl b) M := by
  unfold rdEq at h
  split at h
  · exact ⟨_, by assumption, h⟩
  · exact h.elim
theorem rdNe_inv {d e : D} {M : MH} {F : QD} (h : rdNe d e M F) : ∃ b, eqD d e = some b ∧ F (.bl (!b)) M := by
  unfold rdNe at h
  split at h
  · exact ⟨_, by assumption, h⟩
  · exact h.elim
section
variable {K : PySem.W.Frag} {H : Hp} {M : MH}
theorem eqD_sim {x y : V} {d e : D} {b : Bool} (rx : Rep K H M x d) (ry : Rep K H M y e) (h : eqD d e = some b) : (scal x y = true ∧ decide (x = y) = b) ∨ ∃ p q, Dp K H x p ∧ Dp K H y q ∧ SeqAt.shaped p = true ∧ SeqAt.shaped q = true ∧ PyData.eqv p q = b := by
  unfold eqD at h
  split at h
  · cases rx; cases ry; cases h; exact .inl ⟨rfl, by simp⟩
  · cases rx; cases ry; cases h; exact .inl ⟨rfl, by simp⟩
  · cases rx; cases ry; cases h; exact .inl ⟨rfl, by simp⟩
  · cases rx; cases ry; cases h; exact .inl ⟨rfl, by simp⟩
  · cases rx; cases ry; cases h; exact .inl ⟨rfl, by simp⟩
  · cases rx; cases ry; cases h; exact .inl ⟨rfl, by simp⟩
  · cases rx; cases ry; cases h; exact .inl ⟨rfl, by simp⟩
  · cases rx; cases ry; cases h; exact .inl ⟨rfl, by simp⟩
  · cases rx; cases ry; cases h; exact .inl ⟨rfl, by simp⟩
  · cases rx; cases ry; cases h; exact .inl ⟨rfl, by simp⟩
  · cases rx; cases ry; cases h; exact .inl ⟨rfl, by simp⟩
  · cases rx; cases ry; cases h; exact .inl ⟨rfl, by simp⟩
  · cases rx; cases ry; cases h; exact .inl ⟨rfl, by simp⟩
  · cases rx; cases ry; cases h; exact .inl ⟨rfl, by simp⟩
  · split at h
    · rename_i p q e1 e2
      split at h
      · rename_i c
        rw [Bool.and_eq_true] at c
        cases h
        exact .inr ⟨p, q, toPy_dp rx e1, toPy_dp ry e2, c.1, c.2, rfl⟩
      · cases h
    · cases h
end
section
variable {X : Cx} {a b e : Expr} {ta tb : TED} {pos p : Pos}
theorem simEq {K : PySem.W.Frag} : SimOp K (fun x y H Q => rEq x y H Q ∨ rEqD K x y H Q) rdEq := fun x y d e H M F Q rx ry mu h k => by
  obtain ⟨c, e1, q⟩ := rdEq_inv h
  rcases eqD_sim rx ry e1 with ⟨h1, h2⟩ | ⟨p, q', h1, h2, h3, h4, h5⟩
  · exact .inl ⟨h1, by rw [h2]; exact k _ _ _ _ .refl mu (.bl _) q⟩
  · exact .inr ⟨p, q', h1, h2, h3, h4, by rw [h5]; exact k _ _ _ _ .refl mu (.bl _) q⟩
theorem simNe {K : PySem.W.Frag} : SimOp K (fun x y H Q => rNe x y H Q ∨ rNeD K x y H Q) rdNe := fun x y d e H M F Q rx ry mu h k => by
  obtain ⟨c, e1, q⟩ := rdNe_inv h
  rcases eqD_sim rx ry e1 with ⟨h1, h2⟩ | ⟨p, q', h1, h2, h3, h4, h5⟩
  · exact .inl ⟨h1, by rw [h2]; exact k _ _ _ _ .refl mu (.bl _) q⟩
  · exact .inr ⟨p, q', h1, h2, h3, h4, by rw [h5]; exact k _ _ _ _ .refl mu (.bl _) q⟩
theorem pd_eq (hu : X.A.units + 64 < cLine) (ha : PD X a ta) (hb : PD X b tb) : PD X (.Compare a [.Eq] [b] pos) (tOpD rdEq ta tb) := pd_cmp (fun pn xe => OpR.or op_eq (op_eqD (X := X.tr pn xe) hu)) simEq ha hb
theorem pd_ne (hu : X.A.units + 64 < cLine) (ha : PD X a ta) (hb : PD X b tb) : PD X (.Compare a [.NotEq] [b] pos) (tOpD rdNe ta tb) := pd_cmp (fun pn xe => OpR.or op_ne (op_neD (X := X.tr pn xe) hu)) simNe ha hb
theorem pdt_eq (hu : X.A.units + 64 < cLine) (ha : PD X a ta) (hb : PD X b tb) : PDT X (.Compare a [.Eq] [b] pos) (tTestB (tOpD rdEq ta tb)) := pdt_cmp (fun pn xe => OpR.or op_eq (op_eqD (X := X.tr pn xe) hu)) simEq ha hb
theorem pdt_ne (hu : X.A.units + 64 < cLine) (ha : PD X a ta) (hb : PD X b tb) : PDT X (.Compare a [.NotEq] [b] pos) (tTestB (tOpD rdNe ta tb)) := pdt_cmp (fun pn xe => OpR.or op_ne (op_neD (X := X.tr pn xe) hu)) simNe ha hb
/-- is None, is not None -/
def isNonD : D → Bool | .non => true | _ => false
def tIsND (t : TED) : TED := fun W τ M Q => t W τ M fun d M1 => Q (.bl (isNonD d)) M1
def tNotND (t : TED) : TED := fun W τ M Q => t W τ M fun d M1 => Q (.bl (!isNonD d)) M1
theorem isNon_sim {K : PySem.W.Frag} {H : Hp} {M : MH} {x : V} {d : D} (r : Rep K H M x d) : decide (x = .non) = isNonD d := by cases r <;> rfl
theorem pd_isN {j pos'} (ha : PD X a ta) : PD X (.Compare a [.Is] [.Constant .none j pos'] pos) (tIsND ta) := fun pn xe H0 M0 W at_ =>
  imE (pe_cmp (pc_isN (ha pn xe H0 M0 W at_))) fun σ H Q ⟨τ, M, F, g0, sl, mu, h, k⟩ => upE_fin g0 sl mu h fun x H1 d M1 g1 mu1 r1 h1 => by
    rw [isNon_sim r1]; exact k _ _ _ _ g1 mu1 (.bl _) h1
theorem pd_notN {j pos'} (ha : PD X a ta) : PD X (.Compare a [.IsNot] [.Constant .none j pos'] pos) (tNotND ta) := fun pn xe H0 M0 W at_ =>
  imE (pe_cmp (pc_notN (ha pn xe H0 M0 W at_))) fun σ H Q ⟨τ, M, F, g0, sl, mu, h, k⟩ => upE_fin g0 sl mu h fun x H1 d M1 g1 mu1 r1 h1 => by
    rw [isNon_sim r1]; exact k _ _ _ _ g1 mu1 (.bl _) h1
theorem pdt_isN {j pos'} (ha : PD X a ta) : PDT X (.Compare a [.Is] [.Constant .none j pos'] pos) (tTestB (tIsND ta)) := fun pn xe H0 M0 W at_ =>
  imT (pt_cmp (pc_isN (ha pn xe H0 M0 W at_))) fun σ H Q ⟨τ, M, F, g0, sl, mu, h, k⟩ => upE_fin g0 sl mu h fun x H1 d M1 g1 mu1 r1 h1 => by
    rw [isNon_sim r1]; exact ⟨_, rfl, k _ _ _ g1 mu1 h1⟩
theorem pdt_notN {j pos'} (ha : PD X a ta) : PDT X (.Compare a [.IsNot] [.Constant .none j pos'] pos) (tTestB (tNotND ta)) := fun pn xe H0 M0 W at_ =>
  imT (pt_cmp (pc_notN (ha pn xe H0 M0 W at_))) fun σ H Q ⟨τ, M, F, g0, sl, mu, h, k⟩ => upE_fin g0 sl mu h fun x H1 d M1 g1 mu1 r1 h1 => by
    rw [isNon_sim r1]; exact ⟨_, rfl, k _ _ _ g1 mu1 h1⟩

/-! ### subscripts, len, slices -/
def rdIx : R2D := fun d e M F => match d, e with
  | .lst xs, .int i => (match atI xs i with | some x => F x M | none => False)
  | .tup xs, .int i => (match atI xs i with | some x => F x M | none => False)
  | .ref a, .int i => (match M a with | some (.lst xs) => (match atI xs i with | some x => F x M | none => False) | _ => False)
  | _, _ => False
theorem Reps.at {K : PySem.W.Frag} {H : Hp} {M : MH} {vs : List V} {ds : List D} {i : Int} {d : D} (r : Reps K H M vs ds) (h : atI ds i = some d) : ∃ v, atI vs i = some v ∧ Rep K H M v d := by
  unfold atI at h ⊢
  rw [r.length]
  cases e : ixN ds.length i with
  | none => rw [e] at h; cases h
  | some j => rw [e] at h; exact r.get h
theorem simIx {K : PySem.W.Frag} : SimOp K (fun x y H Q => rIxL K x y H Q ∨ rIxT K x y H Q) rdIx := fun x y d e H M F Q rx ry mu h k => by
  unfold rdIx at h
  split at h
  · cases ry
    cases rx with
    | lst r rs =>
      split at h
      · rename_i q
        obtain ⟨v, e1, r1⟩ := rs.at q
        exact .inl ⟨_, _, _, _, rfl, rfl, r.sq, e1, k _ _ _ _ .refl mu r1 h⟩
      · exact h.elim
  · cases ry
    cases rx with
    | tup r rs =>
      split at h
      · rename_i q
        obtain ⟨v, e1, r1⟩ := rs.at q
        exact .inr ⟨_, _, _, _, rfl, rfl, r.sq, e1, k _ _ _ _ .refl mu r1 h⟩
      · exact h.elim
  · cases ry
    cases rx with
    | ref a =>
      split at h
      · rename_i q1
        obtain ⟨ho, e, r⟩ := mu _ _ q1
        cases r with
        | lst rs =>
          split at h
          · rename_i q
            obtain ⟨v, e1, r1⟩ := rs.at q
            exact .inl ⟨_, _, _, _, rfl, rfl, .inl (.inl e), e1, k _ _ _ _ .refl mu r1 h⟩
          · exact h.elim
      · exact h.elim
  · exact h.elim
theorem pd_ix (ha : PD X a ta) (hb : PD X b tb) (hs : PlainIx b := by exact fun _ _ => rfl) : PD X (.Subscript a b pos) (tOpD rdIx ta tb) := fun pn xe H0 M0 W at_ =>
  imE (pe_ix (IxR.or ix_list ix_tup) (ha pn xe H0 M0 W at_) (hb pn xe H0 M0 W at_) hs) fun σ H Q ⟨τ, M, F, g0, sl, mu, h, k⟩ =>
    upE_fin g0 sl mu h fun x H1 d M1 g1 mu1 r1 h1 => upE_fin (g0.trans g1) (sl.good g1) mu1 h1 fun y H2 e M2 g2 mu2 r2 h2 =>
      simIx x y d e H2 M2 F Q (r1.good g2) r2 mu2 h2 fun v H' d' M' g' mu' r' f' => k v H' d' M' ((g1.trans g2).trans g') mu' r' f'
def rdLen : RCD := fun ds M F => match ds with
  | [.lst xs] => F (.int xs.length) M
  | [.tup xs] => F (.int xs.length) M
  | [.ref a] => (match M a with | some (.lst xs) => F (.int xs.length) M | _ => False)
  | _ => False
theorem simLen {K : PySem.W.Frag} : SimC K (fun xs H Q => ∃ p ys, xs = [.ref p] ∧ (SqL K H p ys ∨ SqT K H p ys) ∧ Q (.int ys.length) H) rdLen := fun xs ds H M F Q r mu h k => by
  unfold rdLen at h
  split at h
  · cases r with
    | cons r t =>
      cases t
      cases r with
      | lst r rs => exact ⟨_, _, rfl, .inl r.sq, by rw [rs.length]; exact k _ _ _ _ .refl mu (.int _) h⟩
  · cases r with
    | cons r t =>
      cases t
      cases r with
      | tup r rs => exact ⟨_, _, rfl, .inr r.sq, by rw [rs.length]; exact k _ _ _ _ .refl mu (.int _) h⟩
  · cases r with
    | cons r t =>
      cases t
      cases r with
      | ref a =>
        split at h
        · rename_i q1
          obtain ⟨ho, e, r⟩ := mu _ _ q1
          cases r with
          | lst rs => exact ⟨_, _, rfl, .inl (.inl (.inl e)), by rw [rs.length]; exact k _ _ _ _ .refl mu (.int _) h⟩
        · exact h.elim
  · exact h.elim
variable {ts : TAD} {es : List Expr}
theorem pd_len (hm : X.mg "len" = none) (ha : PDA X (e :: es) ts) (hg : Gl X "len" := by rfl) (he : starEach (e :: es) X.env = (false, eval e X.env) :: starEach es X.env := by rfl) (hpl : (backTo pos (starEach es X.env)).any (·.1) = false := by rfl) :
    PD X (.Call (.Name "len" p) (e :: es) [] pos) (tCBD rdLen ts) := pd_bf hm PySem.boot_len (fun pn xe => call_len_seq (X := X.tr pn xe)) simLen ha hg (by decide) (by decide) he hpl
def rdAbs : RCD := fun ds M F => match ds with | [.int i] => F (.int (if i < 0 then -i else i)) M | _ => False
def rdInt : RCD := fun ds M F => match ds with | [.int i] => F (.int i) M | [.bl b] => F (.int (if b then 1 else 0)) M | _ => False
def rdGcd : RCD := fun ds M F => match ds with | [.int i, .int j] => F (.int ((Nat.gcd i.natAbs j.natAbs : Nat) : Int)) M | _ => False
theorem pd_abs (hm : X.mg "abs" = none) (ha : PDA X (e :: es) ts) (hg : Gl X "abs" := by rfl) (he : starEach (e :: es) X.env = (false, eval e X.env) :: starEach es X.env := by rfl) (hpl : (backTo pos (starEach es X.env)).any (·.1) = false := by rfl) :
    PD X (.Call (.Name "abs" p) (e :: es) [] pos) (tCBD rdAbs ts) := pd_bf hm (by decide +kernel) (fun pn xe => call_abs (X := X.tr pn xe)) (fun xs ds H M F Q r mu h k => by
      unfold rdAbs at h
      split at h
      · cases r with
        | cons r t => cases t; cases r; exact ⟨_, rfl, k _ _ _ _ .refl mu (.int _) h⟩
      · exact h.elim) ha hg (by decide) (by decide) he hpl
theorem pd_int1 (hm : X.mg "int" = none) (ha : PDA X (e :: es) ts) (hg : Gl X "int" := by rfl) (he : starEach (e :: es) X.env = (false, eval e X.env) :: starEach es X.env := by rfl) (hpl : (backTo pos (starEach es X.env)).any (·.1) = false := by rfl) :
    PD X (.Call (.Name "int" p) (e :: es) [] pos) (tCBD rdInt ts) := pd_bt hm (by decide +kernel) (fun pn xe => call_int1 (X := X.tr pn xe)) (fun xs ds H M F Q r mu h k => by
      unfold rdInt at h
      split at h
      · cases r with
        | cons r t => cases t; cases r; exact .inl ⟨_, rfl, k _ _ _ _ .refl mu (.int _) h⟩
      · cases r with
        | cons r t => cases t; cases r; exact .inr ⟨_, rfl, k _ _ _ _ .refl mu (.int _) h⟩
      · exact h.elim) ha hg (by decide) (by decide) he hpl
theorem pd_gcd {x : Str} (hm : X.mg x = some (.builtin "math.gcd")) (ha : PDA X (e :: es) ts) (hg : Gl X x := by rfl) (hdb : (x == ("__debug__" : Str)) = false := by decide) (he : starEach (e :: es) X.env = (false, eval e X.env) :: starEach es X.env := by rfl) (hpl : (backTo pos (starEach es X.env)).any (·.1) = false := by rfl) :
    PD X (.Call (.Name x p) (e :: es) [] pos) (tCBD rdGcd ts) := fun pn xe H0 M0 W at_ =>
  imE (pe_callBfun (X := X.tr pn xe) cr_gcd hg hm (ha pn xe H0 M0 W at_) hdb he hpl) fun σ H Q ⟨τ, M, F, g0, sl, mu, h, k⟩ => ⟨τ, M, _, g0, sl, mu, h, fun vs H1 ds M1 g1 mu1 r1 h1 => by
    unfold rdGcd at h1
    split at h1
    · cases r1 with
      | cons r t => cases t with
        | cons r' t' => cases t'; cases r; cases r'; exact ⟨_, _, rfl, k _ _ _ _ g1 mu1 (.int _) h1⟩
    · exact h1.elim⟩
end
end Z

set_option Elab.async false
set_option linter.all false
set_option maxRecDepth 100000
set_option maxHeartbeats 4000000
namespace Z
open PySem L2

/-! ### targets -/
abbrev TGD := D → EnvD → MH → (EnvD → MH → Prop) → Prop
abbrev TGsD := List D → EnvD → MH → (EnvD → MH → Prop) → Prop
def upG (K : PySem.W.Frag) (t : TGD) : TG := fun v σ H Q => ∃ d τ M N, Rep K H M v d ∧ Slots K H M σ τ ∧ Mut K H M ∧ t d τ M N ∧ ∀ σ' H' τ' M', Good H M H' M' → Slots K H' M' σ' τ' → Mut K H' M' → N τ' M' → Q σ' H'
def upGs (K : PySem.W.Frag) (t : TGsD) : TGs := fun vs σ H Q => ∃ ds τ M N, Reps K H M vs ds ∧ Slots K H M σ τ ∧ Mut K H M ∧ t ds τ M N ∧ ∀ σ' H' τ' M', Good H M H' M' → Slots K H' M' σ' τ' → Mut K H' M' → N τ' M' → Q σ' H'
/-- a target: it stores, and raises nothing -/
def PDG (X : Cx) (e : Expr) (t : TGD) : Prop := ∀ pn xe, PG (X.tr pn xe) e (upG X.K t)
def PDGs (X : Cx) (es : List Expr) (t : TGsD) : Prop := ∀ pn xe, PGs (X.tr pn xe) es (upGs X.K t)
def gNameD (i : Nat) : TGD := fun d τ M N => N (setN τ i (some d)) M
def gNilD : TGsD := fun ds τ M N => match ds with | [] => N τ M | _ => False
def gConsD (t : TGD) (u : TGsD) : TGsD := fun ds τ M N => match ds with | d :: r => t d τ M fun τ' M' => u r τ' M' N | [] => False
/-- a list or a tuple, by its items -/
def seqD : D → Option (List D) | .lst xs => some xs | .tup xs => some xs | _ => none
def gTupD (n : Nat) (t : TGsD) : TGD := fun d τ M N => match seqD d with | some xs => xs.length = n ∧ t xs τ M N | none => False
section
variable {X : Cx} {pos : Pos}
theorem imG {e : Expr} {t t' : TG} (h : PG X e t) (i : ∀ v σ H Q, t' v σ H Q → t v σ H Q) : PG X e t' := ⟨fun pins s σ H v u Q I r q => h.run pins s σ H v u Q I r (i v σ H Q q)⟩
theorem imGs {e : List Expr} {t t' : TGs} (h : PGs X e t) (i : ∀ v σ H Q, t' v σ H Q → t v σ H Q) : PGs X e t' := ⟨fun pins s σ H v u Q I r q => h.run pins s σ H v u Q I r (i v σ H Q q)⟩
theorem pdg_name {i : Nat} {x : Str} (hN : X.N.Nodup) (hi : X.N[i]? = some x := by rfl) (hx : Loc X.env.scope x := by first | exact Or.inl rfl | exact Or.inr rfl) (hf : X.fn x = true ∨ X.env.scope.names.lookup x = some .local := by first | exact .inl rfl | exact .inr rfl) : PDG X (.Name x pos) (gNameD i) := fun pn xe =>
  imG (pg_name (X := X.tr pn xe) hN hi hx hf) fun v σ H Q ⟨d, τ, M, N, r, sl, mu, h, k⟩ => k _ H (setN τ i (some d)) M .refl (by rw [setN_eq]; exact sl.set r) mu h
theorem pdgs_nil : PDGs X [] gNilD := fun pn xe => imGs pgs_nil fun vs σ H Q ⟨ds, τ, M, N, r, sl, mu, h, k⟩ => by
  cases r with
  | nil => exact ⟨rfl, k σ H τ M .refl sl mu h⟩
  | cons _ _ => exact h.elim
theorem pdgs_cons {e : Expr} {es : List Expr} {t : TGD} {u : TGsD} (h1 : PDG X e t) (h2 : PDGs X es u) (hs : (assignEach (e :: es) X.env).map (·.2) = assign e X.env :: (assignEach es X.env).map (·.2) := by rfl) : PDGs X (e :: es) (gConsD t u) := fun pn xe =>
  imGs (pgs_cons (X := X.tr pn xe) (h1 pn xe) (h2 pn xe) hs) fun vs σ H Q ⟨ds, τ, M, N, r, sl, mu, h, k⟩ => by
    cases r with
    | nil => exact h.elim
    | cons r rs => exact ⟨_, _, rfl, _, τ, M, _, r, sl, mu, h, fun σ1 H1 τ1 M1 g1 sl1 mu1 q => ⟨_, τ1, M1, N, rs.good g1, sl1, mu1, q, fun σ' H' τ' M' g' sl' mu' n => k σ' H' τ' M' (g1.trans g') sl' mu' n⟩⟩
theorem pdg_tup {es : List Expr} {k : Nat} {t : TGsD} {n : Nat} (hc : X.calm = true) (h : PDGs X es t) (hn : (assignEach es X.env).length = n := by rfl) (hst : (assignEach es X.env).findIdx? (·.1) = none := by rfl) : PDG X (.Tuple es k pos) (gTupD n t) := fun pn xe => by
  have h1 := pg_tup (X := X.tr pn xe) (pos := pos) (k := k) hc (h pn xe) hn hst
  have h2 := pg_lst (X := X.tr pn xe) (pos := pos) (k := k) hc (h pn xe) hn hst
  refine ⟨fun pins s σ H v u Q I r ⟨d, τ, M, N, rp, sl, mu, hh, kk⟩ => ?_⟩
  unfold gTupD at hh
  cases q : seqD d with
  | none => rw [q] at hh; exact hh.elim
  | some xs =>
    rw [q] at hh
    obtain ⟨hl, hh⟩ := hh
    cases rp with
    | lst rr rs =>
      cases q
      exact h2.run pins s σ H _ u Q I r ⟨_, _, rfl, rr.sq, by rw [rs.length]; exact hl, ⟨_, τ, M, N, rs, sl, mu, hh, kk⟩⟩
    | tup rr rs =>
      cases q
      exact h1.run pins s σ H _ u Q I r ⟨_, _, rfl, rr.sq, by rw [rs.length]; exact hl, ⟨_, τ, M, N, rs, sl, mu, hh, kk⟩⟩
    | _ => cases q
/-- target = value -/
def tAsgD (te : TED) (g : TGD) : TSD := fun W F τ M => te W τ M fun d M1 => g d τ M1 F.nx
theorem upG_fin {H0 : Hp} {M0 : MH} {g : TGD} {v : V} {d : D} {σ : L2.St} {τ : EnvD} {H : Hp} {M : MH} {N : EnvD → MH → Prop} {Q : L2.St → Hp → Prop} (g0 : Good H0 M0 H M) (r : Rep X.K H M v d) (sl : Slots X.K H M σ τ) (mu : Mut X.K H M) (h : g d τ M N)
    (k : ∀ σ' H', liftN X.K H0 M0 N σ' H' → Q σ' H') : upG X.K g v σ H Q := ⟨d, τ, M, N, r, sl, mu, h, fun σ' H' τ' M' g' sl' mu' n => k σ' H' ⟨τ', M', g0.trans g', sl', mu', n⟩⟩
theorem pds_asg {tg e : Expr} {te : TED} {g : TGD} (he : PD X e te) (hg : PDG X tg g) (hs : swapsWithSole [tg] e pos.line X.env = pure false := by rfl) (hw : swappedStores [tg] e X.env = pure none := by rfl) (h1 : (assignEach [tg] X.env).map (·.2) = [assign tg X.env] := by rfl) :
    PDS X (.Assign [tg] e pos) (tAsgD te g) := fun pn xe H0 M0 W at_ =>
  imS (ps_asg (X := X.tr pn xe) (he pn xe H0 M0 W at_) (hg pn xe) hs hw h1) fun D σ H ⟨τ, M, F, g0, sl, mu, h, k1, k2, k3, k4⟩ => upE_fin g0 sl mu h fun v H1 d M1 g1 mu1 r1 q => upG_fin g1 r1 (sl.good g1) mu1 q k1
/-- o[i] = v, o a list with an address -/
def tSetIx (te to ti : TED) : TSD := fun W F τ M => te W τ M fun d M1 => to W τ M1 fun o M2 => ti W τ M2 fun i M3 => match o, i with
  | .ref a, .int k => (match M3 a with | some (.lst xs) => (match ixN xs.length k with | some j => F.nx τ (mput M3 a (.lst (xs.set j d))) | none => False) | _ => False)
  | _, _ => False
theorem pds_setix {o i e : Expr} {te to ti : TED} {p2 : Pos} (he : PD X e te) (ho : PD X o to) (hi : PD X i ti) (hs : swapsWithSole [.Subscript o i p2] e pos.line X.env = pure false := by rfl) (hw : swappedStores [.Subscript o i p2] e X.env = pure none := by rfl)
    (h1 : (assignEach [.Subscript o i p2] X.env).map (·.2) = [assign (.Subscript o i p2) X.env] := by rfl)
    (ha : ∀ v, assign (.Subscript o i p2) X.env v = (do
      let ov ← holding [v] (eval o X.env)
      let iv ← holding [v, ov] (eval i X.env)
      standAt p2
      holding [v, ov, iv] (setItem ov iv v)
      release [v, ov, iv] []) := by intro _; rfl) : PDS X (.Assign [.Subscript o i p2] e pos) (tSetIx te to ti) := fun pn xe H0 M0 W at_ =>
  imS (ps_asg (X := X.tr pn xe) (he pn xe H0 M0 W at_) (pg_sub (X := X.tr pn xe) (ho pn xe H0 M0 W at_) (hi pn xe H0 M0 W at_) set_list ha) hs hw h1) fun D σ H ⟨τ, M, F, g0, sl, mu, h, k1, k2, k3, k4⟩ =>
    upE_fin g0 sl mu h fun v H1 d M1 g1 mu1 r1 q1 => upE_fin (g0.trans g1) (sl.good g1) mu1 q1 fun ov H2 od M2 g2 mu2 r2 q2 => upE_fin ((g0.trans g1).trans g2) ((sl.good g1).good g2) mu2 q2 fun iv H3 id M3 g3 mu3 r3 q3 => by
      have r1' := (r1.good g2).good g3
      have r2' := r2.good g3
      split at q3
      · cases r3
        cases r2'
        split at q3
        · rename_i a k xs q
          split at q3
          · rename_i j qj
            obtain ⟨ho, e, rm⟩ := mu3 _ _ q
            cases rm with
            | lst rs =>
              exact ⟨_, _, _, j, rfl, rfl, e, by rw [rs.length]; exact qj, k1 _ _ ⟨τ, _, ((g1.trans g2).trans g3).trans (good_write q), (((sl.good g1).good g2).good g3).good (good_write q), mut_write mu3 q (.lst (rs.set r1' j)), q3⟩⟩
          · exact q3.elim
        · exact q3.elim
      · exact q3.elim

/-! ### what a loop walks -/
/-- over a tree: by its items -/
theorem pi_seq {tg l : Expr} {tl : TE} (hl : PE X l tl) : PI X tg l (fun σ H R => tl σ H fun x H1 => ∃ a, x = .ref a ∧ (((∃ xs, SqL X.K H1 a xs) ∧ R (Itl X.K a) H1) ∨ ((∃ xs, SqT X.K H1 a xs) ∧ R (Itt X.K a) H1))) := by
  refine ⟨fun pins s σ H R I h => thn (hl.run pins s σ H _ I h) ?_⟩
  rintro v s1 ⟨x, H1, I1, r1, a, rfl, q⟩
  cases r1
  have I2 : ∀ o : Obj, Inv X pins σ H1 { s1 with heap := s1.heap.push o } := fun o => I1.kept (t' := s1.toks) fun b u e => Heap.get?_push_of_some _ e
  have fp : ∀ b ∈ [s1.heap.objs.size], FpOk X pins H1 b := fun b hb => by
    rw [List.mem_singleton] at hb
    rw [hb]
    exact I1.fpOk (Nat.le_refl _) (I1.hok.fresh (Nat.le_refl _))
  rcases q with ⟨⟨xs, hq⟩, q⟩ | ⟨⟨xs, hq⟩, q⟩
  · obtain ⟨its, rv, p, hz⟩ := I1.list hq
    exact wpAny_pyIter_list p.isList ⟨_, _, _, _, H1, rfl, I2 _, turn_list a _, ⟨_, Heap.get?_push_size _ rfl, rfl, rfl⟩, fp, q⟩
  · obtain ⟨its, rv, p, hz⟩ := I1.tuple hq
    exact wpAny_pyIter_tuple (show s1.heap.IsTuple a its.toArray from p) ⟨_, _, _, _, H1, rfl, I2 _, turn_tuple a _, ⟨_, Heap.get?_push_size _ rfl, rfl, rfl⟩, fp, q⟩

/-- an iterator that yields these items, whatever happens to what has an address -/
def ItRel (K : PySem.W.Frag) (J : It) (H : Hp) (M : MH) (ds : List D) : Prop := ∀ H2 M2, Good H M H2 M2 → Mut K H2 M2 →
  (∀ i d, ds[i]? = some d → J.go i H2 ∧ ∀ x H3, J.yld i H2 x H3 → Good H2 M2 H3 M2 ∧ Mut K H3 M2 ∧ Rep K H3 M2 x d) ∧ J.stop ds.length H2
def upI (K : PySem.W.Frag) (H0 : Hp) (M0 : MH) (W : WD) (t : TAD) : TI := fun σ H R => ∃ τ M F, Good H0 M0 H M ∧ Slots K H M σ τ ∧ Mut K H M ∧ t W τ M F ∧ ∀ J H' ds M', Good H M H' M' → Mut K H' M' → ItRel K J H' M' ds → F ds M' → R J H'
/-- what a loop walks, by its items -/
def PDI (X : Cx) (tg iter : Expr) (t : TAD) : Prop := ∀ pn xe H0 M0 W, At X pn xe H0 M0 W → PI (X.tr pn xe) tg iter (upI X.K H0 M0 W t)
theorem imI {tg e : Expr} {t t' : TI} (h : PI X tg e t) (i : ∀ σ H Q, t' σ H Q → t σ H Q) : PI X tg e t' := ⟨fun pins s σ H R I q => h.run pins s σ H R I (i σ H R q)⟩
def iSeqD (te : TED) : TAD := fun W τ M Q => te W τ M fun d M1 => match seqD d with | some xs => Q xs M1 | none => False
theorem pdi_seq {tg iter : Expr} {te : TED} (he : PD X iter te) : PDI X tg iter (iSeqD te) := fun pn xe H0 M0 W at_ =>
  imI (pi_seq (he pn xe H0 M0 W at_)) fun σ H R ⟨τ, M, F, g0, sl, mu, h, k⟩ => upE_fin g0 sl mu h fun v H1 d M1 g1 mu1 r1 q => by
    cases e : seqD d with
    | none => rw [e] at q; exact q.elim
    | some xs =>
      rw [e] at q
      cases r1 with
      | lst rr rs =>
        cases e
        refine ⟨_, rfl, .inl ⟨⟨_, rr.sq⟩, k _ H1 xs M1 g1 mu1 (fun H2 M2 g2 mu2 => ⟨fun i d hd => ?_, ⟨_, (rr.good g2).sq, Nat.le_of_eq rs.length⟩⟩) q⟩⟩
        obtain ⟨v, hv, rv⟩ := (rs.good g2).get hd
        exact ⟨⟨_, v, (rr.good g2).sq, hv⟩, fun x H3 ⟨e3, hx⟩ => by
          subst e3
          have := hx _ (rr.good g2).sq
          rw [hv] at this
          cases this
          exact ⟨.refl, mu2, rv⟩⟩
      | tup rr rs =>
        cases e
        refine ⟨_, rfl, .inr ⟨⟨_, rr.sq⟩, k _ H1 xs M1 g1 mu1 (fun H2 M2 g2 mu2 => ⟨fun i d hd => ?_, ⟨_, (rr.good g2).sq, Nat.le_of_eq rs.length⟩⟩) q⟩⟩
        obtain ⟨v, hv, rv⟩ := (rs.good g2).get hd
        exact ⟨⟨_, v, (rr.good g2).sq, hv⟩, fun x H3 ⟨e3, hx⟩ => by
          subst e3
          have := hx _ (rr.good g2).sq
          rw [hv] at this
          cases this
          exact ⟨.refl, mu2, rv⟩⟩
      | _ => cases e
/-- lo, lo + 1, .. -/
def upFrom (lo : Int) (n : Nat) : List D := (List.range n).map fun i => .int (lo + (i : Nat))
theorem upFrom_get {lo : Int} {n i : Nat} {d : D} (h : (upFrom lo n)[i]? = some d) : i < n ∧ d = .int (lo + i) := by
  unfold upFrom at h
  rw [List.getElem?_map] at h
  by_cases hi : i < n
  · rw [List.getElem?_range hi] at h
    cases h
    exact ⟨hi, rfl⟩
  · rw [List.getElem?_eq_none (by simpa using Nat.le_of_not_lt hi)] at h
    cases h
theorem itr_rel {K : PySem.W.Frag} {lo : Int} {n : Nat} {H : Hp} {M : MH} : ItRel K (Itr lo n) H M (upFrom lo n) := fun H2 M2 g2 mu2 => ⟨fun i d hd => by
  obtain ⟨hi, rfl⟩ := upFrom_get hd
  exact ⟨hi, fun x H3 ⟨e3, ex⟩ => by subst e3 ex; exact ⟨.refl, mu2, .int _⟩⟩, by show n ≤ (upFrom lo n).length; simp [upFrom]⟩
def iRngD (ta : TAD) : TAD := fun W τ M Q => ta W τ M fun ds M1 => match ds with
  | [.int n] => (-4611686018427387904 ≤ n ∧ n < 4611686018427387904) ∧ Q (upFrom 0 n.toNat) M1
  | [.int a, .int b] => ((-4611686018427387904 ≤ a ∧ a < 4611686018427387904) ∧ -4611686018427387904 ≤ b ∧ b < 4611686018427387904) ∧ Q (upFrom a (b - a).toNat) M1
  | _ => False
theorem pdi_range1 {tg a : Expr} {ta : TAD} {p : Pos} (hm : X.mg "range" = none) (ha : PDA X [a] ta) (hlk : ∀ (W : WD) τ M (R : List D → MH → Prop), ta W τ M R → ta W τ M (fun ds M => R ds M ∧ ds.length = 1)) (hg : Gl X "range" := by rfl) (hs : starEach [a] X.env = [(false, eval a X.env)] := by rfl) : PDI X tg (.Call (.Name "range" p) [a] [] pos) (iRngD ta) := fun pn xe H0 M0 W at_ =>
  imI (pi_range1 (X := X.tr pn xe) hg hm (ha pn xe H0 M0 W at_) hs) fun σ H R ⟨τ, M, F, g0, sl, mu, h, k⟩ => ⟨τ, M, _, g0, sl, mu, hlk _ _ _ _ h, fun vs H1 ds M1 g1 mu1 r ⟨q, l⟩ => by
    cases r with
    | nil => cases l
    | cons r rs =>
      cases rs with
      | cons _ _ => simp at l
      | nil =>
        split at q
        · rename_i n e
          cases e
          cases r
          exact ⟨n, rfl, by omega, by omega, k _ H1 _ M1 g1 mu1 itr_rel q.2⟩
        · rename_i e; cases e
        · exact q.elim⟩
theorem pdi_range2 {tg a b : Expr} {ta : TAD} {p : Pos} (hm : X.mg "range" = none) (ha : PDA X [a, b] ta) (hlk : ∀ (W : WD) τ M (R : List D → MH → Prop), ta W τ M R → ta W τ M (fun ds M => R ds M ∧ ds.length = 2)) (hg : Gl X "range" := by rfl) (hs : starEach [a, b] X.env = [(false, eval a X.env), (false, eval b X.env)] := by rfl) (hs2 : starEach [b] X.env = [(false, eval b X.env)] := by rfl) : PDI X tg (.Call (.Name "range" p) [a, b] [] pos) (iRngD ta) := fun pn xe H0 M0 W at_ =>
  imI (pi_range2 (X := X.tr pn xe) hg hm (ha pn xe H0 M0 W at_) hs hs2) fun σ H R ⟨τ, M, F, g0, sl, mu, h, k⟩ => ⟨τ, M, _, g0, sl, mu, hlk _ _ _ _ h, fun vs H1 ds M1 g1 mu1 r ⟨q, l⟩ => by
    split at q
    · simp at l
    · cases r with
      | cons r rs =>
        cases rs with
        | cons r' rs' =>
          cases rs'
          cases r
          cases r'
          exact ⟨_, _, rfl, ⟨by omega, by omega, by omega, by omega⟩, k _ H1 _ M1 g1 mu1 itr_rel q.2⟩
    · exact q.elim⟩

/-- for target in ..: body -/
def tForD (ti : TAD) (g : TGD) (body : TSD) : TSD := fun W F τ M => ti W τ M fun xs M1 => ∃ Iv : Nat → EnvD → MH → Prop, Iv 0 τ M1 ∧
  (∀ i x τ' M', xs[i]? = some x → Iv i τ' M' → g x τ' M' fun τ2 M2 => body W { F with nx := Iv (i + 1), ct := Iv (i + 1), bk := F.nx } τ2 M2) ∧ (∀ τ' M', Iv xs.length τ' M' → F.nx τ' M')
theorem pds_for {tg iter : Expr} {body : List Stmt} {ti : TAD} {g : TGD} {tb : TSD} (hc : X.calm = true) (he : PDI X tg iter ti) (hg : PDG X tg g) (hb : PDB X body tb) (hs : ∀ x, foldedSetIterable iter X.env x = pure x := by intro _; rfl) : PDS X (.For tg iter body [] pos) (tForD ti g tb) := fun pn xe H0 M0 W at_ =>
  imS (ps_for (X := X.tr pn xe) at_.po hc (he pn xe H0 M0 W at_) (hg pn xe) (hb pn xe H0 M0 W at_) hs) fun D σ H ⟨τ, M, F, g0, sl, mu, h, k1, k2, k3, k4⟩ => ⟨τ, M, _, g0, sl, mu, h, fun J H1 xs M1 g1 mu1 it ⟨Iv, i0, step, done⟩ => by
    refine ⟨fun i m σ2 H2 => m = xs.length - i ∧ i ≤ xs.length ∧ ∃ τ2 M2, Good H1 M1 H2 M2 ∧ Slots X.K H2 M2 σ2 τ2 ∧ Mut X.K H2 M2 ∧ Iv i τ2 M2, ⟨_, rfl, Nat.zero_le _, τ, M1, .refl, sl.good g1, mu1, i0⟩, ?_⟩
    rintro i m σ2 H2 ⟨rfl, hi, τ2, M2, g2, sl2, mu2, iv⟩
    obtain ⟨go, stop⟩ := it H2 M2 g2 mu2
    by_cases hlt : i < xs.length
    · obtain ⟨go1, yl⟩ := go i xs[i] (by simp [hlt])
      refine .inr ⟨go1, fun σ4 H4 => ∃ τ2 M2, Good H1 M1 H4 M2 ∧ Slots X.K H4 M2 σ4 τ2 ∧ Mut X.K H4 M2 ∧ Iv (i + 1) τ2 M2, fun σ' H' w => ⟨xs.length - (i + 1), by omega, rfl, hlt, w⟩, fun x H3 y => ?_⟩
      obtain ⟨g3, mu3, rx⟩ := yl x H3 y
      refine ⟨_, τ2, M2, _, rx, sl2.good g3, mu3, step i xs[i] τ2 M2 (by simp [hlt]) iv, fun σ4 H4 τ4 M4 g4 sl4 mu4 n => ?_⟩
      have gg := (g2.trans g3).trans g4
      refine ⟨τ4, M4, { F with nx := fun τ4 M4 => Iv (i + 1) τ4 M4, ct := fun τ4 M4 => Iv (i + 1) τ4 M4, bk := F.nx }, (g0.trans g1).trans gg, sl4, mu4, n, ?_, fun v H' q => k2 v H' ((q.tr gg).tr g1), fun σ' H' q => k1 σ' H' ((q.tr gg).tr g1), ?_⟩
      all_goals
        rintro σ5 H5 ⟨τ5, M5, g5, sl5, mu5, iv5⟩
        exact ⟨τ5, M5, gg.trans g5, sl5, mu5, iv5⟩
    · have e : i = xs.length := by omega
      subst e
      exact .inl ⟨stop, k1 _ _ ⟨τ2, M2, g1.trans g2, sl2, mu2, done τ2 M2 iv⟩⟩⟩

/-! ### list comprehensions -/
def wipeD (τ : EnvD) : List Nat → EnvD
  | [] => τ
  | v :: vs => setN (wipeD τ vs) v none
theorem slots_wipe {K : PySem.W.Frag} {H : Hp} {M : MH} {σ : L2.St} {τ : EnvD} (h : Slots K H M σ τ) : ∀ vs, Slots K H M (wipe σ vs) (wipeD τ vs)
  | [] => h
  | v :: vs => by unfold wipe wipeD; rw [setN_eq]; exact (slots_wipe h vs).unset
/-- a target of names alone, among vs -/
def TgtOk (K : PySem.W.Frag) (g : TG) (gd : TGD) (vs : List Nat) : Prop := ∀ v d σ τ H M Q N, Rep K H M v d → Slots K H M σ τ → gd d τ M N → (∀ σ' τ', Slots K H M σ' τ' → wipe σ' vs = wipe σ vs → N τ' M → Q σ' H) → g v σ H Q
theorem wipe_set {x : Option V} {i : Nat} : ∀ {vs : List Nat} {σ : L2.St}, i ∈ vs → wipe (σ.set i x) vs = wipe σ vs
  | v :: vs, σ, h => by
    unfold wipe
    by_cases e : i ∈ vs
    · rw [wipe_set e]
    · have ev : v = i := by
        rcases List.mem_cons.mp h with h | h
        · exact h.symm
        · exact absurd h e
      subst ev
      have q : ∀ (ws : List Nat) (σ : L2.St), v ∉ ws → wipe (σ.set v x) ws = (wipe σ ws).set v x := fun ws => by
        induction ws with
        | nil => intro σ _; rfl
        | cons w ws ih =>
          intro σ hn
          have n1 : w ≠ v := fun e => hn (by rw [e]; exact List.mem_cons_self)
          unfold wipe
          rw [ih σ fun z => hn (List.mem_cons_of_mem _ z), List.set_comm _ _ (Ne.symm n1)]
      rw [q vs σ e, List.set_set]
theorem wipe_sub {vs : List Nat} {σ : L2.St} : ∀ {us : List Nat}, (∀ u ∈ us, u ∈ vs) → wipe (wipe σ us) vs = wipe σ vs
  | [], _ => rfl
  | u :: us, h => by
    show wipe ((wipe σ us).set u none) vs = _
    rw [wipe_set (h u List.mem_cons_self)]
    exact wipe_sub fun w hw => h w (List.mem_cons_of_mem _ hw)
theorem tgt_name {K : PySem.W.Frag} {i : Nat} {vs : List Nat} (hi : i ∈ vs) : TgtOk K (gName i) (gNameD i) vs := fun v d σ τ H M Q N r sl h k => k _ (setN τ i (some d)) (by rw [setN_eq]; exact sl.set r) (wipe_set hi) h
def TgtsOk (K : PySem.W.Frag) (g : TGs) (gd : TGsD) (vs : List Nat) : Prop := ∀ xs ds σ τ H M Q N, Reps K H M xs ds → Slots K H M σ τ → gd ds τ M N → (∀ σ' τ', Slots K H M σ' τ' → wipe σ' vs = wipe σ vs → N τ' M → Q σ' H) → g xs σ H Q
theorem tgts_nil {K : PySem.W.Frag} {vs : List Nat} : TgtsOk K gNil gNilD vs := fun xs ds σ τ H M Q N r sl h k => by
  cases r with
  | nil => exact ⟨rfl, k σ τ sl rfl h⟩
  | cons _ _ => exact h.elim
theorem tgts_cons {K : PySem.W.Frag} {vs : List Nat} {g : TG} {gd : TGD} {gs : TGs} {gds : TGsD} (h1 : TgtOk K g gd vs) (h2 : TgtsOk K gs gds vs) : TgtsOk K (gCons g gs) (gConsD gd gds) vs := fun xs ds σ τ H M Q N r sl h k => by
  cases r with
  | nil => exact h.elim
  | cons r rs => exact ⟨_, _, rfl, h1 _ _ σ τ H M _ _ r sl h fun σ1 τ1 sl1 w1 h1' => h2 _ _ σ1 τ1 H M _ _ rs sl1 h1' fun σ2 τ2 sl2 w2 h2' => k σ2 τ2 sl2 (w2.trans w1) h2'⟩
/-- a tuple of names: what is walked are tuples -/
theorem tgt_tup {K : PySem.W.Frag} {vs : List Nat} {gs : TGs} {gds : TGsD} {n : Nat} (h1 : TgtsOk K gs gds vs) : TgtOk K (gTup K n gs) (fun d τ M N => match d with | .tup xs => xs.length = n ∧ gds xs τ M N | _ => False) vs := fun v d σ τ H M Q N r sl h k => by
  cases r with
  | tup rr rs => exact ⟨_, _, rfl, rr.sq, by rw [rs.length]; exact h.1, h1 _ _ σ τ H M Q N rs sl h.2 k⟩
  | _ => exact h.elim

def noW : WD := fun _ _ _ _ => False
theorem at_no {X : Cx} {H0 : Hp} {M0 : MH} {pn : List (Addr × Obj)} : At X pn (fun _ _ => False) H0 M0 noW :=
  ⟨fun u s' ⟨a, B, sI, pins, σ, H, cls, d, e, I, nb, up, sky, na, os, ag, w⟩ => (let ⟨_, _, _, _, _, _, _, _, _, q⟩ := w; q).elim, PassesOwn.never⟩
/-- the tests of a comprehension: none, one -/
def PDTs (X : Cx) (ifs : List Expr) (t : TTD) : Prop := ∀ H0 M0, PTs (X.tr [] fun _ _ => False) ifs (upT X.K H0 M0 noW t)
def tYesD : TTD := fun _ _ M Q => Q true M
theorem pdts_nil : PDTs X [] tYesD := fun H0 M0 => ⟨fun pins s σ H Q I ⟨τ, M, F, g0, sl, mu, h, k⟩ => pts_nil.run pins s σ H Q I (k true H M .refl mu h)⟩
theorem pdts_one {c : Expr} {t : TTD} (h : PDT X c t) : PDTs X [c] t := fun H0 M0 => pts_one (h [] _ H0 M0 noW at_no)
def tLcD (ti : TAD) (gd : TGD) (tt : TTD) (te : TED) (vs : List Nat) : TED := fun W τ M Q => ti W τ M fun xs M1 => ∀ p, M1 p = none → ∃ Iv : Nat → MH → Prop, Iv 0 (mput M1 p (.lst [])) ∧
  (∀ i x M2, xs[i]? = some x → Iv i M2 → gd x (wipeD τ vs) M2 fun τ2 M3 => tt noW τ2 M3 fun b M4 => (b = true → te noW τ2 M4 fun y M5 => match M5 p with | some (.lst acc) => acc.length < 16777216 ∧ Iv (i + 1) (mput M5 p (.lst (acc ++ [y]))) | _ => False) ∧ (b = false → Iv (i + 1) M4)) ∧
  (∀ M2, Iv xs.length M2 → match M2 p with | some (.lst acc) => Q (.lst acc) (mdel M2 p) | _ => False)
theorem pd_lc {elt tg iter : Expr} {ifs : List Expr} {scope : Scope} {own : List (Str × Nat)} {ti : TAD} {g : TG} {gd : TGD} {tt : TTD} {te : TED} (hc : X.calm = true) (hN : X.N.Nodup) (hi : PDI X tg iter ti) (ok : BlkOk X.N X.env.scope scope own)
    (hg : ∀ (s : Shared) (H : Hp) (C : Addr) (cl : List (Str × Addr)) (fp : List Addr), PG (X.blk s H scope (compEnvC scope cl C X.env) fp) tg g) (hgd : TgtOk X.K g gd (own.map (·.2)))
    (ht : ∀ (s : Shared) (H : Hp) (C : Addr) (cl : List (Str × Addr)) (fp : List Addr), PDTs (X.blk s H scope (compEnvC scope cl C X.env) fp) ifs tt)
    (he : ∀ (s : Shared) (H : Hp) (C : Addr) (cl : List (Str × Addr)) (fp : List Addr), PD (X.blk s H scope (compEnvC scope cl C X.env) fp) elt te) (hs : ∀ x, foldedSetIterable iter X.env x = pure x := by intro _; rfl) :
    PD X (.ListComp elt [⟨tg, iter, ifs, 0⟩] scope pos) (tLcD ti gd tt te (own.map (·.2))) := fun pn xe H0 M0 W at_ =>
  imE (pe_lc (X := X.tr pn xe) (te := upE X.K H0 M0 noW te) (tt := upT X.K H0 M0 noW tt) hc hN (hi pn xe H0 M0 W at_) ok hg (fun s H C cl fp => ht s H C cl fp H0 M0) (fun s H C cl fp => he s H C cl fp [] _ H0 M0 noW at_no) hs) fun σ H Q ⟨τ, M, F, g0, sl, mu, h, k⟩ => ⟨τ, M, _, g0, sl, mu, h, fun J H1 xs M1 g1 mu1 it q => by
    intro p hp
    obtain ⟨Iv, i0, step, done⟩ := q p (mut_none mu1 hp)
    refine ⟨fun i m H2 => m = xs.length - i ∧ i ≤ xs.length ∧ ∃ M2, Good H1 M1 H2 M2 ∧ Mut X.K H2 M2 ∧ Iv i M2, ⟨_, rfl, Nat.zero_le _, mput M1 p (.lst []), good_put hp, mut_put mu1 hp (.lst .nil), i0⟩, ?_⟩
    rintro i m H2 ⟨rfl, hi, M2, g2, mu2, iv⟩
    obtain ⟨go, stop⟩ := it H2 M2 g2 mu2
    by_cases hlt : i < xs.length
    · obtain ⟨go1, yl⟩ := go i xs[i] (by simp [hlt])
      refine .inr ⟨go1, fun H4 => ∃ M4, Good H1 M1 H4 M4 ∧ Mut X.K H4 M4 ∧ Iv (i + 1) M4, fun H' w => ⟨xs.length - (i + 1), by omega, rfl, hlt, w⟩, fun x H3 y => ?_⟩
      obtain ⟨g3, mu3, rx⟩ := yl x H3 y
      have gg := g1.trans (g2.trans g3)
      refine hgd _ _ _ _ H3 M2 _ _ rx (slots_wipe (sl.good gg) _) (step i xs[i] M2 (by simp [hlt]) iv) fun σ4 τ4 sl4 w4 n => ⟨w4.trans (wipe_sub fun _ h => h), τ4, M2, _, g0.trans gg, sl4, mu3, n, fun b H5 M5 g5 mu5 nb => ?_⟩
      cases b with
      | false =>
        rw [if_neg Bool.false_ne_true]
        exact ⟨M5, (g2.trans g3).trans g5, mu5, nb.2 rfl⟩
      | true =>
        rw [if_pos rfl]
        refine ⟨τ4, M5, _, (g0.trans gg).trans g5, sl4.good g5, mu5, nb.1 rfl, fun v H6 d M6 g6 mu6 r6 n6 => ?_⟩
        split at n6
        · rename_i acc ea
          obtain ⟨ho, e, rm⟩ := mu6 _ _ ea
          cases rm with
          | lst rs => exact ⟨_, e, by rw [rs.length, sizeLine_eq]; exact n6.1, mput M6 p (.lst (acc ++ [d])), (((g2.trans g3).trans g5).trans g6).trans (good_write ea), mut_write mu6 ea (.lst (rs.append (.cons r6 .nil))), n6.2⟩
        · exact n6.elim
    · have e : i = xs.length := by omega
      subst e
      have dn := done M2 iv
      split at dn
      · rename_i acc ea
        obtain ⟨ho, e, rm⟩ := mu2 _ _ ea
        cases rm with
        | lst rs => exact .inl ⟨stop, k _ H2 _ _ ((g1.trans g2).trans good_del) (mut_del mu2) (.lst (.inl ⟨mdel_same, .inl e⟩) (rs.good good_del)) dn⟩
      · exact dn.elim⟩
/-- where the item's value is told by its place, whatever stands elsewhere -/
theorem mdel_mput {M : MH} {p : Addr} {o : MO} (h : M p = none) : mdel (mput M p o) p = M := by
  funext b
  by_cases e : b = p
  · subst e; rw [mdel_same, h]
  · rw [mdel_ne e, mput_ne e]
theorem mput_mput {M : MH} {p : Addr} {o o' : MO} : mput (mput M p o) p o' = mput M p o' := by
  funext b
  by_cases e : b = p
  · subst e; rw [mput_same, mput_same]
  · rw [mput_ne e, mput_ne e, mput_ne e]
theorem lc_pure {ti : TAD} {gd : TGD} {tt : TTD} {te : TED} {vs : List Nat} {W : WD} {τ : EnvD} {M : MH} {Q : QD} (xs : List D) (f : D → D) (c : D → Bool) (hl : xs.length ≤ 16777216) (M1 : MH)
    (hx : ∀ x ∈ xs, ∀ M2 (R : EnvD → MH → Prop), (∀ τ2, (∀ R2 : Bool → MH → Prop, R2 (c x) M2 → tt noW τ2 M2 R2) → (c x = true → ∀ R3 : QD, R3 (f x) M2 → te noW τ2 M2 R3) → R τ2 M2) → gd x (wipeD τ vs) M2 R)
    (hq : Q (.lst ((xs.filter c).map f)) M1) (hi : ∀ R : List D → MH → Prop, R xs M1 → ti W τ M R) : tLcD ti gd tt te vs W τ M Q := by
  refine hi _ fun p hp => ⟨fun i M2 => M2 = mput M1 p (.lst (((xs.take i).filter c).map f)), rfl, ?_, ?_⟩
  · rintro i x M2 hx' rfl
    have hi' : i < xs.length := (List.getElem?_eq_some_iff.mp hx').1
    have htk : xs.take (i + 1) = xs.take i ++ [x] := by rw [List.take_add_one, hx']; rfl
    refine hx x (List.mem_of_getElem? hx') _ _ fun τ2 h1 h2 => h1 _ ⟨fun hb => h2 hb _ ?_, fun hb => ?_⟩
    · rw [mput_same]
      refine ⟨?_, ?_⟩
      · have : (((xs.take i).filter c).map f).length ≤ i := by
          rw [List.length_map]
          exact Nat.le_trans (List.length_filter_le _ _) (by rw [List.length_take]; omega)
        omega
      · rw [mput_mput]
        show mput M1 p (.lst (((xs.take i).filter c).map f ++ [f x])) = mput M1 p (.lst (((xs.take (i + 1)).filter c).map f))
        rw [htk, List.filter_append, List.map_append]
        simp [hb]
    · show mput M1 p (.lst (((xs.take i).filter c).map f)) = mput M1 p (.lst (((xs.take (i + 1)).filter c).map f))
      rw [htk, List.filter_append]
      simp [hb]
  · rintro M2 rfl
    rw [mput_same]
    show Q _ _
    rw [mdel_mput hp, List.take_length]
    exact hq
end
end Z

set_option Elab.async false
set_option linter.all false
set_option maxRecDepth 100000
set_option maxHeartbeats 4000000
namespace Z
open PySem L2

section
variable {X : Cx} {a b e : Expr} {es : List Expr} {ta tb te : TED} {ts : TAD} {pos p p2 : Pos}
/-! ### slices of lists -/
def tPartD (t : TED) : WD → EnvD → MH → (Option Int → MH → Prop) → Prop := fun W τ M Q => t W τ M fun d M1 => match d with | .int i => Q (some i) M1 | _ => False
def tNoPartD : WD → EnvD → MH → (Option Int → MH → Prop) → Prop := fun _ _ M Q => Q none M
def upO (K : PySem.W.Frag) (H0 : Hp) (M0 : MH) (W : WD) (t : WD → EnvD → MH → (Option Int → MH → Prop) → Prop) : L2.TO := fun σ H Q => ∃ τ M F, Good H0 M0 H M ∧ Slots K H M σ τ ∧ Mut K H M ∧ t W τ M F ∧ ∀ o H' M', Good H M H' M' → Mut K H' M' → F o M' → Q o H'
def PDO (X : Cx) (e : Option Expr) (t : WD → EnvD → MH → (Option Int → MH → Prop) → Prop) : Prop := ∀ pn xe H0 M0 W, At X pn xe H0 M0 W → PO (X.tr pn xe) e (upO X.K H0 M0 W t)
theorem imO {e : Option Expr} {t t' : L2.TO} (h : PO X e t) (i : ∀ σ H Q, t' σ H Q → t σ H Q) : PO X e t' := ⟨fun pins s σ H Q I q => h.run pins s σ H Q I (i σ H Q q)⟩
theorem pdo_none : PDO X none tNoPartD := fun pn xe H0 M0 W at_ => imO po_none fun σ H Q ⟨τ, M, F, g0, sl, mu, h, k⟩ => k none H M .refl mu h
theorem pdo_some (h : PD X e te) : PDO X (some e) (tPartD te) := fun pn xe H0 M0 W at_ => imO (po_some (h pn xe H0 M0 W at_)) fun σ H Q ⟨τ, M, F, g0, sl, mu, h, k⟩ => upE_fin g0 sl mu h fun v H1 d M1 g1 mu1 r1 q => by
  cases r1 with
  | int i => exact ⟨i, rfl, k (some i) H1 M1 g1 mu1 q⟩
  | _ => exact q.elim
def cutD (xs : List D) (lo hi : Option Int) : List D := (xs.drop (HT.sIx xs.length 0 lo)).take (HT.sIx xs.length xs.length hi - HT.sIx xs.length 0 lo)
theorem reps_cut {K : PySem.W.Frag} {H : Hp} {M : MH} {vs : List V} {xs : List D} (l u : Option Int) (rs : Reps K H M vs xs) : Reps K H M (cutV vs l u) (cutD xs l u) := by
  unfold cutV cutD
  rw [rs.length]
  exact (rs.drop _).take _
def tSlD (t : TED) (tl th : WD → EnvD → MH → (Option Int → MH → Prop) → Prop) : TED := fun W τ M Q => t W τ M fun d M1 => tl W τ M1 fun l M2 => th W τ M2 fun u M3 => match d with | .lst xs => Q (.lst (cutD xs l u)) M3 | _ => False
theorem pd_slice {lo hi : Option Expr} {tl th : WD → EnvD → MH → (Option Int → MH → Prop) → Prop} (he : PD X e te) (hl : PDO X lo tl) (hu : PDO X hi th) : PD X (.Subscript e (.Slice lo hi none p2) pos) (tSlD te tl th) := fun pn xe H0 M0 W at_ =>
  imE (pe_slice sl_list (he pn xe H0 M0 W at_) (hl pn xe H0 M0 W at_) (hu pn xe H0 M0 W at_)) fun σ H Q ⟨τ, M, F, g0, sl, mu, h, k⟩ => upE_fin g0 sl mu h fun v H1 d M1 g1 mu1 r1 q =>
    ⟨τ, M1, _, g0.trans g1, sl.good g1, mu1, q, fun l H2 M2 g2 mu2 q2 => ⟨τ, M2, _, (g0.trans g1).trans g2, (sl.good g1).good g2, mu2, q2, fun u H3 M3 g3 mu3 q3 => by
      cases r1 with
      | lst rr rs =>
        have g := g2.trans g3
        refine ⟨_, _, rfl, (rr.good g).sq, fun q hq => ?_⟩
        exact k _ _ _ M3 ((g1.trans g).trans (good_new hq)) (mut_new mu3 hq) (rep_lst mu3 hq (reps_cut l u (rs.good g))) q3
      | _ => exact q3.elim⟩⟩

/-! ### isinstance with built-in types -/
inductive Tag where | int | bool | str | list | tuple | dict
def tagStr : Tag → String | .int => "int" | .bool => "bool" | .str => "str" | .list => "list" | .tuple => "tuple" | .dict => "dict"
def isTag (T : Tag) (d : D) : Option Bool := match d with
  | .non => some false
  | .bl _ => some (match T with | .int => true | .bool => true | _ => false)
  | .int _ => some (match T with | .int => true | _ => false)
  | .str _ => some (match T with | .str => true | _ => false)
  | .flt _ => some false
  | .lst _ => some (match T with | .list => true | _ => false)
  | .tup _ => some (match T with | .tuple => true | _ => false)
  | .dct _ => some (match T with | .dict => true | _ => false)
  | _ => none
def tyName : D → String | .non => "NoneType" | .bl _ => "bool" | .int _ => "int" | .str _ => "str" | .flt _ => "float" | .lst _ => "list" | .tup _ => "tuple" | .dct _ => "dict" | _ => ""
theorem isTag_kit {T : Tag} {d : D} {b : Bool} (h : isTag T d = some b) : kitB (tyName d) (tagStr T) = some b := by
  cases d <;> cases T <;> cases h <;> (dsimp only [tyName, tagStr]; decide +kernel)
theorem rep_ty {K : PySem.W.Frag} {H : Hp} {M : MH} {v : V} {d : D} {T : Tag} {b : Bool} (r : Rep K H M v d) (h : isTag T d = some b) : TyX K H v (.type (tyName d)) := by
  cases r with
  | non => exact .base .non
  | bl b => exact .base (.bl b)
  | int i => exact .base (.int i)
  | str x => exact .base (.str x)
  | flt x => exact .base (.flt x)
  | lst rr rs =>
    rcases rr with ⟨_, rr | ⟨o, rr⟩⟩ | ⟨o, its, n, h1, h2, _⟩
    · exact .base (.lst rr)
    · exact .base (.frz rr)
    · exact .kList h1 h2
  | tup rr rs =>
    rcases rr with ⟨_, rr | ⟨o, rr⟩⟩ | ⟨o, its, n, h1, h2, _⟩
    · exact .base (.tup rr)
    · exact .fTuple rr
    · exact .kTuple h1 h2
  | dct m e rs => exact .base (.dK e)
  | _ => cases h
def tIs (f : D → Option Bool) (t : TED) : TED := fun W τ M Q => t W τ M fun d M1 => match f d with | some b => Q (.bl b) M1 | none => False
theorem pd_isA {c : Expr} {T : Tag} (hm : X.mg "isinstance" = none) (ha : PD X a ta) (hc : ∀ pn xe, PE (X.tr pn xe) c (tC (.ty (tagStr T)))) (hg : Gl X "isinstance" := by rfl) (he : starEach [a, c] X.env = (false, eval a X.env) :: starEach [c] X.env := by rfl) (he2 : starEach [c] X.env = [(false, eval c X.env)] := by rfl)
    (hpl : (backTo pos (starEach [c] X.env)).any (·.1) = false := by rfl) : PD X (.Call (.Name "isinstance" p) [a, c] [] pos) (tIs (isTag T) ta) := fun pn xe H0 M0 W at_ =>
  imE (pe_callB (X := X.tr pn xe) call_isi hg hm (by decide +kernel) (pa_cons (ha pn xe H0 M0 W at_) (pa_cons (hc pn xe) pa_nil he2) he) (by decide) (by decide) he hpl) fun σ H Q ⟨τ, M, F, g0, sl, mu, h, k⟩ => upE_fin g0 sl mu h fun v H1 d M1 g1 mu1 r1 q => by
    cases e : isTag T d with
    | none => rw [e] at q; exact q.elim
    | some r =>
      rw [e] at q
      exact ⟨_, _, _, _, r, rfl, .ty _, rep_ty r1 e, kit_ty (isTag_kit e), k _ _ _ _ g1 mu1 (.bl _) q⟩
theorem pe_tag {x : Str} {n : String} (hm : X.mg x = none) (hv : bootBuiltins x = some (.type n) := by decide +kernel) (hg : Gl X x := by rfl) (hn : x ≠ "__name__" := by decide) (hd : (x == ("__debug__" : Str)) = false := by decide) : ∀ pn xe, PE (X.tr pn xe) (.Name x p) (tC (.ty n)) :=
  fun pn xe => pe_bltn (X := X.tr pn xe) (v := .ty n) hg hm hv rfl hn hd
/-- isinstance(x, (list, tuple)) and its like -/
def isTag2 (T T' : Tag) (d : D) : Option Bool := match isTag T d, isTag T' d with | some b, some c => some (b || c) | _, _ => none
theorem pd_isA2 {c c' : Expr} {T T' : Tag} {x1} {p3 : Pos} (hm : X.mg "isinstance" = none) (ha : PD X a ta) (hc : ∀ pn xe, PE (X.tr pn xe) c (tC (.ty (tagStr T)))) (hc' : ∀ pn xe, PE (X.tr pn xe) c' (tC (.ty (tagStr T')))) (hg : Gl X "isinstance" := by rfl)
    (he : starEach [a, .Tuple [c, c'] x1 p3] X.env = (false, eval a X.env) :: starEach [.Tuple [c, c'] x1 p3] X.env := by rfl) (he2 : starEach [.Tuple [c, c'] x1 p3] X.env = [(false, eval (.Tuple [c, c'] x1 p3) X.env)] := by rfl) (he3 : starEach [c, c'] X.env = (false, eval c X.env) :: starEach [c'] X.env := by rfl) (he4 : starEach [c'] X.env = [(false, eval c' X.env)] := by rfl)
    (hpl : (backTo pos (starEach [.Tuple [c, c'] x1 p3] X.env)).any (·.1) = false := by rfl) : PD X (.Call (.Name "isinstance" p) [a, .Tuple [c, c'] x1 p3] [] pos) (tIs (isTag2 T T') ta) := fun pn xe H0 M0 W at_ =>
  imE (pe_callB (X := X.tr pn xe) call_isiT hg hm (by decide +kernel) (pa_cons (ha pn xe H0 M0 W at_) (pa_cons (pe_tup (pa_cons (hc pn xe) (pa_cons (hc' pn xe) pa_nil he4) he3)) pa_nil he2) he) (by decide) (by decide) he hpl) fun σ H Q ⟨τ, M, F, g0, sl, mu, h, k⟩ => upE_fin g0 sl mu h fun v H1 d M1 g1 mu1 r1 q => by
    refine ⟨by show 2 ≤ sizeLine; decide, fun t ht => ?_⟩
    unfold isTag2 at q
    cases e : isTag T d with
    | none => rw [e] at q; exact q.elim
    | some r =>
      cases e' : isTag T' d with
      | none => rw [e, e'] at q; exact q.elim
      | some r' =>
        rw [e, e'] at q
        have r2 := r1.good (good_new (o := .tup [.ty (tagStr T), .ty (tagStr T')]) ht)
        refine ⟨_, t, _, _, _, (r || r'), rfl, upd_same, .cons (.ty _) (.cons (.ty _) .nil), rep_ty r2 e, ?_, k _ _ _ _ (g1.trans (good_new ht)) (mut_new mu1 ht) (.bl _) q⟩
        exact kitAny_cons (kit_ty (isTag_kit e)) (fun h0 => kitAny_cons (kit_ty (isTag_kit e')) (fun h1 => by rw [h0, h1]; exact kitAny_nil) (fun h1 => by rw [h1, Bool.or_true])) (fun h0 => by rw [h0, Bool.true_or])

/-! ### tuple(x) -/
def tTupOf (t : TED) : TED := fun W τ M Q => t W τ M fun d M1 => match seqD d with | some xs => Q (.tup xs) M1 | none => False
theorem pd_tupOf (hm : X.mg "tuple" = none) (ha : PD X a ta) (hg : Gl X "tuple" := by rfl) (na : starEach [a] X.env = (false, eval a X.env) :: starEach [] X.env := by rfl) : PD X (.Call (.Name "tuple" p) [a] [] pos) (tTupOf ta) := fun pn xe H0 M0 W at_ =>
  imE (pe_tupleOf (X := X.tr pn xe) hg hm (ha pn xe H0 M0 W at_) na) fun σ H Q ⟨τ, M, F, g0, sl, mu, h, k⟩ => upE_fin g0 sl mu h fun v H1 d M1 g1 mu1 r1 q => by
    cases r1 with
    | lst rr rs => exact .inl ⟨_, _, rfl, rr.sq, fun w hw => k _ _ _ M1 (g1.trans (good_new hw)) (mut_new mu1 hw) (rep_tup mu1 hw rs) q⟩
    | tup rr rs => exact .inr ⟨_, _, rfl, rr.sq, k _ _ _ M1 g1 mu1 (.tup rr rs) q⟩
    | _ => exact q.elim

/-! ### a, b = x, y; while; name op= e -/
def tParD (i j : Nat) (t : TAD) : TSD := fun W F τ M => t W τ M fun ds M1 => match ds with | [d, e] => F.nx (setN (setN τ i (some d)) j (some e)) M1 | _ => False
theorem pds_par {i j : Nat} {x y : Str} {px py pt : Pos} {kt k2 pt2} (hc : X.calm = true) (hN : X.N.Nodup) (ha : PDA X [a, b] ts) (hi : X.N[i]? = some x := by rfl) (hj : X.N[j]? = some y := by rfl) (hij : i ≠ j := by decide)
    (hx : X.env.scope.names.lookup x = some .local := by rfl) (hy : X.env.scope.names.lookup y = some .local := by rfl)
    (hw : swappedStores [.Tuple [.Name x px, .Name y py] kt pt] (.Tuple [a, b] k2 pt2) X.env = pure (some [x, y]) := by rfl)
    (hs : swapsWithSole [.Tuple [.Name x px, .Name y py] kt pt] (.Tuple [a, b] k2 pt2) pos.line X.env = pure false := by rfl) :
    PDS X (.Assign [.Tuple [.Name x px, .Name y py] kt pt] (.Tuple [a, b] k2 pt2) pos) (tParD i j ts) := fun pn xe H0 M0 W at_ =>
  imS (ps_par (X := X.tr pn xe) hc hN hi hj hij hx hy (ha pn xe H0 M0 W at_) hw hs) fun D σ H ⟨τ, M, F, g0, sl, mu, h, k1, k2, k3, k4⟩ => ⟨τ, M, _, g0, sl, mu, h, fun vs H1 ds M1 g1 mu1 r q => by
    split at q
    · cases r with
      | cons r rs => cases rs with
        | cons r' rs' => cases rs'; exact ⟨_, _, rfl, k1 _ _ ⟨_, M1, g1, by rw [setN_eq, setN_eq]; exact ((sl.good g1).set r).set r', mu1, q⟩⟩
    · exact q.elim⟩
/-- while, by an invariant with its measure -/
def tWhileD (c : TTD) (body : TSD) : TSD := fun W F τ M => ∃ (Iv : EnvD → MH → Prop) (m : EnvD → MH → Nat), Iv τ M ∧ ∀ τ' M', Iv τ' M' → c W τ' M' fun b M1 =>
  (b = true → body W { F with nx := fun τ2 M2 => Iv τ2 M2 ∧ m τ2 M2 < m τ' M', ct := fun τ2 M2 => Iv τ2 M2 ∧ m τ2 M2 < m τ' M', bk := F.nx } τ' M1) ∧ (b = false → F.nx τ' M1)
theorem pds_while {c : Expr} {body : List Stmt} {tc : TTD} {tb : TSD} (hc : PDT X c tc) (hb : PDB X body tb) : PDS X (.While c body [] pos) (tWhileD tc tb) := fun pn xe H0 M0 W at_ =>
  imS (ps_while (X := X.tr pn xe) at_.po (hc pn xe H0 M0 W at_) (hb pn xe H0 M0 W at_)) fun D σ H ⟨τ, M, F, g0, sl, mu, ⟨Iv, m, i0, step⟩, k1, k2, k3, k4⟩ => by
    refine ⟨fun n σ2 H2 => ∃ τ2 M2, n = m τ2 M2 ∧ Good H M H2 M2 ∧ Slots X.K H2 M2 σ2 τ2 ∧ Mut X.K H2 M2 ∧ Iv τ2 M2, ⟨_, τ, M, rfl, .refl, sl, mu, i0⟩, ?_⟩
    rintro n σ2 H2 ⟨τ2, M2, rfl, g2, sl2, mu2, iv⟩
    refine ⟨τ2, M2, _, g0.trans g2, sl2, mu2, step τ2 M2 iv, fun b H3 M3 g3 mu3 q => ?_⟩
    cases b with
    | true =>
      rw [if_pos rfl]
      refine ⟨fun σ4 H4 => ∃ τ4 M4, m τ4 M4 < m τ2 M2 ∧ Good H M H4 M4 ∧ Slots X.K H4 M4 σ4 τ4 ∧ Mut X.K H4 M4 ∧ Iv τ4 M4, fun σ4 H4 ⟨τ4, M4, l, w⟩ => ⟨_, l, τ4, M4, rfl, w⟩, ?_⟩
      refine ⟨τ2, M3, _, (g0.trans g2).trans g3, sl2.good g3, mu3, q.1 rfl, ?_, fun v H' z => k2 v H' ((z.tr g3).tr g2), fun σ' H' z => k1 σ' H' ((z.tr g3).tr g2), ?_⟩
      all_goals
        rintro σ5 H5 ⟨τ5, M5, g5, sl5, mu5, iv5, l5⟩
        exact ⟨τ5, M5, l5, (g2.trans g3).trans g5, sl5, mu5, iv5⟩
    | false =>
      rw [if_neg Bool.false_ne_true]
      exact k1 _ _ ⟨τ2, M3, g2.trans g3, sl2.good g3, mu3, q.2 rfl⟩
end

/-! ### repr of data -/
theorem toPy_noDict : (∀ d p, toPy d = some p → p.hasDict = false) := by
  intro d
  refine D.rec (motive_1 := fun d => ∀ p, toPy d = some p → p.hasDict = false) (motive_2 := fun ds => ∀ ps, toPys ds = some ps → PyData.hasDictAll ps = false) (motive_3 := fun _ => True) (motive_4 := fun _ => True) (motive_5 := fun _ => True) (motive_6 := fun _ => True) ?_ ?_ ?_ ?_ ?_ ?_ ?_ ?_ ?_ ?_ ?_ ?_ ?_ ?_ ?_ ?_ ?_ ?_ ?_ ?_ d
  all_goals (try (intros; trivial))
  all_goals (try (intros; rename_i h; simp only [toPy, toPys] at h; cases h; simp [PyData.hasDict, PyData.hasDictAll]; done))
  · intro xs ih p h
    simp only [toPy] at h
    cases e : toPys xs with
    | none => rw [e] at h; cases h
    | some ps => rw [e] at h; cases h; simpa [PyData.hasDict] using ih ps e
  · intro xs ih p h
    simp only [toPy] at h
    cases e : toPys xs with
    | none => rw [e] at h; cases h
    | some ps => rw [e] at h; cases h; simpa [PyData.hasDict] using ih ps e
  · intro x xs ih1 ih2 ps h
    simp only [toPys] at h
    cases e1 : toPy x with
    | none => rw [e1] at h; cases h
    | some q =>
      cases e2 : toPys xs with
      | none => rw [e1, e2] at h; cases h
      | some qs => rw [e1, e2] at h; cases h; simp [PyData.hasDictAll, ih1 q e1, ih2 qs e2]
/-- what repr asks of data, and what it gives -/
def okRepr (p : PyData) : Prop := p.showable = true ∧ p.shown.length ≤ 16777216 ∧ p.depth ≤ 64
def tReprD (t : TED) : TED := fun W τ M Q => t W τ M fun d M1 => match toPy d with | some p => okRepr p ∧ Q (.str p.shown) M1 | none => False
section
variable {X : Cx}
theorem repr_val {pins : List (Addr × Obj)} {σ : L2.St} {H : Hp} {s : Shared} {v : V} {u : Value} {d : D} {p : PyData} {M : MH} {Q : VK} (I : Inv X pins σ H s) (hgd : X.A.guards = some []) (hu : X.A.units + 66 < cLine) (r : RelV v u) (rp : Rep X.K H M v d) (e : toPy d = some p) (ok : okRepr p) (q : Q (.str p.shown) H) :
    wpAny (model X.prog X.w) X.A (call (.builtin "repr") [u]) (EP X pins σ Q) X.xe s := by
  obtain ⟨h1, h2, h3⟩ := ok
  have h2' : p.shown.length ≤ sizeLine := by rw [sizeLine_eq]; exact h2
  obtain ⟨as, rd⟩ := Dp.reads I p v u (toPy_dp rp e) r
  have done : ∀ t, EP X pins σ Q (.str p.shown t) { s with toks := s.toks + 1 } := fun t => ⟨.str p.shown, H, I.tok _, ⟨t, rfl⟩, q⟩
  cases rp with
  | non =>
    simp only [toPy] at e; cases e; cases r
    exact PySem.P.repr_of_none (done _)
  | bl b =>
    simp only [toPy] at e; cases e; cases r
    exact PySem.P.repr_of_bool (done _)
  | int i =>
    simp only [toPy] at e; cases e
    obtain ⟨t, rfl⟩ := r
    exact PySem.P.repr_of_int (by simpa [PyData.showable] using h1) (done _)
  | str x =>
    simp only [toPy] at e; cases e
    obtain ⟨t, rfl⟩ := r
    exact PySem.P.repr_of_str (done _) h2'
  | lst _ _ =>
    cases r
    have nd : p.hasDict = true → sysModules ∉ as := fun z => by rw [toPy_noDict _ _ e] at z; cases z
    exact repr_of_reads' rd h1 nd hgd (by omega) (fun _ _ z => z) (fun h' u tk hk => ⟨.str p.shown, H, I.kept hk, ⟨u, rfl⟩, q⟩) h2'
  | tup _ _ =>
    cases r
    have nd : p.hasDict = true → sysModules ∉ as := fun z => by rw [toPy_noDict _ _ e] at z; cases z
    exact repr_of_reads' rd h1 nd hgd (by omega) (fun _ _ z => z) (fun h' u tk hk => ⟨.str p.shown, H, I.kept hk, ⟨u, rfl⟩, q⟩) h2'
  | _ => simp [toPy] at e
theorem pd_repr {a : Expr} {ta : TED} {pos p : Pos} (hgd : X.A.guards = some []) (hu : X.A.units + 66 < cLine) (hm : X.mg "repr" = none) (ha : PD X a ta) (hg : Gl X "repr" := by rfl) (he : starEach [a] X.env = (false, eval a X.env) :: starEach [] X.env := by rfl) (hpl : (backTo pos (starEach [] X.env)).any (·.1) = false := by rfl) :
    PD X (.Call (.Name "repr" p) [a] [] pos) (tReprD ta) := fun pn xe H0 M0 W at_ => by
  refine ⟨fun pins s σ H Q I ⟨τ, M, F, g0, sl, mu, h, k⟩ => ?_⟩
  refine wpAny_Call_Name_kw (ld_blt I hg hm (show bootBuiltins "repr" = some (.builtin "repr") by decide +kernel) ?_ (by decide) (by decide))
  refine PyProof.Rows.callWith_builtin1 (thn ((pa_cons (X := X.tr pn xe) (ha pn xe H0 M0 W at_) pa_nil he).run pos pins s σ H (fun vs H1 => ∃ v d M1 p, vs = [v] ∧ Good H M H1 M1 ∧ Mut X.K H1 M1 ∧ Rep X.K H1 M1 v d ∧ toPy d = some p ∧ okRepr p ∧ F (.str p.shown) M1) I ?_) fun us s1 ⟨vs, H1, I1, r1, v, d, M1, p, ev, g1, mu1, rp, e, ok, q⟩ => ?_) he hpl
  · exact upE_fin g0 sl mu h fun v H1 d M1 g1 mu1 r1 q => by
      cases e : toPy d with
      | none => rw [e] at q; exact q.elim
      | some p => rw [e] at q; exact ⟨v, d, M1, p, rfl, g1, mu1, r1, e, q.1, q.2⟩
  · subst ev
    cases r1 with
    | cons r rs =>
      cases rs
      exact repr_val (X := X.tr pn xe) I1 hgd hu r rp e ok (k _ H1 _ M1 g1 mu1 (.str _) q)
end

/-! ### defs that show data: they ask that no repr is under way -/
structure FnZ (P : Program) (w : World) (K : PySem.W.Frag) (mg : Str → Option Value) (base : Heap) (k : Nat) (f : Addr) (fd : FuncData) (ps : List Str) (sp : SpD) : Prop where
  len : ∀ ds M F E, sp ds M F E → ds.length = ps.length
  run : ∀ (A : Around) (outer : List Env) (s : Shared) (H : Hp) (args : Args) (us : List Value) (vs : List V) (Q : VK) (E : XK), Room k A → A.guards = some [] → Env0 P w K mg base A outer s H → BindsTo s fd args (ps.zip us) → Vals vs us → spOf K sp vs H Q E →
    codeAny (model P w) A (.call (.ref f) args) (CR (L2.CX P w) outer P w H s Q E) s
section
open PyProof.Rows PySem.Spec
variable {P : Program} {w : World} {K : PySem.W.Frag} {mg : Str → Option Value} {base : Heap}
theorem fnZ {x qual : Str} {st : Stmt} {f : Addr} {fd : FuncData} {N ps : List Str} {k : Nat} {sp : SpD} {t : TSD} (F : Fun K x qual st f fd) (S : FnScope N ps (defScope st)) (len : ∀ ds M F E, sp ds M F E → ds.length = ps.length)
    (hb : ∀ (cdv : Value) (A : Around) (outer : List Env) (s : Shared) (H : Hp) (E : XK), Room k (A.deeper (envOfC qual (defScope st) s.heap.objs.size f cdv)) → A.guards = some [] → PDB (cxOf (L2.CX P w) P w K mg base N qual (defScope st) f cdv A outer s H E) (defBody st) t)
    (wp : ∀ ds M F FE, sp ds M F FE → t (fun C fs _ M => FE C fs M) { nx := fun _ M => F .non M, rt := F } (startD N ds) M) : FnZ P w K mg base (k + 1) f fd ps sp := by
  obtain ⟨oc, od, kV, doc, pm, an, cdv, ct, osl, rfl, lk, hcd⟩ := F.ex
  refine ⟨len, fun A outer s H args us vs Q E hr hgd e0 hbd r hsp => ?_⟩
  obtain ⟨ds, M, G, FE, rr, mu, h, kq, ke⟩ := hsp
  have hl : vs.length = ps.length := by rw [rr.length]; exact len _ _ _ _ h
  have old : ∀ b o, base.get? b = some o → s.heap.get? b = some o := fun b o e => (e0.bs b o e).1
  have KX := e0.mod.kin.keeps old
  have lim := e0.mod.nolimit.keeps old
  refine codeAny_call_function hr.depth (KX _ _ lk) rfl S.co S.gen rfl (PySem.W.codeRec_of KX hcd) (hbd _ _ _ _ ?_)
  refine wpAny_newFunctionEnv_cells S.kind (fun y hy => ?_) fun env he s1 x => ?_
  · obtain ⟨n, v⟩ := y
    exact (S.par n (List.of_mem_zip hy).1).imp id fun q => ⟨q, PySem.W.cellsFrom_some _ _ _ (.inl q)⟩
  subst he
  refine ⟨lim.keeps x.toInCall.keep, codeAny_func ?_⟩
  have I := inv_start (CX := L2.CX P w) (w := w) (cd := cdv) (E := E) S hr.hd e0 hl r x
  have at_ : At (cxOf (L2.CX P w) P w K mg base N qual (defScope st) f cdv A outer s H E) (cxOf (L2.CX P w) P w K mg base N qual (defScope st) f cdv A outer s H E).pn (cxOf (L2.CX P w) P w K mg base N qual (defScope st) f cdv A outer s H E).xe H M (fun C fs _ M => FE C fs M) := by
    refine ⟨Takes.imp (takes_of rfl rfl rfl rfl) fun c d σ H' ⟨C, ds', τ, M', e, ex, g, sl, mu', q⟩ => ?_, passes_of rfl⟩
    subst e
    exact ke C ds' d H' M' g mu' ex q
  have body := hb cdv A outer s H E (hr.deeper _) hgd _ _ H M _ at_
  refine wpAny_mono (body.run [] s1 _ H { nx := fun _ H' => Q .non H', rt := Q } I ⟨startD N ds, M, _, .refl, slots_start rr, mu, wp ds M G FE h, ?_, ?_, ?_, ?_⟩) (fun fl s' hs => ?_) fun e s' hs => hs
  · rintro σ' H' ⟨τ, M', g, sl, mu', q⟩
    exact kq _ _ _ _ g mu' .non q
  · rintro v H' ⟨d, M', g, mu', r', q⟩
    exact kq _ _ _ _ g mu' r' q
  · rintro σ' H' ⟨τ, M', g, sl, mu', q⟩
    exact q.elim
  · rintro σ' H' ⟨τ, M', g, sl, mu', q⟩
    exact q.elim
  · have fin : ∀ {σ' : L2.St} {H' : Hp} {v : V} {u : Value}, Inv (cxOf (L2.CX P w) P w K mg base N qual (defScope st) f cdv A outer s H E) [] σ' H' s' → RelV v u → Q v H' → CE outer P w H s Q u s' :=
      fun {σ' H' v u} J rv q => ⟨v, H', J.os, J.bare, J.base, J.hok, rv, q⟩
    cases fl with
    | ret u => obtain ⟨v, σ', H', J, rv, q⟩ := hs; exact fin J rv q
    | next => obtain ⟨σ', H', J, q⟩ := hs; exact fin (v := V.non) (u := Value.none) J rfl q
    | brk => obtain ⟨_, _, _, q⟩ := hs; exact q.elim
    | cont => obtain ⟨_, _, _, q⟩ := hs; exact q.elim
end
theorem FnZ.of {P : Program} {w : World} {K : PySem.W.Frag} {mg : Str → Option Value} {base : Heap} {k : Nat} {f : Addr} {fd : FuncData} {ps : List Str} {sp : SpD} (len : ∀ ds M F E, sp ds M F E → ds.length = ps.length) (h : FnOk P w K mg base (L2.CX P w) k f fd ps (spOf K sp)) : FnZ P w K mg base k f fd ps sp :=
  ⟨len, fun A outer s H args us vs Q E hr _ e0 hb r q => h.run A outer s H args us vs Q E hr e0 hb r q⟩
section
variable {X : Cx} {k : Nat} {f : Addr} {fd : FuncData} {ps : List Str} {sp : SpD} {x : Str} {e : Expr} {es : List Expr} {ta : TAD} {pos p : Pos}
theorem pd_callZ (F : FnZ X.prog X.w X.K X.mg X.base k f fd ps sp) (hr : Room k X.A) (hgd : X.A.guards = some []) (hm : X.mg x = some (.ref f)) (hk : PySem.W.keepIn X.K (.ref f) = true) (hb : Binds X.K fd ps [])
    (ha : PDA X (e :: es) ta) (hg : Gl X x := by rfl) (hdb : (x == ("__debug__" : Str)) = false := by decide) (he : starEach (e :: es) X.env = (false, eval e X.env) :: starEach es X.env := by rfl) (hpl : (backTo pos (starEach es X.env)).any (·.1) = false := by rfl) :
    PD X (.Call (.Name x p) (e :: es) [] pos) (tCallD sp ta) := fun pn xe H0 M0 W at_ => by
  refine ⟨fun pins s σ H Q I ⟨τ, M, G, g0, sl, mu, h, k⟩ => ?_⟩
  refine wpAny_Call_Name_kw (ld_glob I hg hm ?_ hdb)
  refine PySem.W.callWith_K (h₀ := X.base) I.ok.mod.kin hk (thn ((ha pn xe H0 M0 W at_).run pos pins s σ H (fun vs H1 => vs.length = ps.length ∧ spOf X.K sp vs H1 Q (WE (liftW X.K H0 M0 W) σ)) I ?_) fun us s1 ⟨vs, H1, I1, r, hl, q⟩ => ⟨I1.kIn, ?_⟩) he hpl
  · exact ⟨τ, M, _, g0, sl, mu, h, fun vs H1 ds M1 g1 mu1 r1 h1 => ⟨by rw [r1.length]; exact F.len _ _ _ _ h1, sp_of_call (X := X) g0 sl k g1 mu1 r1 h1⟩⟩
  · have hx := passAt at_.tk σ
    have hbd := hb s1 us I1.kIn (by rw [List.append_nil, ← r.length]; exact hl)
    rw [List.append_nil] at hbd
    refine wpAny_call (codeAny_mono (F.run X.A X.stack s1 H1 ⟨us, []⟩ us vs Q (WE (liftW X.K H0 M0 W) σ) hr hgd I1.env0 hbd r q) fun r s' hq => ?_)
    cases r with
    | error e => exact hx pins H1 s1 e s' I1 hq
    | ok fl =>
      cases fl with
      | ret u => exact I1.after hq
      | next => exact hq.elim
      | brk => exact hq.elim
      | cont => exact hq.elim
end
end Z

set_option Elab.async false
set_option linter.all false
set_option maxRecDepth 100000
set_option maxHeartbeats 4000000
namespace Z
open PySem L2 PySem.Spec PyProof.Rows

/-- what a law promises: of the script's ints, at most 63, it gives True -/
def spLaw : SpD := fun ds M F _ => ∃ ns : List Int, ds = [.lst (ns.map D.int)] ∧ ns.length ≤ 63 ∧ M = (fun _ => none) ∧ ∀ M', F (.bl true) M'
theorem reps_ints {K : PySem.W.Frag} {H : Hp} {M : MH} : ∀ ns : List Int, Reps K H M (ns.map V.int) (ns.map D.int)
  | [] => .nil
  | n :: ns => .cons (.int n) (reps_ints ns)
/-- the law's call from an abstract heap in which at most the script stands -/
theorem law_from {P : Program} {w : World} {K : PySem.W.Frag} {mg mb : Str → Option Value} {k : Nat} {fa a : Addr} {fd : FuncData} {x : Str} {s1 : Shared} {vs : List Value} {ns : List Int} {H : Hp} (KX : K.In s1.heap) (hns : s1.heap.Ns mainGlobals mg)
    (hb : s1.heap.Ns builtinsNs mb) (hbb : ∀ y : Str, y ≠ "__name__" → mb y = bootBuiltins y) (hlim : s1.heap.NoLimit) (hg : s1.gens = #[]) (ha : s1.heap.get? a = some { cls := .type "list", data := .seq vs.toArray }) (hl : ns.length ≤ 63) (hr : Room k callerA)
    (F : ∀ base : Heap, K.In base → base.Ns mainGlobals mg → FnZ P w K mg base k fa fd [x] spLaw) (hbind : ∀ (s : Shared) (u : Value), BindsTo s fd ⟨[u], []⟩ [(x, u)])
    (hO : Only H) (hS : SqL K H a (ns.map V.int)) (hok : HOk P w H s1.heap) (hA : ∀ b, H b ≠ none → b = a) (hK : H a ≠ none → K.lookup a = none) :
    codeAny (model P w) callerA (.call (.ref fa) ⟨[.ref a], []⟩) (fun r s' => r = .ok (.ret (.bool true)) ∧ OldK s1.heap s'.heap ∧ s'.os = s1.os ∧ AllBare s'.gens) s1 := by
  have at_a : ∀ {b : Addr} {u : HO}, H b = some u → b = a := fun e => hA _ (by rw [e]; exact fun z => by cases z)
  have noDict : ∀ {b : Addr} {o : Obj} {es : Array DictEntry} {ep : Nat}, s1.heap.get? b = some o → o.data = .dict es ep → H b = none := by
    intro b o es ep e d
    match q : H b with
    | none => rfl
    | some u =>
      rw [at_a q, ha] at e
      cases e
      cases (show Data.seq vs.toArray _ = Data.dict es ep from d)
  have ns_keep : ∀ {b : Addr} {m : Str → Option Value}, s1.heap.Ns b m → (hidT s1.heap H).Ns b m := by
    rintro b m ⟨o, es, ep, e, d, r⟩
    exact ⟨o, es, ep, hidT_get e (noDict e d), d, r⟩
  have K_keep : K.In (hidT s1.heap H) := by
    intro b o e
    refine hidT_get (KX b o e) ?_
    match q : H b with
    | none => rfl
    | some u =>
      have eb := at_a q
      rw [eb] at e q
      rw [hK (by rw [q]; exact fun z => by cases z)] at e
      cases e
  have hM : Mod K mg (hidT s1.heap H) := ⟨K_keep, ns_keep hns, ⟨mb, ns_keep hb, hbb⟩, by obtain ⟨mc, z1, z2⟩ := hlim; exact ⟨mc, ns_keep z1, z2⟩⟩
  have e0 : Env0 P w K mg (hidT s1.heap H) callerA [] s1 H := ⟨rfl, hM, fun b o e => of_hidT e, Nat.le_of_eq (hidT_size _ _), trivial, (fun b z => absurd (show b ∈ ([] : List Addr) from z) (by simp)), hok, .of_eq hg⟩
  have rl : ReL K H (fun _ => none) a (ns.map V.int) := hS.elim (fun z => .inl ⟨rfl, z⟩) .inr
  have sp0 : spOf K spLaw [.ref a] H (fun v _ => v = .bl true) fun _ _ _ => False := by
    refine ⟨[.lst (ns.map D.int)], fun _ => none, fun d _ => d = .bl true, fun _ _ _ => False, .cons (.lst rl (reps_ints ns)) .nil, (fun b mo z => by cases z), ⟨ns, rfl, hl, rfl, fun _ => rfl⟩, ?_, fun _ _ _ _ _ _ _ _ z => z⟩
    rintro v H' d M' _ _ r rfl
    cases r
    rfl
  refine codeAny_mono ((F _ K_keep (ns_keep hns)).run callerA [] s1 H ⟨[.ref a], []⟩ [.ref a] [.ref a] _ _ hr rfl e0 (hbind s1 (.ref a)) (.cons rfl .nil) sp0) ?_
  intro r s' h
  match r, h with
  | .error e, h => obtain ⟨_, _, _, _, _, _, _, _, _, _, _, _, z⟩ := h; exact z.elim
  | .ok .next, h => exact False.elim h
  | .ok .brk, h => exact False.elim h
  | .ok .cont, h => exact False.elim h
  | .ok (.ret u), h =>
    obtain ⟨v, H', os, bare, un, hok', r', q⟩ := h
    cases (show v = .bl true from q)
    cases r'
    refine ⟨rfl, OldK.of_keep fun b o e => ?_, os, bare⟩
    match q : H b with
    | none => exact un.keep b o e q (fun z => nomatch z) (fun z => nomatch z)
    | some u =>
      obtain ⟨ob, xs, z⟩ := (hO b).resolve_left (by rw [q]; exact fun z => by cases z)
      have t1 := (hok b _ z).1
      have t2 := (hok' b _ (un.frzs b ob _ z)).1
      rw [e] at t1
      cases t1
      exact t2
theorem walkZ {l : PySem.W.OpenLaw} {k : Nat} {q : Program} {loose : List Str} {XP : (Str → Option Value) → Heap → Prop} {YP : World → Heap → Prop} {d : DefRec} {K : Params → PySem.W.Frag} {x : Str} (hn : l.most = some 63) (hdf : d.params.defaults = []) (hr : Room k callerA)
    (hY : ∀ (w : World) (h : Heap), YP w h → (K w.params).In h)
    (F : ∀ (w : World) (mg : Str → Option Value) (fa : Addr) (h : Heap), (K w.params).In h → h.Ns mainGlobals mg → mg d.name = some (.ref fa) →
      ∃ fd : FuncData, (∀ (s : Shared) (u : Value), BindsTo s fd ⟨[u], []⟩ [(x, u)]) ∧ ∀ base : Heap, (K w.params).In base → base.Ns mainGlobals mg → FnZ l.prog w (K w.params) mg base k fa fd [x] spLaw) :
    PySem.W.WalkO q loose XP YP l.row.toRowW d [] (fun f vs => PySem.call f vs) := by
  refine Att.attach_call hn hdf fun w s₀ s1 mg mb fa o pm cd doc a vs ns G Y ho hd hcd hmg hobj hints hlen hg => ?_
  have KX := hY w _ Y
  obtain ⟨fd, hb, hF⟩ := F w mg fa _ KX G.T.g hmg
  have rv := vals_ints hints
  have lenV := hints.length
  have run := fun H => law_from (H := H) (ns := ns) KX G.T.g G.T.b G.T.builtins G.T.nolimit hg hobj hlen hr hF hb
  cases hk : (K w.params).lookup a with
  | some ob =>
    have e := KX a ob hk
    rw [hobj] at e
    cases e
    refine run (fun _ => none) (fun _ => .inl rfl) (.inr ⟨_, vs.toArray, _, hk, rfl, rfl, rfl, ?_, by simpa using rv⟩) (fun b u z => by cases (show (none : Option HO) = some u from z)) (fun b z => absurd rfl z) (fun z => absurd rfl z)
    rw [List.size_toArray, lenV, sizeLine_eq]
    omega
  | none =>
    have self : ∀ b, b = a → (if b = a then some (HO.frz { cls := .type "list", data := .seq vs.toArray } (.lst (ns.map V.int))) else none) = some (.frz { cls := .type "list", data := .seq vs.toArray } (.lst (ns.map V.int))) := fun b e => if_pos e
    have other : ∀ b, b ≠ a → (if b = a then some (HO.frz { cls := .type "list", data := .seq vs.toArray } (.lst (ns.map V.int))) else none) = none := fun b e => if_neg e
    refine run (fun b => if b = a then some (.frz { cls := .type "list", data := .seq vs.toArray } (.lst (ns.map V.int))) else none) (fun b => ?_) (.inl (.inr ⟨_, self a rfl⟩)) (fun b u z => ?_) (fun b z => ?_) (fun _ => hk)
    · by_cases e : b = a
      · exact .inr ⟨_, _, self b e⟩
      · exact .inl (other b e)
    · by_cases e : b = a
      · have z' := (self b e).symm.trans z
        cases z'
        subst e
        refine ⟨hobj, ?_, vs, _, rv, hobj⟩
        rw [List.length_map, sizeLine_eq]
        omega
      · have z' := (other b e).symm.trans z
        cases z'
    · by_cases e : b = a
      · exact e
      · exact absurd (other b e) z
end Z

set_option Elab.async false
set_option linter.all false
set_option maxRecDepth 100000
set_option maxHeartbeats 4000000
namespace Z
open PySem L2 PySem.Spec PyProof.Rows

theorem hrU {k : Nat} {A : Around} (r : Room k A) : A.units + 64 < cLine := by have := r.un; omega
theorem hrV {k : Nat} {A : Around} (r : Room k A) : A.units + 66 < cLine := by have := r.un; omega

/-! ### + and * -/
def rdAdd : R2D := fun d e M F => match d, e with
  | .int i, .int j => F (.int (i + j)) M
  | .str x, .str y => decide (x.length + y.length ≤ 16777216) = true ∧ F (.str (x ++ y)) M
  | _, _ => False
theorem simAdd {K : PySem.W.Frag} : SimOp K (fun x y H Q => rI0 (fun i j => .int (i + j)) x y H Q ∨ (∃ i j, x = .str i ∧ y = .str j ∧ i.length + j.length ≤ sizeLine ∧ Q (.str (i ++ j)) H)) rdAdd := fun x y d e H M F Q rx ry mu h k => by
  unfold rdAdd at h
  split at h
  · cases rx; cases ry
    exact .inl ⟨_, _, rfl, rfl, k _ _ _ _ .refl mu (.int _) h⟩
  · cases rx; cases ry
    exact .inr ⟨_, _, rfl, rfl, szl h.1, k _ _ _ _ .refl mu (.str _) h.2⟩
  · exact h.elim
def rdMul : R2D := fun d e M F => match d, e with
  | .int i, .int j => MulOk i j ∧ F (.int (i * j)) M
  | _, _ => False
theorem simMul {K : PySem.W.Frag} : SimOp K (rI MulOk fun i j => .int (i * j)) rdMul := fun x y d e H M F Q rx ry mu h k => by
  unfold rdMul at h
  split at h
  · cases rx; cases ry
    exact ⟨_, _, rfl, rfl, h.1, k _ _ _ _ .refl mu (.int _) h.2⟩
  · exact h.elim
section
variable {X : Cx} {a b e : Expr} {es : List Expr} {ta tb te : TED} {ts : TAD} {pos p p2 : Pos}
theorem pd_addA (ha : PD X a ta) (hb : PD X b tb) : PD X (.BinOp a .Add b pos) (tOpD rdAdd ta tb) := pd_op (fun _ _ => OpR.or op_add op_add_str) simAdd ha hb
theorem pd_mulA (ha : PD X a ta) (hb : PD X b tb) : PD X (.BinOp a .Mult b pos) (tOpD rdMul ta tb) := pd_op (fun _ _ => op_mulZ) simMul ha hb
theorem mulOk_l {i j : Int} (h : -18446744073709551616 < i ∧ i < 18446744073709551616) : MulOk i j := .inl (.inl h)
theorem mulOk_r {i j : Int} (h : -18446744073709551616 < j ∧ j < 18446744073709551616) : MulOk i j := .inl (.inr h)

/-! ### arguments whose number is known -/
def upAn (K : PySem.W.Frag) (n : Nat) (H0 : Hp) (M0 : MH) (W : WD) (t : TAD) : TA := fun σ H Q => ∃ τ M F, Good H0 M0 H M ∧ Slots K H M σ τ ∧ Mut K H M ∧ t W τ M F ∧
  ∀ vs H' ds M', Good H M H' M' → Mut K H' M' → Reps K H' M' vs ds → ds.length = n → F ds M' → Q vs H'
def PDN (X : Cx) (es : List Expr) (t : TAD) : Prop := ∀ pn xe H0 M0 W, At X pn xe H0 M0 W → PA (X.tr pn xe) es (upAn X.K es.length H0 M0 W t)
theorem pdn_nil : PDN X [] tNilD := fun pn xe H0 M0 W at_ => imA pa_nil fun σ H Q ⟨τ, M, F, g0, sl, mu, h, k⟩ => k [] H [] M .refl mu .nil rfl h
theorem pdn_cons (ha : PD X e te) (hr : PDN X es ts) (hs : starEach (e :: es) X.env = (false, eval e X.env) :: starEach es X.env := by rfl) : PDN X (e :: es) (tConsD te ts) := fun pn xe H0 M0 W at_ =>
  imA (pa_cons (X := X.tr pn xe) (ha pn xe H0 M0 W at_) (hr pn xe H0 M0 W at_) hs) fun σ H Q ⟨τ, M, F, g0, sl, mu, h, k⟩ =>
    upE_fin g0 sl mu h fun x H1 d M1 g1 mu1 r1 h1 => ⟨τ, M1, _, g0.trans g1, sl.good g1, mu1, h1, fun xs H2 ds M2 g2 mu2 r2 l2 h2 => k (x :: xs) H2 (d :: ds) M2 (g1.trans g2) mu2 (.cons (r1.good g2) r2) (by simp [l2]) h2⟩
theorem pdi_rng1 {tg : Expr} {ta : TAD} (hm : X.mg "range" = none) (ha : PDN X [a] ta) (hg : Gl X "range" := by rfl) (hs : starEach [a] X.env = [(false, eval a X.env)] := by rfl) : PDI X tg (.Call (.Name "range" p) [a] [] pos) (iRngD ta) := fun pn xe H0 M0 W at_ =>
  imI (pi_range1 (X := X.tr pn xe) hg hm (ha pn xe H0 M0 W at_) hs) fun σ H R ⟨τ, M, F, g0, sl, mu, h, k⟩ => ⟨τ, M, _, g0, sl, mu, h, fun vs H1 ds M1 g1 mu1 r l q => by
    cases r with
    | nil => cases l
    | cons r rs =>
      cases rs with
      | cons _ _ => simp at l
      | nil =>
        split at q
        · rename_i n e
          cases e
          cases r
          exact ⟨n, rfl, by omega, by omega, k _ H1 _ M1 g1 mu1 itr_rel q.2⟩
        · rename_i e; cases e
        · exact q.elim⟩
theorem pdi_rng2 {tg : Expr} {ta : TAD} (hm : X.mg "range" = none) (ha : PDN X [a, b] ta) (hg : Gl X "range" := by rfl) (hs : starEach [a, b] X.env = [(false, eval a X.env), (false, eval b X.env)] := by rfl) (hs2 : starEach [b] X.env = [(false, eval b X.env)] := by rfl) : PDI X tg (.Call (.Name "range" p) [a, b] [] pos) (iRngD ta) := fun pn xe H0 M0 W at_ =>
  imI (pi_range2 (X := X.tr pn xe) hg hm (ha pn xe H0 M0 W at_) hs hs2) fun σ H R ⟨τ, M, F, g0, sl, mu, h, k⟩ => ⟨τ, M, _, g0, sl, mu, h, fun vs H1 ds M1 g1 mu1 r l q => by
    split at q
    · simp at l
    · cases r with
      | cons r rs =>
        cases rs with
        | cons r' rs' =>
          cases rs'
          cases r
          cases r'
          exact ⟨_, _, rfl, ⟨by omega, by omega, by omega, by omega⟩, k _ H1 _ M1 g1 mu1 itr_rel q.2⟩
    · exact q.elim⟩

/-! ### calls by keywords, calls without arguments, of defs that ask that no repr is under way -/
def PDKn (X : Cx) (es : List Keyword) (t : TAD) : Prop := ∀ pn xe H0 M0 W, At X pn xe H0 M0 W → PK (X.tr pn xe) es (upAn X.K es.length H0 M0 W t)
theorem pdkn_nil : PDKn X [] tNilD := fun pn xe H0 M0 W at_ => imK pk_nil fun σ H Q ⟨τ, M, F, g0, sl, mu, h, k⟩ => k [] H [] M .refl mu .nil rfl h
theorem pdkn_cons {kws : List Keyword} {nm : Option Str} {kpos : Pos} (ha : PD X e te) (hr : PDKn X kws ts) : PDKn X (⟨nm, e, kpos⟩ :: kws) (tConsD te ts) := fun pn xe H0 M0 W at_ =>
  imK (pk_cons (ha pn xe H0 M0 W at_) (hr pn xe H0 M0 W at_)) fun σ H Q ⟨τ, M, F, g0, sl, mu, h, k⟩ =>
    upE_fin g0 sl mu h fun x H1 d M1 g1 mu1 r1 h1 => ⟨τ, M1, _, g0.trans g1, sl.good g1, mu1, h1, fun xs H2 ds M2 g2 mu2 r2 l2 h2 => k (x :: xs) H2 (d :: ds) M2 (g1.trans g2) mu2 (.cons (r1.good g2) r2) (by simp [l2]) h2⟩
variable {k : Nat} {f : Addr} {fd : FuncData} {ps ks : List Str} {sp : SpD} {x : Str} {kws : List Keyword} {ta' : TAD} {ix : List Nat}
theorem pd_callKZ (F : FnZ X.prog X.w X.K X.mg X.base k f fd ps sp) (hr : Room k X.A) (hgd : X.A.guards = some []) (hm : X.mg x = some (.ref f)) (hk : PySem.W.keepIn X.K (.ref f) = true) (hb : KwB X.K fd ps ks ix)
    (ha : PDKn X kws ta') (hl : kws.length = ks.length) (hg : Gl X x := by rfl) (hdb : (x == ("__debug__" : Str)) = false := by decide) (hall : (backToKw pos (keywordEach kws X.env)).all (·.1.isSome) = true := by rfl)
    (hks : (backToKw pos (keywordEach kws X.env)).filterMap (·.1) = ks := by rfl) (hpl : ((backTo pos (starEach [] X.env)).any (·.1) || (backToKw pos (keywordEach kws X.env)).any (·.1.isNone)) = false := by rfl) :
    PD X (.Call (.Name x p) [] kws pos) (tCallKD sp ix ta') := fun pn xe H0 M0 W at_ => by
  refine ⟨fun pins s σ H Q I ⟨τ, M, G, g0, sl, mu, h, k⟩ => ?_⟩
  refine wpAny_Call_Name_kw (ld_glob I hg hm ?_ hdb)
  refine PySem.W.callWith_KW0 (h₀ := X.base) I.ok.mod.kin hk hall (thn ((ha pn xe H0 M0 W at_).run pos pins s σ H (fun zs H1 => zs.length = kws.length ∧ spOf X.K sp (permL ix zs) H1 Q (WE (liftW X.K H0 M0 W) σ)) I ?_) fun ws s1 ⟨zs, H1, I1, r, hzl, q⟩ => ⟨I1.kIn, ?_⟩) hpl
  · exact ⟨τ, M, _, g0, sl, mu, h, fun vs H1 ds M1 g1 mu1 r1 h2 h1 => ⟨by rw [r1.length, h2], sp_of_call (X := X) g0 sl k g1 mu1 (r1.perm ix) h1⟩⟩
  · rw [hks]
    have hx := passAt at_.tk σ
    refine wpAny_call (codeAny_mono (F.run X.A X.stack s1 H1 ⟨[], ks.zip ws⟩ (permL ix ws) (permL ix zs) Q (WE (liftW X.K H0 M0 W) σ) hr hgd I1.env0 (BindsTo.of_eq (hb ws (by rw [← r.length, hzl, hl]))) (vals_perm r ix) q) fun r s' hq => ?_)
    cases r with
    | error e => exact hx pins H1 s1 e s' I1 hq
    | ok fl =>
      cases fl with
      | ret u => exact I1.after hq
      | next => exact False.elim hq
      | brk => exact False.elim hq
      | cont => exact False.elim hq
end

/-! ### dict displays -/
section
variable {X : Cx} {e : Expr} {te : TED} {pos p : Pos}
theorem good_newT {H : Hp} {M : MH} {p : Addr} {o : HO} (hp : H p = none) : Good H M (upd H p o) M := good_new hp
theorem pd_dict0 : PD X (.Dict [] [] pos) (tCD (.dct [])) := fun pn xe H0 M0 W at_ =>
  imE pe_dnewK fun σ H Q ⟨τ, M, F, g0, sl, mu, h, k⟩ p hp => k _ _ _ M (good_new hp) (mut_new mu hp) (.dct (mut_none mu hp) upd_same .nil) h
abbrev TPD := WD → EnvD → MH → (List (Key × D) → MH → Prop) → Prop
def tNilP : TPD := fun _ _ M Q => Q [] M
def tConsP (k : Key) (t : TED) (tr : TPD) : TPD := fun W τ M Q => t W τ M fun d M1 => tr W τ M1 fun ps M2 => Q ((k, d) :: ps) M2
/-- the pairs of a display: keys are constants -/
def PDP (X : Cx) (pos : Pos) (keys : List (Option Expr)) (values : List Expr) (t : TPD) : Prop := ∀ pn xe H0 M0 W, At X pn xe H0 M0 W → ∃ trs, PPs (X.tr pn xe) pos keys values trs ∧
  ∀ σ H Q, (∃ τ M F, Good H0 M0 H M ∧ Slots X.K H M σ τ ∧ Mut X.K H M ∧ t W τ M F ∧ ∀ ps H' ds M', Good H M H' M' → Mut X.K H' M' → RepK X.K H' M' ps ds → ds.length = keys.length → F ds M' → Q (ps.map fun kv => (kV kv.1, kv.2)) H') → tPairs trs σ H Q
theorem pdps_nil : PDP X pos [] [] tNilP := fun pn xe H0 M0 W at_ => ⟨[], pps_nil, fun σ H Q ⟨τ, M, F, g0, sl, mu, h, k⟩ => k [] H [] M .refl mu .nil rfl h⟩
theorem pdps_cons {k : Key} {ke : Expr} {ks : List (Option Expr)} {es : List Expr} {tr : TPD} (hk : ∀ pn xe, PE (X.tr pn xe) ke (tC (kV k))) (he : PD X e te) (hr : PDP X pos ks es tr) : PDP X pos (some ke :: ks) (e :: es) (tConsP k te tr) := fun pn xe H0 M0 W at_ => by
  obtain ⟨trs, h1, h2⟩ := hr pn xe H0 M0 W at_
  refine ⟨_, pps_cons (hk pn xe) (he pn xe H0 M0 W at_) h1, fun σ H Q ⟨τ, M, F, g0, sl, mu, h, k⟩ => ?_⟩
  refine upE_fin g0 sl mu h fun x H1 d M1 g1 mu1 r1 q1 => h2 σ H1 _ ⟨τ, M1, _, g0.trans g1, sl.good g1, mu1, q1, fun ps H2 ds M2 g2 mu2 r2 l2 q2 => ?_⟩
  exact k ((_, x) :: ps) H2 ((_, d) :: ds) M2 (g1.trans g2) mu2 (.cons (r1.good g2) r2) (by simp [l2]) q2
def putKD (kvs : List (Key × D)) (k : Key) (d : D) : List (Key × D) :=
  if (kvs.any fun kv => decide (kv.1 = k)) = true then kvs.map (fun kv => if kv.1 = k then (kv.1, d) else kv) else kvs ++ [(k, d)]
def mergeKD (kvs more : List (Key × D)) : List (Key × D) := more.foldl (fun acc kv => putKD acc kv.1 kv.2) kvs
theorem RepK.length {K : PySem.W.Frag} {H : Hp} {M : MH} : ∀ {vs : List (Key × V)} {ds : List (Key × D)}, RepK K H M vs ds → vs.length = ds.length
  | _, _, .nil => rfl
  | _, _, .cons _ t => by simp [RepK.length t]
theorem repK_any {K : PySem.W.Frag} {H : Hp} {M : MH} {k : Key} : ∀ {vs : List (Key × V)} {ds : List (Key × D)}, RepK K H M vs ds → (vs.any fun kv => decide (kv.1 = k)) = (ds.any fun kv => decide (kv.1 = k))
  | _, _, .nil => rfl
  | _, _, .cons r t => by rw [List.any_cons, List.any_cons, repK_any t]
theorem repK_app {K : PySem.W.Frag} {H : Hp} {M : MH} {es : List (Key × V)} {fs : List (Key × D)} (q : RepK K H M es fs) : ∀ {vs : List (Key × V)} {ds : List (Key × D)}, RepK K H M vs ds → RepK K H M (vs ++ es) (ds ++ fs)
  | _, _, .nil => q
  | _, _, .cons r t => .cons r (repK_app q t)
theorem repK_map {K : PySem.W.Frag} {H : Hp} {M : MH} {k : Key} {v : V} {d : D} (r : Rep K H M v d) : ∀ {vs : List (Key × V)} {ds : List (Key × D)}, RepK K H M vs ds → RepK K H M (vs.map (fun kv => if kv.1 = k then (kv.1, v) else kv)) (ds.map (fun kv => if kv.1 = k then (kv.1, d) else kv))
  | _, _, .nil => .nil
  | _, _, .cons (k := k') r' t => by
    rw [List.map_cons, List.map_cons]
    dsimp only
    split
    · exact .cons r (repK_map r t)
    · exact .cons r' (repK_map r t)
theorem repK_put {K : PySem.W.Frag} {H : Hp} {M : MH} {k : Key} {v : V} {d : D} (r : Rep K H M v d) {vs : List (Key × V)} {ds : List (Key × D)} (q : RepK K H M vs ds) : RepK K H M (putK vs k v) (putKD ds k d) := by
  unfold putK putKD
  rw [repK_any q]
  split
  · exact repK_map r q
  · exact repK_app (.cons r .nil) q
theorem repK_merge {K : PySem.W.Frag} {H : Hp} {M : MH} : ∀ {more : List (Key × V)} {md : List (Key × D)}, RepK K H M more md → ∀ {vs : List (Key × V)} {ds : List (Key × D)}, RepK K H M vs ds → RepK K H M (mergeK vs more) (mergeKD ds md)
  | _, _, .nil, _, _, q => q
  | _, _, .cons r t, vs, ds, q => by
    show RepK K H M (mergeK (putK vs _ _) _) (mergeKD (putKD ds _ _) _)
    exact repK_merge t (repK_put r q)
def tDictD (t : TPD) : TED := fun W τ M Q => ∀ p, M p = none → t W τ (mput M p (.dct [])) fun ds M1 => M1 p = some (.dct []) ∧ Q (.dct (mergeKD [] ds)) (mdel M1 p)
theorem pd_dict {keys : List (Option Expr)} {values : List Expr} {t : TPD} (h : PDP X pos keys values t) (hall : keys.all (·.isSome) = true := by rfl) (hl : keys.length = values.length := by rfl) (h0 : keys ≠ [] := by simp) (h15 : keys.length ≤ 15 := by decide) : PD X (.Dict keys values pos) (tDictD t) := fun pn xe H0 M0 W at_ => by
  obtain ⟨trs, h1, h2⟩ := h pn xe H0 M0 W at_
  refine imE (pe_disp h1 hall hl h0 h15) fun σ H Q ⟨τ, M, F, g0, sl, mu, hh, k⟩ p hp => h2 σ _ _ ?_
  refine ⟨τ, mput M p (.dct []), _, g0.trans (good_put hp), sl.good (good_put hp), mut_put mu hp (.dct .nil), hh p (mut_none mu hp), fun ps H2 ds M2 g2 mu2 r2 l2 ⟨q1, q2⟩ => ?_⟩
  obtain ⟨ho, e, rm⟩ := mu2 _ _ q1
  cases rm with
  | dct rk =>
    cases rk
    refine ⟨e, ps, rfl, by rw [r2.length, l2]; exact h15, ?_⟩
    have gw : Good H2 M2 (upd H2 p (.dK (mergeK [] ps))) (mdel M2 p) := fun a u he hm => by
      have n : a ≠ p := fun z => by rw [z, q1] at hm; cases hm
      exact ⟨by rw [upd_ne n]; exact he, by rw [mdel_ne n]; exact hm⟩
    have mw : Mut X.K (upd H2 p (.dK (mergeK [] ps))) (mdel M2 p) := fun a mo ea => by
      by_cases n : a = p
      · subst n; rw [mdel_same] at ea; cases ea
      · rw [mdel_ne n] at ea
        obtain ⟨ho, e1, r⟩ := mu2 a mo ea
        exact ⟨ho, by rw [upd_ne n]; exact e1, r.good gw⟩
    exact k _ _ _ _ (((good_put hp).trans g2).trans gw) mw (.dct mdel_same upd_same (repK_merge (r2.good gw) .nil)) q2

/-! ### comprehensions: targets of names alone; given to a name -/
def gTupT (n : Nat) (t : TGsD) : TGD := fun d τ M N => match d with | .tup xs => xs.length = n ∧ t xs τ M N | _ => False
theorem tgt_tupT {K : PySem.W.Frag} {vs : List Nat} {gs : TGs} {gds : TGsD} {n : Nat} (h1 : TgtsOk K gs gds vs) : TgtOk K (gTup K n gs) (gTupT n gds) vs := tgt_tup h1
theorem lc_sim {X : Cx} {iter : Expr} {pn : List (Addr × Obj)} {xe : Value → Shared → Prop} {H0 : Hp} {M0 : MH} {W : WD} {own : List (Str × Nat)} {ti : TAD} {g : TG} {gd : TGD} {tt : TTD} {te : TED} (hgd : TgtOk X.K g gd (own.map (·.2)))
    {σ : L2.St} {H : Hp} {Q : VK} (h : upE X.K H0 M0 W (tLcD ti gd tt te (own.map (·.2))) σ H Q) : tLc (upI X.K H0 M0 W ti) g (upT X.K H0 M0 noW tt) (upE X.K H0 M0 noW te) (own.map (·.2)) σ H Q := by
  obtain ⟨τ, M, F, g0, sl, mu, h, k⟩ := h
  exact ⟨τ, M, _, g0, sl, mu, h, fun J H1 xs M1 g1 mu1 it q => by
    intro p hp
    obtain ⟨Iv, i0, step, done⟩ := q p (mut_none mu1 hp)
    refine ⟨fun i m H2 => m = xs.length - i ∧ i ≤ xs.length ∧ ∃ M2, Good H1 M1 H2 M2 ∧ Mut X.K H2 M2 ∧ Iv i M2, ⟨_, rfl, Nat.zero_le _, mput M1 p (.lst []), good_put hp, mut_put mu1 hp (.lst .nil), i0⟩, ?_⟩
    rintro i m H2 ⟨rfl, hi, M2, g2, mu2, iv⟩
    obtain ⟨go, stop⟩ := it H2 M2 g2 mu2
    by_cases hlt : i < xs.length
    · obtain ⟨go1, yl⟩ := go i xs[i] (by simp [hlt])
      refine .inr ⟨go1, fun H4 => ∃ M4, Good H1 M1 H4 M4 ∧ Mut X.K H4 M4 ∧ Iv (i + 1) M4, fun H' w => ⟨xs.length - (i + 1), by omega, rfl, hlt, w⟩, fun x H3 y => ?_⟩
      obtain ⟨g3, mu3, rx⟩ := yl x H3 y
      have gg := g1.trans (g2.trans g3)
      refine hgd _ _ _ _ H3 M2 _ _ rx (slots_wipe (sl.good gg) _) (step i xs[i] M2 (by simp [hlt]) iv) fun σ4 τ4 sl4 w4 n => ⟨w4.trans (wipe_sub fun _ h => h), τ4, M2, _, g0.trans gg, sl4, mu3, n, fun b H5 M5 g5 mu5 nb => ?_⟩
      cases b with
      | false =>
        rw [if_neg Bool.false_ne_true]
        exact ⟨M5, (g2.trans g3).trans g5, mu5, nb.2 rfl⟩
      | true =>
        rw [if_pos rfl]
        refine ⟨τ4, M5, _, (g0.trans gg).trans g5, sl4.good g5, mu5, nb.1 rfl, fun v H6 d M6 g6 mu6 r6 n6 => ?_⟩
        split at n6
        · rename_i acc ea
          obtain ⟨ho, e, rm⟩ := mu6 _ _ ea
          cases rm with
          | lst rs => exact ⟨_, e, by rw [rs.length, sizeLine_eq]; exact n6.1, mput M6 p (.lst (acc ++ [d])), (((g2.trans g3).trans g5).trans g6).trans (good_write ea), mut_write mu6 ea (.lst (rs.append (.cons r6 .nil))), n6.2⟩
        · exact n6.elim
    · have e : i = xs.length := by omega
      subst e
      have dn := done M2 iv
      split at dn
      · rename_i acc ea
        obtain ⟨ho, e, rm⟩ := mu2 _ _ ea
        cases rm with
        | lst rs => exact .inl ⟨stop, k _ H2 _ _ ((g1.trans g2).trans good_del) (mut_del mu2) (.lst (.inl ⟨mdel_same, .inl e⟩) (rs.good good_del)) dn⟩
      · exact dn.elim⟩
theorem pds_setLc {i : Nat} {y : Str} {py spos : Pos} {elt tg iter : Expr} {ifs : List Expr} {scope : Scope} {own : List (Str × Nat)} {ti : TAD} {g : TG} {gd : TGD} {tt : TTD} {te : TED} (hN : X.N.Nodup) (hy : X.N[i]? = some y) (hyl : X.env.scope.names.lookup y = some .local) (hc : X.calm = true)
    (hsw : swapsWith (.ListComp elt [⟨tg, iter, ifs, 0⟩] scope pos) (some (.Name y py)) spos.line X.env = pure true) (hi : PDI X tg iter ti) (ok : BlkOk X.N X.env.scope scope own)
    (hg : ∀ (s : Shared) (H : Hp) (C : Addr) (cl : List (Str × Addr)) (fp : List Addr), PG (X.blk s H scope (compEnvC scope cl C X.env) fp) tg g) (hgd : TgtOk X.K g gd (own.map (·.2)))
    (ht : ∀ (s : Shared) (H : Hp) (C : Addr) (cl : List (Str × Addr)) (fp : List Addr), PDTs (X.blk s H scope (compEnvC scope cl C X.env) fp) ifs tt)
    (he : ∀ (s : Shared) (H : Hp) (C : Addr) (cl : List (Str × Addr)) (fp : List Addr), PD (X.blk s H scope (compEnvC scope cl C X.env) fp) elt te) (hs : ∀ x, foldedSetIterable iter X.env x = pure x := by intro _; rfl) :
    PDS X (.Assign [.Name y py] (.ListComp elt [⟨tg, iter, ifs, 0⟩] scope pos) spos) (tSetD i (tLcD ti gd tt te (own.map (·.2)))) := fun pn xe H0 M0 W at_ =>
  imS (ps_setLc (X := X.tr pn xe) (te := upE X.K H0 M0 noW te) (tt := upT X.K H0 M0 noW tt) (i := i) hc hN hy hyl hsw (hi pn xe H0 M0 W at_) ok hg (fun s H C cl fp => ht s H C cl fp H0 M0) (fun s H C cl fp => he s H C cl fp [] _ H0 M0 noW at_no) hs) fun D σ H ⟨τ, M, F, g0, sl, mu, h, k1, k2, k3, k4⟩ =>
    lc_sim (X := X) (iter := iter) (pn := pn) (xe := xe) hgd (upE_fin g0 sl mu h fun v H1 d M1 g1 mu1 r1 q => k1 _ H1 ⟨setN τ i (some d), M1, g1, by rw [setN_eq]; exact (sl.good g1).set r1, mu1, q⟩)
end
end Z

set_option Elab.async false
set_option linter.all false
set_option maxRecDepth 100000
set_option maxHeartbeats 4000000
namespace Z
open PySem L2

/-! ### one step of a reading -/
section
variable {W : WD} {τ : EnvD} {M M1 : MH} {Q : QD} {QT : Bool → MH → Prop} {QA : List D → MH → Prop} {N : EnvD → MH → Prop} {F : EndsD} {t u : TSD} {c c' : TTD} {te ta tb : TED} {tr : TAD} {i j : Int} {n : Nat} {d e : D} {b : Bool}
theorem w_seq (h : t W { F with nx := fun τ' M' => u W F τ' M' } τ M) : tSeqD t u W F τ M := h
theorem w_next (h : F.nx τ M) : tNextD W F τ M := h
theorem w_drop (h : te W τ M fun _ M1 => F.nx τ M1) : tDropD te W F τ M := h
theorem w_ret (h : te W τ M F.rt) : tRetD te W F τ M := h
theorem w_retN (h : F.rt .non M) : tRetN W F τ M := h
theorem w_if (h : c W τ M fun b M1 => (b = true → t W F τ M1) ∧ (b = false → u W F τ M1)) : tIfD c t u W F τ M := h
theorem w_set (h : te W τ M fun d M1 => F.nx (setN τ n (some d)) M1) : tSetD n te W F τ M := h
theorem w_cont (h : F.ct τ M) : tContD W F τ M := h
theorem w_brk (h : F.bk τ M) : tBrkD W F τ M := h
theorem w_var (h : getN τ n = some d) (q : Q d M) : tVarD n W τ M Q := by unfold tVarD; rw [h]; exact q
theorem w_c (q : Q d M) : tCD d W τ M Q := q
theorem w_op {r : R2D} (h : ta W τ M fun x M1 => tb W τ M1 fun y M2 => r x y M2 Q) : tOpD r ta tb W τ M Q := h
theorem w_un {r : D → MH → QD → Prop} (h : ta W τ M fun x M1 => r x M1 Q) : tUnD r ta W τ M Q := h
theorem w_nil (h : QA [] M) : tNilD W τ M QA := h
theorem w_cons (h : ta W τ M fun x M1 => tr W τ M1 fun xs M2 => QA (x :: xs) M2) : tConsD ta tr W τ M QA := h
theorem w_cb {r : RCD} (h : tr W τ M fun ds M1 => r ds M1 Q) : tCBD r tr W τ M Q := h
theorem w_tup (h : tr W τ M fun ds M1 => decide (ds.length ≤ 16777216) = true ∧ Q (.tup ds) M1) : tTupD tr W τ M Q := h
theorem w_lst (h : tr W τ M fun ds M1 => decide (ds.length ≤ 16777216) = true ∧ Q (.lst ds) M1) : tLstD tr W τ M Q := h
theorem w_lstM (h : tr W τ M fun ds M1 => decide (ds.length ≤ 16777216) = true ∧ ∀ p, M1 p = none → Q (.ref p) (mput M1 p (.lst ds))) : tLstM tr W τ M Q := h
theorem w_small {ds : List D} {P : Prop} (h1 : ds.length ≤ 16777216) (h : P) : decide (ds.length ≤ 16777216) = true ∧ P := ⟨decide_eq_true h1, h⟩
theorem w_testB (h : te W τ M fun d M1 => match d with | .bl b => QT b M1 | _ => False) : tTestB te W τ M QT := h
theorem w_andD (h : c W τ M fun b M1 => (b = true → c' W τ M1 QT) ∧ (b = false → QT false M1)) : tAndD c c' W τ M QT := h
theorem w_orD (h : c W τ M fun b M1 => (b = true → QT true M1) ∧ (b = false → c' W τ M1 QT)) : tOrD c c' W τ M QT := h
theorem w_notD (h : c W τ M fun b M1 => QT (!b) M1) : tNotD c W τ M QT := h
theorem w_andE (h : ta W τ M fun d M1 => match d with | .bl b => (b = true → tb W τ M1 Q) ∧ (b = false → Q (.bl false) M1) | _ => False) : tAndE ta tb W τ M Q := h
theorem w_orE (h : ta W τ M fun d M1 => match d with | .bl b => (b = true → Q (.bl true) M1) ∧ (b = false → tb W τ M1 Q) | _ => False) : tOrE ta tb W τ M Q := h
theorem w_notE (h : ta W τ M fun d M1 => match d with | .bl b => Q (.bl (!b)) M1 | _ => False) : tNotE ta W τ M Q := h
theorem w_ifE (h : c W τ M fun b M1 => (b = true → ta W τ M1 Q) ∧ (b = false → tb W τ M1 Q)) : tIfE c ta tb W τ M Q := h
theorem w_tru (h : te W τ M fun d M1 => match truthD d M1 with | some b => QT b M1 | none => False) : tTruD te W τ M QT := h
theorem w_truth (h1 : truthD d M = some b) (h : QT b M) : (match (generalizing := false) truthD d M with | some b => QT b M | none => False) := by rw [h1]; exact h
theorem w_call {sp : SpD} (h : tr W τ M fun ds M1 => sp ds M1 Q (fun C fs M' => W C fs τ M')) : tCallD sp tr W τ M Q := h
theorem w_callK {sp : SpD} {ix : List Nat} (h : tr W τ M fun ds M1 => sp (permL ix ds) M1 Q (fun C fs M' => W C fs τ M')) : tCallKD sp ix tr W τ M Q := h
theorem w_rdI {g : Int → Int → Int} (h : Q (.int (g i j)) M) : rdI g (.int i) (.int j) M Q := h
theorem w_rdIC {C : Int → Int → Prop} {g : Int → Int → Int} (hc : C i j) (h : Q (.int (g i j)) M) : rdIC C g (.int i) (.int j) M Q := ⟨hc, h⟩
theorem w_rdB {g : Int → Int → Bool} (h : Q (.bl (g i j)) M) : rdB g (.int i) (.int j) M Q := h
theorem w_rdAdd (h : Q (.int (i + j)) M) : rdAdd (.int i) (.int j) M Q := h
theorem w_rdMul (hc : MulOk i j) (h : Q (.int (i * j)) M) : rdMul (.int i) (.int j) M Q := ⟨hc, h⟩
theorem w_neg (h : Q (.int (-i)) M) : rdNeg (.int i) M Q := h
theorem w_isN (h : te W τ M fun d M1 => Q (.bl (isNonD d)) M1) : tIsND te W τ M Q := h
theorem w_notN (h : te W τ M fun d M1 => Q (.bl (!isNonD d)) M1) : tNotND te W τ M Q := h
theorem w_eq (h1 : eqD d e = some b) (h : Q (.bl b) M) : rdEq d e M Q := by unfold rdEq; rw [h1]; exact h
theorem w_ne (h1 : eqD d e = some b) (h : Q (.bl (!b)) M) : rdNe d e M Q := by unfold rdNe; rw [h1]; exact h
theorem w_ixR {a : Addr} {xs : List D} {x : D} (h1 : M a = some (.lst xs)) (h2 : atI xs i = some x) (h : Q x M) : rdIx (.ref a) (.int i) M Q := by unfold rdIx; simp only [h1, h2]; exact h
theorem w_ixL {xs : List D} {x : D} (h2 : atI xs i = some x) (h : Q x M) : rdIx (.lst xs) (.int i) M Q := by unfold rdIx; simp only [h2]; exact h
theorem w_ixT {xs : List D} {x : D} (h2 : atI xs i = some x) (h : Q x M) : rdIx (.tup xs) (.int i) M Q := by unfold rdIx; simp only [h2]; exact h
theorem w_lenL {xs : List D} (h : Q (.int xs.length) M) : rdLen [.lst xs] M Q := h
theorem w_lenT {xs : List D} (h : Q (.int xs.length) M) : rdLen [.tup xs] M Q := h
theorem w_abs (h : Q (.int (if i < 0 then -i else i)) M) : rdAbs [.int i] M Q := h
theorem w_int (h : Q (.int i) M) : rdInt [.int i] M Q := h
theorem w_intB (h : Q (.int (if b then 1 else 0)) M) : rdInt [.bl b] M Q := h
theorem w_gcd (h : Q (.int ((Nat.gcd i.natAbs j.natAbs : Nat) : Int)) M) : rdGcd [.int i, .int j] M Q := h
theorem w_asg {g : TGD} (h : te W τ M fun d M1 => g d τ M1 F.nx) : tAsgD te g W F τ M := h
theorem w_gname (h : N (setN τ n (some d)) M) : gNameD n d τ M N := h
theorem w_gtup {m : Nat} {g : TGsD} {xs : List D} (h1 : seqD d = some xs) (h2 : xs.length = m) (h : g xs τ M N) : gTupD m g d τ M N := by unfold gTupD; rw [h1]; exact ⟨h2, h⟩
theorem w_gtupT {m : Nat} {g : TGsD} {xs : List D} (h2 : xs.length = m) (h : g xs τ M N) : gTupT m g (.tup xs) τ M N := ⟨h2, h⟩
theorem w_gnil (h : N τ M) : gNilD [] τ M N := h
theorem w_gcons {g : TGD} {gs : TGsD} {ds : List D} (h : g d τ M fun τ' M' => gs ds τ' M' N) : gConsD g gs (d :: ds) τ M N := h
theorem w_setIx {to ti : TED} (h : te W τ M fun d M1 => to W τ M1 fun o M2 => ti W τ M2 fun i M3 => match o, i with
  | .ref a, .int k => (match M3 a with | some (.lst xs) => (match ixN xs.length k with | some j => F.nx τ (mput M3 a (.lst (xs.set j d))) | none => False) | _ => False)
  | _, _ => False) : tSetIx te to ti W F τ M := h
theorem w_setIx2 {a : Addr} {xs : List D} {m : Nat} (h1 : M a = some (.lst xs)) (h2 : ixN xs.length i = some m) (h : N τ (mput M a (.lst (xs.set m d)))) : (match (generalizing := false) M a with | some (.lst xs) => (match ixN xs.length i with | some j => N τ (mput M a (.lst (xs.set j d))) | none => False) | _ => False) := by
  simp only [h1, h2]; exact h
theorem w_is {f : D → Option Bool} (h : te W τ M fun d M1 => match f d with | some b => Q (.bl b) M1 | none => False) : tIs f te W τ M Q := h
theorem w_opt {α : Type} {o : Option α} {x : α} {P : α → Prop} (h1 : o = some x) (h : P x) : (match (generalizing := false) o with | some b => P b | none => False) := by rw [h1]; exact h
theorem w_tupOf (h : te W τ M fun d M1 => match seqD d with | some xs => Q (.tup xs) M1 | none => False) : tTupOf te W τ M Q := h
theorem w_par {m k : Nat} (h : tr W τ M fun ds M1 => match ds with | [d, e] => F.nx (setN (setN τ m (some d)) k (some e)) M1 | _ => False) : tParD m k tr W F τ M := h
theorem w_repr (h0 : te W τ M fun d M1 => match toPy d with | some p => okRepr p ∧ Q (.str p.shown) M1 | none => False) : tReprD te W τ M Q := h0
theorem w_sl {tl th : WD → EnvD → MH → (Option Int → MH → Prop) → Prop} (h : te W τ M fun d M1 => tl W τ M1 fun l M2 => th W τ M2 fun u M3 => match d with | .lst xs => Q (.lst (cutD xs l u)) M3 | _ => False) : tSlD te tl th W τ M Q := h
theorem w_part {QO : Option Int → MH → Prop} (h : te W τ M fun d M1 => match d with | .int i => QO (some i) M1 | _ => False) : tPartD te W τ M QO := h
theorem w_noPart {QO : Option Int → MH → Prop} (h : QO none M) : tNoPartD W τ M QO := h
theorem w_dec {p : Prop} [Decidable p] {A B : Prop} (h1 : p → A) (h2 : ¬ p → B) : (decide p = true → A) ∧ (decide p = false → B) := ⟨fun h => h1 (of_decide_eq_true h), fun h => h2 (of_decide_eq_false h)⟩
theorem w_ndec {p : Prop} [Decidable p] {A B : Prop} (h1 : ¬ p → A) (h2 : p → B) : ((!decide p) = true → A) ∧ ((!decide p) = false → B) :=
  ⟨fun h => h1 (by simpa using h), fun h => h2 (by simpa using h)⟩
theorem w_true {A B : Prop} (h : A) : (true = true → A) ∧ (true = false → B) := ⟨fun _ => h, fun h => nomatch h⟩
theorem w_false {A B : Prop} (h : B) : (false = true → A) ∧ (false = false → B) := ⟨fun h => (nomatch h), fun _ => h⟩
theorem w_bool {b : Bool} {A B : Prop} (h1 : b = true → A) (h2 : b = false → B) : (b = true → A) ∧ (b = false → B) := ⟨h1, h2⟩
theorem w_seqI (h : te W τ M fun d M1 => match seqD d with | some xs => QA xs M1 | none => False) : iSeqD te W τ M QA := h
theorem w_rng1 (h : -4611686018427387904 ≤ i ∧ i < 4611686018427387904) (q : QA (upFrom 0 i.toNat) M) : (match ([D.int i] : List D) with
  | [.int n] => (-4611686018427387904 ≤ n ∧ n < 4611686018427387904) ∧ QA (upFrom 0 n.toNat) M
  | [.int a, .int b] => ((-4611686018427387904 ≤ a ∧ a < 4611686018427387904) ∧ -4611686018427387904 ≤ b ∧ b < 4611686018427387904) ∧ QA (upFrom a (b - a).toNat) M
  | _ => False) := ⟨h, q⟩
end
section
variable {W : WD} {τ : EnvD} {M M1 : MH} {Q : QD} {te : TED} {tr : TPD} {QP : List (Key × D) → MH → Prop}
theorem w_nilP (h : QP [] M) : tNilP W τ M QP := h
theorem w_consP {k : Key} (h : te W τ M fun d M1 => tr W τ M1 fun ps M2 => QP ((k, d) :: ps) M2) : tConsP k te tr W τ M QP := h
theorem w_dict (h : ∀ p, M p = none → tr W τ (mput M p (.dct [])) fun ds M1 => M1 p = some (.dct []) ∧ Q (.dct (mergeKD [] ds)) (mdel M1 p)) : tDictD tr W τ M Q := h
theorem w_dictE {p : Addr} {ds : List (Key × D)} (hp : M p = none) (h : Q (.dct (mergeKD [] ds)) M) : mput M p (.dct []) p = some (.dct []) ∧ Q (.dct (mergeKD [] ds)) (mdel (mput M p (.dct [])) p) := ⟨mput_same, by rw [mdel_mput hp]; exact h⟩
theorem w_rng {ta : TAD} {QA : List D → MH → Prop} (h : ta W τ M fun ds M1 => match ds with
  | [.int n] => (-4611686018427387904 ≤ n ∧ n < 4611686018427387904) ∧ QA (upFrom 0 n.toNat) M1
  | [.int a, .int b] => ((-4611686018427387904 ≤ a ∧ a < 4611686018427387904) ∧ -4611686018427387904 ≤ b ∧ b < 4611686018427387904) ∧ QA (upFrom a (b - a).toNat) M1
  | _ => False) : iRngD ta W τ M QA := h
theorem w_for {ti : TAD} {g : TGD} {body : TSD} {F : EndsD} (h : ti W τ M fun xs M1 => ∃ Iv : Nat → EnvD → MH → Prop, Iv 0 τ M1 ∧ (∀ i x τ' M', xs[i]? = some x → Iv i τ' M' → g x τ' M' fun τ2 M2 => body W { F with nx := Iv (i + 1), ct := Iv (i + 1), bk := F.nx } τ2 M2) ∧ (∀ τ' M', Iv xs.length τ' M' → F.nx τ' M')) : tForD ti g body W F τ M := h
theorem w_lc {ti : TAD} {gd : TGD} {tt : TTD} {vs : List Nat} (h : ti W τ M fun xs M1 => tLcD (fun _ _ _ R => R xs M1) gd tt te vs W τ M1 Q) : tLcD ti gd tt te vs W τ M Q := h
end
theorem upFrom_len {lo : Int} {n : Nat} : (upFrom lo n).length = n := by simp [upFrom]
theorem upFrom_mem {lo : Int} {n : Nat} {d : D} (h : d ∈ upFrom lo n) : ∃ i : Nat, i < n ∧ d = .int (lo + i) := by
  obtain ⟨i, hi⟩ := List.getElem?_of_mem h
  exact ⟨i, upFrom_get hi⟩
/-- what is known of 0, 1, .. in lists -/
local macro_rules | `(tactic| walk_at "z at") => `(tactic| first | rfl | (simp only [atI, ixN, List.length_cons, List.length_nil, List.length_map]; rfl) | assumption)
local macro_rules | `(tactic| walk_at "z1") => `(tactic| first
  | with_reducible refine w_seq ?_ | with_reducible refine w_set ?_ | with_reducible refine w_ret ?_ | with_reducible refine w_if ?_ | with_reducible refine w_asg ?_ | with_reducible refine w_next ?_ | with_reducible refine w_setIx ?_ | with_reducible refine w_par ?_
  | ((with_reducible refine' w_var ?h ?_); (case h => exact rfl))
  | with_reducible refine w_c ?_ | with_reducible refine w_op ?_ | with_reducible refine w_un ?_ | with_reducible refine w_cons ?_ | with_reducible refine w_nil ?_ | with_reducible refine w_cb ?_
  | with_reducible refine w_call ?_ | with_reducible refine w_callK ?_ | with_reducible refine w_testB ?_ | with_reducible refine w_tru ?_ | with_reducible refine w_andD ?_ | with_reducible refine w_orD ?_ | with_reducible refine w_notD ?_
  | with_reducible refine w_andE ?_ | with_reducible refine w_orE ?_ | with_reducible refine w_notE ?_ | with_reducible refine w_ifE ?_ | with_reducible refine w_is ?_ | with_reducible refine w_isN ?_ | with_reducible refine w_notN ?_ | with_reducible refine w_tupOf ?_
  | with_reducible refine w_tup ?_ | with_reducible refine w_lst ?_ | with_reducible refine w_lstM ?_ | with_reducible refine w_sl ?_ | with_reducible refine w_part ?_ | with_reducible refine w_noPart ?_ | with_reducible refine w_repr ?_ | with_reducible refine w_seqI ?_
  | with_reducible refine w_rdI ?_ | with_reducible refine w_rdB ?_ | with_reducible refine w_rdAdd ?_ | with_reducible refine w_neg ?_ | with_reducible refine w_lenL ?_ | with_reducible refine w_lenT ?_ | with_reducible refine w_abs ?_ | with_reducible refine w_int ?_ | with_reducible refine w_intB ?_ | with_reducible refine w_gcd ?_
  | with_reducible refine w_gname ?_ | with_reducible refine w_gnil ?_ | with_reducible refine w_gcons ?_
  | with_reducible refine w_true ?_ | with_reducible refine w_false ?_
  | dsimp only [truthD, seqD, isNonD, permL, List.filterMap] | with_reducible refine w_drop ?_ | with_reducible refine w_retN ?_ | with_reducible refine w_nilP ?_ | with_reducible refine w_consP ?_ | with_reducible refine w_rng ?_ | with_reducible refine w_cont ?_ | with_reducible refine w_brk ?_)
local macro_rules | `(tactic| walk_at "z") => `(tactic| repeat walk_at "z1")
end Z

set_option Elab.async false
set_option linter.all false
set_option maxRecDepth 100000
set_option maxHeartbeats 4000000
namespace Z
local macro_rules | `(tactic| walk_at "z at") => `(tactic| first | rfl | (simp only [atI, ixN, List.length_cons, List.length_nil, List.length_map]; rfl) | assumption)
local macro_rules | `(tactic| walk_at "z1") => `(tactic| first
  | with_reducible refine w_seq ?_ | with_reducible refine w_set ?_ | with_reducible refine w_ret ?_ | with_reducible refine w_if ?_ | with_reducible refine w_asg ?_ | with_reducible refine w_next ?_ | with_reducible refine w_setIx ?_ | with_reducible refine w_par ?_
  | ((with_reducible refine' w_var ?h ?_); (case h => exact rfl))
  | with_reducible refine w_c ?_ | with_reducible refine w_op ?_ | with_reducible refine w_un ?_ | with_reducible refine w_cons ?_ | with_reducible refine w_nil ?_ | with_reducible refine w_cb ?_
  | with_reducible refine w_call ?_ | with_reducible refine w_callK ?_ | with_reducible refine w_testB ?_ | with_reducible refine w_tru ?_ | with_reducible refine w_andD ?_ | with_reducible refine w_orD ?_ | with_reducible refine w_notD ?_
  | with_reducible refine w_andE ?_ | with_reducible refine w_orE ?_ | with_reducible refine w_notE ?_ | with_reducible refine w_ifE ?_ | with_reducible refine w_is ?_ | with_reducible refine w_isN ?_ | with_reducible refine w_notN ?_ | with_reducible refine w_tupOf ?_
  | with_reducible refine w_tup ?_ | with_reducible refine w_lst ?_ | with_reducible refine w_lstM ?_ | with_reducible refine w_sl ?_ | with_reducible refine w_part ?_ | with_reducible refine w_noPart ?_ | with_reducible refine w_repr ?_ | with_reducible refine w_seqI ?_
  | with_reducible refine w_rdI ?_ | with_reducible refine w_rdB ?_ | with_reducible refine w_rdAdd ?_ | with_reducible refine w_neg ?_ | with_reducible refine w_lenL ?_ | with_reducible refine w_lenT ?_ | with_reducible refine w_abs ?_ | with_reducible refine w_int ?_ | with_reducible refine w_intB ?_ | with_reducible refine w_gcd ?_
  | with_reducible refine w_gname ?_ | with_reducible refine w_gnil ?_ | with_reducible refine w_gcons ?_
  | with_reducible refine w_true ?_ | with_reducible refine w_false ?_
  | dsimp only [truthD, seqD, isNonD, permL, List.filterMap] | with_reducible refine w_drop ?_ | with_reducible refine w_retN ?_ | with_reducible refine w_nilP ?_ | with_reducible refine w_consP ?_ | with_reducible refine w_rng ?_ | with_reducible refine w_cont ?_ | with_reducible refine w_brk ?_)
local macro_rules | `(tactic| walk_at "z") => `(tactic| repeat walk_at "z1")
open PySem L2

/-! ### how a law draws: the cells, how many were begun, what is left of a great one -/
def nutL (cells : List Int) (turn left : Int) : List D := [.lst (cells.map D.int), .int turn, .int left]
def NutAt (M : MH) (a : Addr) (t : Int) : Prop := ∃ cells turn left, M a = some (.lst (nutL cells turn left)) ∧ 0 ≤ turn ∧ turn ≤ t ∧ 0 ≤ left ∧ cells.length ≤ 63
def Upd1 (M : MH) (a : Addr) (M' : MH) : Prop := ∀ b, b ≠ a → M' b = M b
theorem Upd1.refl {M : MH} {a : Addr} : Upd1 M a M := fun _ _ => rfl
theorem Upd1.trans {M M1 M2 : MH} {a : Addr} (h : Upd1 M a M1) (g : Upd1 M1 a M2) : Upd1 M a M2 := fun b n => (g b n).trans (h b n)
theorem Upd1.put {M : MH} {a : Addr} {o : MO} : Upd1 M a (mput M a o) := fun b n => mput_ne n
theorem NutAt.mono {M : MH} {a : Addr} {t t' : Int} (h : NutAt M a t) (l : t ≤ t') : NutAt M a t' := let ⟨c, u, f, e, h1, h2, h3⟩ := h; ⟨c, u, f, e, h1, by omega, h3⟩
/-- a def that draws c times at most -/
def spDraw (c : Int) (pre : List D → Prop) (post : List D → D → Prop) : SpD := fun ds M F _ => ∃ a t rest, ds = .ref a :: rest ∧ pre rest ∧ NutAt M a t ∧ t + c ≤ 8000000 ∧
  ∀ d M', NutAt M' a (t + c) → Upd1 M a M' → post rest d → F d M'
theorem draw_do {c : Int} {pre : List D → Prop} {post : List D → D → Prop} {a : Addr} {t : Int} {rest : List D} {M : MH} {F : QD} {E : ED} (hN : NutAt M a t) (ht : t + c ≤ 8000000) (hp : pre rest)
    (k : ∀ d M', NutAt M' a (t + c) → Upd1 M a M' → post rest d → F d M') : spDraw c pre post (.ref a :: rest) M F E := ⟨a, t, rest, rfl, hp, hN, ht, k⟩
def spSieve : SpD := spDraw 1 (fun r => ∃ m : Int, r = [.int m] ∧ 0 < m ∧ m.natAbs.log2 < 9000) (fun r d => ∃ m n : Int, r = [.int m] ∧ d = .int n ∧ 0 ≤ n ∧ n < m)
def spPick : SpD := spDraw 1 (fun r => ∃ xs : List D, r = [.lst xs] ∧ 0 < xs.length ∧ xs.length ≤ 1000) (fun r d => ∃ xs : List D, r = [.lst xs] ∧ d ∈ xs)
theorem sieve_do {m : Int} {a : Addr} {t : Int} {M : MH} {F : QD} {E : ED} (hN : NutAt M a t) (ht : t + 1 ≤ 8000000) (h0 : 0 < m) (hl : m.natAbs.log2 < 9000)
    (k : ∀ n M', 0 ≤ n → n < m → NutAt M' a (t + 1) → Upd1 M a M' → F (.int n) M') : spSieve [.ref a, .int m] M F E :=
  draw_do hN ht ⟨m, rfl, h0, hl⟩ fun d M' n' u' ⟨m', n, e, ed, h1, h2⟩ => by cases e; subst ed; exact k n M' h1 h2 n' u'
theorem pick_do {xs : List D} {a : Addr} {t : Int} {M : MH} {F : QD} {E : ED} (hN : NutAt M a t) (ht : t + 1 ≤ 8000000) (h0 : 0 < xs.length) (hl : xs.length ≤ 1000)
    (k : ∀ d M', d ∈ xs → NutAt M' a (t + 1) → Upd1 M a M' → F d M') : spPick [.ref a, .lst xs] M F E :=
  draw_do hN ht ⟨xs, rfl, h0, hl⟩ fun d M' n' u' ⟨xs', e, hd⟩ => by cases e; exact k d M' hd n' u'
def tSieveC (c1 c2 m1 c3 m2 m3 : Int) : TSD :=
  (tSeqD (tSetD 5 (tOpD (rdIC (fun _ j => 0 < j) fun i j => i % j) (tCBD rdInt (tConsD (tOpD (rdIC CPow fun i j => i ^ j.toNat) (tOpD rdAdd (tOpD rdAdd (tOpD (rdIC (fun _ j => 0 < j) fun i j => i % j) (tCBD rdInt (tConsD (tVarD 4) tNilD)) (tCD (.int m1))) (tOpD rdMul (tCD (.int c3)) (tVarD 3))) (tCD (.int c2))) (tCD (.int 5))) tNilD)) (tCD (.int m2))))
  (tSeqD (tSetD 5 (tOpD (rdIC (fun _ j => 0 < j) fun i j => i % j) (tCBD rdInt (tConsD (tOpD (rdIC CPow fun i j => i ^ j.toNat) (tOpD rdAdd (tOpD rdAdd (tOpD rdMul (tVarD 5) (tOpD rdAdd (tOpD rdMul (tCD (.int 2)) (tVarD 3)) (tCD (.int c2)))) (tOpD rdMul (tOpD rdMul (tCD (.int c1)) (tVarD 3)) (tVarD 3))) (tCD (.int c3))) (tCD (.int 3))) tNilD)) (tCD (.int m3))))
  (tRetD (tOpD (rdIC (fun _ j => 0 < j) fun i j => i % j) (tCBD rdInt (tConsD (tOpD (rdIC DivOk fun i j => i.fdiv j) (tVarD 5) (tCD (.int 64))) tNilD)) (tVarD 1)))))
def tSieveB (c1 c2 m1 c3 m2 m3 : Int) : TSD :=
  (tSeqD (tIfD (tAndD (tTestB (tOpD (rdB fun i j => decide (i < j)) (tVarD 3) (tCBD rdLen (tConsD (tOpD rdIx (tVarD 0) (tCD (.int 0))) tNilD)))) (tTestB (tOpD (rdB fun i j => decide (j ≤ i)) (tCBD rdAbs (tConsD (tVarD 4) tNilD)) (tOpD (rdIC CPow fun i j => i ^ j.toNat) (tCD (.int 10)) (tCD (.int 18))))))
    (tSeqD (tSetD 2 (tOpD rdAdd (tOpD rdMul (tCD (.int 2)) (tOpD (rdI fun i j => i - j) (tCBD rdAbs (tConsD (tCBD rdInt (tConsD (tVarD 4) tNilD)) tNilD)) (tOpD (rdIC CPow fun i j => i ^ j.toNat) (tCD (.int 10)) (tCD (.int 18))))) (tCBD rdInt (tConsD (tOpD (rdB fun i j => decide (i < j)) (tVarD 4) (tCD (.int 0))) tNilD))))
  (tSeqD (tSetIx (tOpD (rdIC DivOk fun i j => i.fdiv j) (tVarD 2) (tVarD 1)) (tVarD 0) (tCD (.int 2)))
  (tRetD (tOpD (rdIC (fun _ j => 0 < j) fun i j => i % j) (tCBD rdInt (tConsD (tVarD 2) tNilD)) (tVarD 1)))))
    tNextD)
  (tSieveC c1 c2 m1 c3 m2 m3))
def tSieve (c1 c2 m1 c3 m2 m3 : Int) : TSD := (tSeqD (tIfD (tTestB (tOpD (rdB fun i j => decide (j < i)) (tOpD rdIx (tVarD 0) (tCD (.int 2))) (tCD (.int 0))))
    (tSeqD (tSetD 2 (tCBD rdInt (tConsD (tOpD rdIx (tVarD 0) (tCD (.int 2))) tNilD)))
  (tSeqD (tSetIx (tOpD (rdIC DivOk fun i j => i.fdiv j) (tVarD 2) (tVarD 1)) (tVarD 0) (tCD (.int 2)))
  (tRetD (tOpD (rdIC (fun _ j => 0 < j) fun i j => i % j) (tCBD rdInt (tConsD (tVarD 2) tNilD)) (tVarD 1)))))
    tNextD)
  (tSeqD (tSetD 3 (tOpD rdIx (tVarD 0) (tCD (.int 1))))
  (tSeqD (tSetIx (tOpD rdAdd (tVarD 3) (tCD (.int 1))) (tVarD 0) (tCD (.int 1)))
  (tSeqD (tSetD 4 (tOpD rdAdd (tOpD rdMul (tCD (.int c1)) (tVarD 3)) (tCD (.int c2))))
  (tSeqD (tIfD (tTestB (tOpD rdNe (tOpD rdIx (tVarD 0) (tCD (.int 0))) (tLstD tNilD)))
    (tSetD 4 (tOpD rdIx (tOpD rdIx (tVarD 0) (tCD (.int 0))) (tOpD (rdIC (fun _ j => 0 < j) fun i j => i % j) (tCBD rdInt (tConsD (tVarD 3) tNilD)) (tCBD rdLen (tConsD (tOpD rdIx (tVarD 0) (tCD (.int 0))) tNilD)))))
    tNextD)
  (tSieveB c1 c2 m1 c3 m2 m3))))))
/-- the numbers that mix are of a size that the model takes -/
def mixOk (c1 c2 m1 c3 m2 m3 : Int) : Bool := decide (0 ≤ c1 ∧ c1 ≤ 130000 ∧ 0 ≤ c2 ∧ c2 ≤ 100000 ∧ 0 < m1 ∧ m1 ≤ 2147483647 ∧ 0 ≤ c3 ∧ c3 ≤ 130000 ∧ 0 < m2 ∧ m2 ≤ 2147483647 ∧ 0 < m3 ∧ m3 ≤ 2147483647)
theorem mul_bd {a b x y : Int} (h0 : 0 ≤ a) (h1 : a ≤ x) (h2 : 0 ≤ b) (h3 : b ≤ y) : 0 ≤ a * b ∧ a * b ≤ x * y :=
  ⟨Int.mul_nonneg h0 h2, Int.mul_le_mul h1 h3 h2 (by omega)⟩
theorem toPys_ints : ∀ cs : List Int, toPys (cs.map D.int) = some (cs.map PyData.int)
  | [] => rfl
  | c :: cs => by simp only [List.map_cons, toPys, toPy, toPys_ints cs]
theorem canLay_ints : ∀ cs : List Int, PyData.canLayAll0 (cs.map PyData.int) = true
  | [] => rfl
  | c :: cs => by simp only [List.map_cons, PyData.canLayAll0, PyData.canLay0, canLay_ints cs, Bool.and_true]
theorem depth_ints : ∀ cs : List Int, PyData.depthAll (cs.map PyData.int) = 0
  | [] => rfl
  | c :: cs => by simp only [List.map_cons, PyData.depthAll, PyData.depth, depth_ints cs, Nat.max_self]
theorem eq_ints_nil (cells : List Int) : eqD (.lst (cells.map D.int)) (.lst []) = some cells.isEmpty := by
  have s1 : SeqAt.shaped (.list (cells.map PyData.int)) = true := by
    unfold SeqAt.shaped
    simp only [PyData.canLay0, canLay_ints, PyData.depth, depth_ints]
    rfl
  have s2 : SeqAt.shaped (.list []) = true := by decide
  unfold eqD
  simp only [toPy, toPys_ints, toPys, Option.map, s1, s2, Bool.and_self, if_true]
  cases cells <;> simp [PyData.eqv, PyData.eqvAll]
theorem sieveC {c1 c2 m1 c3 m2 m3 : Int} (ok : mixOk c1 c2 m1 c3 m2 m3 = true) {W : WD} {a : Addr} {m turn cell : Int} {M : MH} {F : QD} {R : EnvD → MH → Prop} (hm : 0 < m) (h0 : 0 ≤ turn) (ht : turn ≤ 8000000)
    (k' : ∀ x : Int, F (.int (x % m)) M) :
    tSieveC c1 c2 m1 c3 m2 m3 W { nx := R, rt := F } [some (.ref a), some (.int m), none, some (.int turn), some (.int cell), none] M := by
  obtain ⟨o1, o2, o3, o4, o5, o6, o7, o8, o9, o10, o11, o12⟩ := of_decide_eq_true ok
  have b0 := Int.emod_nonneg cell (show m1 ≠ 0 by omega)
  have b1 := Int.emod_lt_of_pos cell o5
  have q1 := mul_bd o7 o8 h0 ht
  have q2 := mul_bd o1 o2 h0 ht
  have q3 := mul_bd q2.1 q2.2 h0 ht
  unfold tSieveC
  walk_at "z"
  refine w_rdIC o5 ?_
  walk_at "z"
  refine w_rdMul (mulOk_l ⟨by omega, by omega⟩) ?_
  walk_at "z"
  refine w_rdIC (by show CPow _ 5; unfold CPow; omega) ?_
  walk_at "z"
  refine w_rdIC o9 ?_
  generalize hx : (cell % m1 + c3 * turn + c2) ^ Int.toNat 5 = x
  have b2 := Int.emod_nonneg x (show m2 ≠ 0 by omega)
  have b3 := Int.emod_lt_of_pos x o9
  generalize x % m2 = y at b2 b3
  have q4 := mul_bd (x := 2147483647) (y := 16200000) b2 (by omega) (show 0 ≤ 2 * turn + c2 by omega) (by omega)
  walk_at "z"
  refine w_rdMul (mulOk_l ⟨by omega, by omega⟩) ?_
  walk_at "z"
  refine w_rdMul (mulOk_l ⟨by omega, by omega⟩) ?_
  walk_at "z"
  refine w_rdMul (mulOk_l ⟨by omega, by omega⟩) ?_
  walk_at "z"
  refine w_rdMul (mulOk_l ⟨by omega, by omega⟩) ?_
  walk_at "z"
  refine w_rdIC (by show CPow _ 3; unfold CPow; omega) ?_
  walk_at "z"
  refine w_rdIC o11 ?_
  walk_at "z"
  refine w_rdIC ⟨by decide, by decide⟩ ?_
  walk_at "z"
  refine w_rdIC hm ?_
  exact k' _
theorem sieveB {c1 c2 m1 c3 m2 m3 : Int} (ok : mixOk c1 c2 m1 c3 m2 m3 = true) {W : WD} {a : Addr} {m turn left cell : Int} {cells : List Int} {M : MH} {F : QD} {R : EnvD → MH → Prop} (hm : 0 < m) (hlog : m.natAbs.log2 < 9000) (h0 : 0 ≤ turn) (ht : turn ≤ 8000000) (hl : 0 ≤ left)
    (k' : ∀ x left' : Int, 0 ≤ left' → F (.int (x % m)) (mput M a (.lst (nutL cells (turn + 1) left')))) :
    tSieveB c1 c2 m1 c3 m2 m3 W { nx := R, rt := F } [some (.ref a), some (.int m), none, some (.int turn), some (.int cell), none] (mput M a (.lst (nutL cells (turn + 1) left))) := by
  have mdv : ∀ x, DivOk x m := fun x => ⟨by omega, hlog⟩
  have fd : ∀ x : Int, 0 ≤ x → 0 ≤ x.fdiv m := fun x hx => by rw [Int.fdiv_eq_ediv_of_nonneg _ (by omega)]; exact Int.ediv_nonneg hx (by omega)
  have e : (mput M a (.lst (nutL cells (turn + 1) left))) a = some (.lst (nutL cells (turn + 1) left)) := mput_same
  have p18 : (10 : Int) ^ (18 : Int).toNat = 1000000000000000000 := by decide
  unfold tSieveB
  walk_at "z"
  refine w_ixR e rfl ?_
  walk_at "z"
  refine w_dec (fun c => ?_) (fun c => ?_)
  · walk_at "z"
    refine w_rdIC (by show CPow 10 18; unfold CPow; omega) ?_
    walk_at "z"
    rw [p18]
    refine w_dec (fun c2 => ?_) (fun c2 => ?_)
    · walk_at "z"
      refine w_rdIC (by show CPow 10 18; unfold CPow; omega) ?_
      walk_at "z"
      rw [p18]
      refine w_rdMul (mulOk_l ⟨by omega, by omega⟩) ?_
      walk_at "z"
      refine w_rdIC (mdv _) ?_
      walk_at "z"
      refine w_setIx2 e rfl ?_
      walk_at "z"
      refine w_rdIC hm ?_
      show F _ (mput (mput M a _) a (.lst (nutL cells (turn + 1) _)))
      rw [mput_mput]
      refine k' _ _ (fd _ ?_)
      split <;> omega
    · walk_at "z"
      exact sieveC ok hm h0 ht fun x => k' x left hl
  · walk_at "z"
    exact sieveC ok hm h0 ht fun x => k' x left hl
theorem wp_sieve {c1 c2 m1 c3 m2 m3 : Int} {N : List Str} (hN6 : N.length = 6) (ok : mixOk c1 c2 m1 c3 m2 m3 = true) (W : WD) (ds : List D) (M : MH) (F : QD) (E : ED) (h : spSieve ds M F E) :
    tSieve c1 c2 m1 c3 m2 m3 W { nx := fun _ M => F .non M, rt := F } (startD N ds) M := by
  obtain ⟨a, t, rest, rfl, ⟨m, rfl, hm, hlog⟩, ⟨cells, turn, left, e, h0, ht, hl, hc⟩, htt, k⟩ := h
  have ok' := of_decide_eq_true ok
  obtain ⟨o1, o2, o3, o4, o5, o6, o7, o8, o9, o10, o11, o12⟩ := ok'
  have mdv : ∀ x, DivOk x m := fun x => ⟨by omega, hlog⟩
  have k' : ∀ x turn' left' : Int, turn ≤ turn' → turn' ≤ turn + 1 → 0 ≤ left' → F (.int (x % m)) (mput M a (.lst (nutL cells turn' left'))) := fun x turn' left' b1 b2 b3 =>
    k _ _ ⟨cells, turn', left', mput_same, by omega, by omega, b3, hc⟩ .put ⟨m, _, rfl, rfl, Int.emod_nonneg _ (by omega), Int.emod_lt_of_pos _ hm⟩
  have fd : ∀ x : Int, 0 ≤ x → 0 ≤ x.fdiv m := fun x hx => by rw [Int.fdiv_eq_ediv_of_nonneg _ (by omega)]; exact Int.ediv_nonneg hx (by omega)
  have e2 : (mput M a (.lst (nutL cells (turn + 1) left))) a = some (.lst (nutL cells (turn + 1) left)) := mput_same
  rw [show startD N [.ref a, .int m] = [some (.ref a), some (.int m), none, none, none, none] by unfold startD; rw [hN6]; rfl]
  unfold tSieve
  walk_at "z"
  refine w_ixR e rfl ?_
  walk_at "z"
  refine w_dec (fun c => ?_) (fun c => ?_)
  · walk_at "z"
    refine w_ixR e rfl ?_
    walk_at "z"
    refine w_rdIC (mdv _) ?_
    walk_at "z"
    refine w_setIx2 e rfl ?_
    walk_at "z"
    refine w_rdIC hm ?_
    exact k' left turn (left.fdiv m) (Int.le_refl _) (by omega) (fd _ (by omega))
  · walk_at "z"
    refine w_ixR e rfl ?_
    walk_at "z"
    refine w_setIx2 e rfl ?_
    walk_at "z"
    refine w_rdMul (mulOk_l ⟨by omega, by omega⟩) ?_
    walk_at "z"
    refine w_ixR e2 rfl ?_
    walk_at "z"
    refine w_small (Nat.zero_le _) ?_
    walk_at "z"
    refine w_ne (eq_ints_nil _) ?_
    refine w_bool (fun c2 => ?_) (fun c2 => ?_)
    · have hne : 0 < cells.length := by cases cells with | nil => simp at c2 | cons _ _ => simp
      walk_at "z"
      refine w_ixR e2 rfl ?_
      walk_at "z"
      refine w_ixR e2 rfl ?_
      walk_at "z"
      have hpos : (0 : Int) < ((cells.map D.int).length : Int) := by rw [List.length_map]; omega
      refine w_rdIC hpos ?_
      have h1 := Int.emod_nonneg turn (show ((cells.map D.int).length : Int) ≠ 0 by omega)
      have h2 := Int.emod_lt_of_pos turn hpos
      obtain ⟨j, hj⟩ : ∃ j : Nat, turn % ((cells.map D.int).length : Int) = (j : Int) := ⟨_, (Int.toNat_of_nonneg h1).symm⟩
      have hj' : j < cells.length := by rw [List.length_map] at hj h2; omega
      rw [hj]
      refine w_ixL (x := .int cells[j]) (atI_nat (by simp [hj'])) ?_
      exact sieveB ok hm hlog h0 (by omega) hl fun x left' hl' => k' x (turn + 1) left' (by omega) (Int.le_refl _) hl'
    · walk_at "z"
      exact sieveB ok hm hlog h0 (by omega) hl fun x left' hl' => k' x (turn + 1) left' (by omega) (Int.le_refl _) hl'
end Z

set_option Elab.async false
set_option linter.all false
set_option maxRecDepth 100000
set_option maxHeartbeats 4000000
namespace Z
local macro_rules | `(tactic| walk_at "z at") => `(tactic| first | rfl | (simp only [atI, ixN, List.length_cons, List.length_nil, List.length_map]; rfl) | assumption)
local macro_rules | `(tactic| walk_at "z1") => `(tactic| first
  | with_reducible refine w_seq ?_ | with_reducible refine w_set ?_ | with_reducible refine w_ret ?_ | with_reducible refine w_if ?_ | with_reducible refine w_asg ?_ | with_reducible refine w_next ?_ | with_reducible refine w_setIx ?_ | with_reducible refine w_par ?_
  | ((with_reducible refine' w_var ?h ?_); (case h => exact rfl))
  | with_reducible refine w_c ?_ | with_reducible refine w_op ?_ | with_reducible refine w_un ?_ | with_reducible refine w_cons ?_ | with_reducible refine w_nil ?_ | with_reducible refine w_cb ?_
  | with_reducible refine w_call ?_ | with_reducible refine w_callK ?_ | with_reducible refine w_testB ?_ | with_reducible refine w_tru ?_ | with_reducible refine w_andD ?_ | with_reducible refine w_orD ?_ | with_reducible refine w_notD ?_
  | with_reducible refine w_andE ?_ | with_reducible refine w_orE ?_ | with_reducible refine w_notE ?_ | with_reducible refine w_ifE ?_ | with_reducible refine w_is ?_ | with_reducible refine w_isN ?_ | with_reducible refine w_notN ?_ | with_reducible refine w_tupOf ?_
  | with_reducible refine w_tup ?_ | with_reducible refine w_lst ?_ | with_reducible refine w_lstM ?_ | with_reducible refine w_sl ?_ | with_reducible refine w_part ?_ | with_reducible refine w_noPart ?_ | with_reducible refine w_repr ?_ | with_reducible refine w_seqI ?_
  | with_reducible refine w_rdI ?_ | with_reducible refine w_rdB ?_ | with_reducible refine w_rdAdd ?_ | with_reducible refine w_neg ?_ | with_reducible refine w_lenL ?_ | with_reducible refine w_lenT ?_ | with_reducible refine w_abs ?_ | with_reducible refine w_int ?_ | with_reducible refine w_intB ?_ | with_reducible refine w_gcd ?_
  | with_reducible refine w_gname ?_ | with_reducible refine w_gnil ?_ | with_reducible refine w_gcons ?_
  | with_reducible refine w_true ?_ | with_reducible refine w_false ?_
  | dsimp only [truthD, seqD, isNonD, permL, List.filterMap] | with_reducible refine w_drop ?_ | with_reducible refine w_retN ?_ | with_reducible refine w_nilP ?_ | with_reducible refine w_consP ?_ | with_reducible refine w_rng ?_ | with_reducible refine w_cont ?_ | with_reducible refine w_brk ?_)
local macro_rules | `(tactic| walk_at "z") => `(tactic| repeat walk_at "z1")
open PySem L2

def tPick : TSD := (tRetD (tOpD rdIx (tVarD 1) (tCallD spSieve (tConsD (tVarD 0) (tConsD (tCBD rdLen (tConsD (tVarD 1) tNilD)) tNilD)))))
theorem log2_small {n : Nat} (h : n ≤ 1000000) : n.log2 < 9000 := by
  have : n.log2 ≤ n := Nat.log2_le_self n
  by_cases h0 : n = 0
  · subst h0; decide
  · have h2 : n.log2 < 20 := (Nat.log2_lt h0).mpr (Nat.lt_of_le_of_lt h (by decide))
    omega
theorem wp_pick {N : List Str} (hN2 : N.length = 2) (W : WD) (ds : List D) (M : MH) (F : QD) (E : ED) (h : spPick ds M F E) :
    tPick W { nx := fun _ M => F .non M, rt := F } (startD N ds) M := by
  obtain ⟨a, t, rest, rfl, ⟨xs, rfl, h0, hl⟩, hN, ht, k⟩ := h
  rw [show startD N [.ref a, .lst xs] = [some (.ref a), some (.lst xs)] by unfold startD; rw [hN2]; rfl]
  unfold tPick
  walk_at "z"
  refine sieve_do hN ht (by omega) (log2_small (by omega)) fun n M' n0 n1 N' U' => ?_
  obtain ⟨j, rfl⟩ : ∃ j : Nat, n = (j : Int) := ⟨_, (Int.toNat_of_nonneg n0).symm⟩
  have hj : j < xs.length := by omega
  refine w_ixL (x := xs[j]) (atI_nat (by simp [hj])) ?_
  exact k _ _ N' U' ⟨xs, rfl, List.getElem_mem hj⟩
/-- what draws, made of a script -/
def spGrit : SpD := fun ds M F _ => ∃ ns : List Int, ds = [.lst (ns.map D.int)] ∧ ns.length ≤ 63 ∧ ∀ p M', M p = none → NutAt M' p 0 → Upd1 M p M' → F (.ref p) M'
def tGrit (n : Int) : TSD := (tRetD (tLstM (tConsD (tLcD (iSeqD (tSlD (tVarD 0) tNoPartD (tPartD (tCD (.int n))))) (gNameD 1) tYesD (tCBD rdInt (tConsD (tVarD 1) tNilD)) [1]) (tConsD (tCD (.int 0)) (tConsD (tCD (.int 0)) tNilD)))))
theorem wp_grit {n : Int} {N : List Str} (hN2 : N.length = 2) (W : WD) (ds : List D) (M : MH) (F : QD) (E : ED) (h : spGrit ds M F E) :
    tGrit n W { nx := fun _ M => F .non M, rt := F } (startD N ds) M := by
  obtain ⟨ns, rfl, hl, k⟩ := h
  obtain ⟨cells, hc, hcl⟩ : ∃ cells : List Int, cutD (ns.map D.int) none (some n) = cells.map D.int ∧ cells.length ≤ 63 :=
    ⟨(ns.drop _).take _, by unfold cutD; rw [← List.map_drop, ← List.map_take], by rw [List.length_take, List.length_drop]; omega⟩
  rw [show startD N [.lst (ns.map D.int)] = [some (.lst (ns.map D.int)), none] by unfold startD; rw [hN2]; rfl]
  unfold tGrit
  walk_at "z"
  refine lc_pure (cells.map D.int) id (fun _ => true) (by rw [List.length_map]; omega) M ?_ ?_ ?_
  · intro x hx M2 R r
    obtain ⟨c, _, rfl⟩ := List.mem_map.mp hx
    walk_at "z"
    refine r _ (fun R2 h => h) fun _ R3 h => ?_
    walk_at "z"
    exact h
  · rw [List.map_id, List.filter_eq_self.mpr (fun _ _ => rfl)]
    walk_at "z"
    refine w_small (by show 3 ≤ 16777216; decide) fun p hp => ?_
    exact k p _ hp ⟨cells, 0, 0, mput_same, by omega, by omega, by omega, hcl⟩ .put
  · intro R r
    walk_at "z"
    rw [← hc] at r
    exact r
end Z

set_option Elab.async false
set_option linter.all false
set_option maxRecDepth 100000
set_option maxHeartbeats 4000000
namespace Z
local macro_rules | `(tactic| walk_at "z at") => `(tactic| first | rfl | (simp only [atI, ixN, List.length_cons, List.length_nil, List.length_map]; rfl) | assumption)
local macro_rules | `(tactic| walk_at "z1") => `(tactic| first
  | with_reducible refine w_seq ?_ | with_reducible refine w_set ?_ | with_reducible refine w_ret ?_ | with_reducible refine w_if ?_ | with_reducible refine w_asg ?_ | with_reducible refine w_next ?_ | with_reducible refine w_setIx ?_ | with_reducible refine w_par ?_
  | ((with_reducible refine' w_var ?h ?_); (case h => exact rfl))
  | with_reducible refine w_c ?_ | with_reducible refine w_op ?_ | with_reducible refine w_un ?_ | with_reducible refine w_cons ?_ | with_reducible refine w_nil ?_ | with_reducible refine w_cb ?_
  | with_reducible refine w_call ?_ | with_reducible refine w_callK ?_ | with_reducible refine w_testB ?_ | with_reducible refine w_tru ?_ | with_reducible refine w_andD ?_ | with_reducible refine w_orD ?_ | with_reducible refine w_notD ?_
  | with_reducible refine w_andE ?_ | with_reducible refine w_orE ?_ | with_reducible refine w_notE ?_ | with_reducible refine w_ifE ?_ | with_reducible refine w_is ?_ | with_reducible refine w_isN ?_ | with_reducible refine w_notN ?_ | with_reducible refine w_tupOf ?_
  | with_reducible refine w_tup ?_ | with_reducible refine w_lst ?_ | with_reducible refine w_lstM ?_ | with_reducible refine w_sl ?_ | with_reducible refine w_part ?_ | with_reducible refine w_noPart ?_ | with_reducible refine w_repr ?_ | with_reducible refine w_seqI ?_
  | with_reducible refine w_rdI ?_ | with_reducible refine w_rdB ?_ | with_reducible refine w_rdAdd ?_ | with_reducible refine w_neg ?_ | with_reducible refine w_lenL ?_ | with_reducible refine w_lenT ?_ | with_reducible refine w_abs ?_ | with_reducible refine w_int ?_ | with_reducible refine w_intB ?_ | with_reducible refine w_gcd ?_
  | with_reducible refine w_gname ?_ | with_reducible refine w_gnil ?_ | with_reducible refine w_gcons ?_
  | with_reducible refine w_true ?_ | with_reducible refine w_false ?_
  | dsimp only [truthD, seqD, isNonD, permL, List.filterMap] | with_reducible refine w_drop ?_ | with_reducible refine w_retN ?_ | with_reducible refine w_nilP ?_ | with_reducible refine w_consP ?_ | with_reducible refine w_rng ?_ | with_reducible refine w_cont ?_ | with_reducible refine w_brk ?_)
local macro_rules | `(tactic| walk_at "z") => `(tactic| repeat walk_at "z1")
open PySem L2

/-! ### data: no instances, no classes, no addresses, all the way in -/
mutual
def plainD : D → Bool
  | .non | .bl _ | .int _ | .str _ | .flt _ | .dct _ => true
  | .lst xs | .tup xs => plainDs xs
  | _ => false
def plainDs : List D → Bool
  | [] => true
  | x :: xs => plainD x && plainDs xs
end
theorem plainDs_iff : ∀ {xs : List D}, plainDs xs = true ↔ ∀ x ∈ xs, plainD x = true
  | [] => by simp [plainDs]
  | x :: xs => by simp [plainDs, plainDs_iff (xs := xs)]
theorem plain_at {xs : List D} {i : Int} {x : D} (h : plainDs xs = true) (e : atI xs i = some x) : plainD x = true := by
  unfold atI at e
  cases q : ixN xs.length i with
  | none => rw [q] at e; cases e
  | some j => rw [q] at e; exact plainDs_iff.mp h x (List.mem_of_getElem? e)
def isIntB : D → Bool | .int _ => true | _ => false
theorem tag_int {d : D} (h : plainD d = true) : isTag .int d = some (match d with | .int _ => true | .bl _ => true | _ => false) := by cases d <;> first | rfl | (simp [plainD] at h)
theorem tag_bool {d : D} (h : plainD d = true) : isTag .bool d = some (match d with | .bl _ => true | _ => false) := by cases d <;> first | rfl | (simp [plainD] at h)
theorem tag_str {d : D} (h : plainD d = true) : isTag .str d = some (match d with | .str _ => true | _ => false) := by cases d <;> first | rfl | (simp [plainD] at h)
theorem tag_lt {d : D} (h : plainD d = true) : isTag2 .list .tuple d = some (seqD d).isSome := by cases d <;> first | rfl | (simp [plainD] at h)
theorem seq_plain {d : D} {xs : List D} (h : plainD d = true) (e : seqD d = some xs) : plainDs xs = true := by
  cases d <;> simp [seqD] at e <;> subst e <;> simpa [plainD] using h
/-- a question about one value -/
def spF1 (g : D → Bool) : SpD := fun ds M F _ => ∃ d, ds = [d] ∧ plainD d = true ∧ F (.bl (g d)) M
theorem f1_do {g : D → Bool} {d : D} {M : MH} {F : QD} {E : ED} (h : plainD d = true) (k : F (.bl (g d)) M) : spF1 g [d] M F E := ⟨d, rfl, h, k⟩
/-- a list comprehension whose element draws -/
theorem lc_draw {ti : TAD} {te : TED} {v : Nat} {W : WD} {τ : EnvD} {M : MH} {Q : QD} (xs : List D) (M1 : MH) {a : Addr} {t c : Int} {P : D → Prop} (hN : NutAt M1 a t) (hc : 0 ≤ c) (hl : xs.length ≤ 16777216)
    (step : ∀ x ∈ xs, ∀ t' M2 (R : QD), NutAt M2 a t' → t ≤ t' → t' + c ≤ t + xs.length * c → (∀ d M3, NutAt M3 a (t' + c) → Upd1 M2 a M3 → P d → R d M3) → te noW (setN (wipeD τ [v]) v (some x)) M2 R)
    (hq : ∀ ds M3, NutAt M3 a (t + xs.length * c) → Upd1 M1 a M3 → ds.length = xs.length → (∀ d ∈ ds, P d) → Q (.lst ds) M3) (hi : ∀ R : List D → MH → Prop, R xs M1 → ti W τ M R) : tLcD ti (gNameD v) tYesD te [v] W τ M Q := by
  refine hi _ fun p hp => ⟨fun i M2 => ∃ acc, M2 p = some (.lst acc) ∧ NutAt M2 a (t + i * c) ∧ (∀ b, b ≠ a → b ≠ p → M2 b = M1 b) ∧ acc.length = i ∧ ∀ d ∈ acc, P d, ?_, ?_, ?_⟩
  · have n : a ≠ p := fun e => by obtain ⟨_, _, _, h, _⟩ := hN; rw [e, hp] at h; cases h
    refine ⟨[], mput_same, ?_, fun b _ h2 => mput_ne h2, rfl, fun d h => by cases h⟩
    obtain ⟨cs, u, f, h, r⟩ := hN
    exact ⟨cs, u, f, by rw [mput_ne n]; exact h, by simpa using r⟩
  · rintro i x M2 hx ⟨acc, h1, h2, h3, h4, h5⟩
    have n : a ≠ p := fun e => by obtain ⟨_, _, _, h, _⟩ := hN; rw [e, hp] at h; cases h
    have hi' : i < xs.length := (List.getElem?_eq_some_iff.mp hx).1
    have e1 : ((i : Int) + 1) * c ≤ xs.length * c := Int.mul_le_mul_of_nonneg_right (by omega) hc
    have e0 : 0 ≤ (i : Int) * c := Int.mul_nonneg (by omega) hc
    have e2 : ((i : Int) + 1) * c = i * c + c := by rw [Int.add_mul, Int.one_mul]
    refine w_gname ?_
    show (true = true → _) ∧ (true = false → _)
    refine w_true ?_
    refine step x (List.mem_of_getElem? hx) (t + i * c) M2 _ h2 (by omega) (by omega) fun d M3 n3 u3 pd => ?_
    rw [u3 p (Ne.symm n), h1]
    refine ⟨by omega, acc ++ [d], mput_same, ?_, fun b b1 b2 => by rw [mput_ne b2, u3 b b1]; exact h3 b b1 b2, by simp [h4], fun e he => ?_⟩
    · obtain ⟨cs, u, f, h, r1, r2, r3⟩ := n3
      refine ⟨cs, u, f, by rw [mput_ne n]; exact h, r1, ?_, r3⟩
      have e3 : ((i + 1 : Nat) : Int) * c = i * c + c := by rw [← e2]; rfl
      omega
    · rcases List.mem_append.mp he with he | he
      · exact h5 e he
      · rw [List.mem_singleton] at he; rw [he]; exact pd
  · rintro M2 ⟨acc, h1, h2, h3, h4, h5⟩
    have n : a ≠ p := fun e => by obtain ⟨_, _, _, h, _⟩ := hN; rw [e, hp] at h; cases h
    show match M2 p with | some (.lst acc) => _ | _ => False
    rw [h1]
    refine hq acc _ ?_ (fun b hb => ?_) h4 h5
    · obtain ⟨cs, u, f, h, r⟩ := h2
      exact ⟨cs, u, f, by rw [mdel_ne n]; exact h, r⟩
    · by_cases e : b = p
      · subst e; rw [mdel_same, hp]
      · rw [mdel_ne e]; exact h3 b hb e
end Z

set_option Elab.async false
set_option linter.all false
set_option maxRecDepth 100000
set_option maxHeartbeats 4000000
namespace Z
local macro_rules | `(tactic| walk_at "z at") => `(tactic| first | rfl | (simp only [atI, ixN, List.length_cons, List.length_nil, List.length_map]; rfl) | assumption)
local macro_rules | `(tactic| walk_at "z1") => `(tactic| first
  | with_reducible refine w_seq ?_ | with_reducible refine w_set ?_ | with_reducible refine w_ret ?_ | with_reducible refine w_if ?_ | with_reducible refine w_asg ?_ | with_reducible refine w_next ?_ | with_reducible refine w_setIx ?_ | with_reducible refine w_par ?_
  | ((with_reducible refine' w_var ?h ?_); (case h => exact rfl))
  | with_reducible refine w_c ?_ | with_reducible refine w_op ?_ | with_reducible refine w_un ?_ | with_reducible refine w_cons ?_ | with_reducible refine w_nil ?_ | with_reducible refine w_cb ?_
  | with_reducible refine w_call ?_ | with_reducible refine w_callK ?_ | with_reducible refine w_testB ?_ | with_reducible refine w_tru ?_ | with_reducible refine w_andD ?_ | with_reducible refine w_orD ?_ | with_reducible refine w_notD ?_
  | with_reducible refine w_andE ?_ | with_reducible refine w_orE ?_ | with_reducible refine w_notE ?_ | with_reducible refine w_ifE ?_ | with_reducible refine w_is ?_ | with_reducible refine w_isN ?_ | with_reducible refine w_notN ?_ | with_reducible refine w_tupOf ?_
  | with_reducible refine w_tup ?_ | with_reducible refine w_lst ?_ | with_reducible refine w_lstM ?_ | with_reducible refine w_sl ?_ | with_reducible refine w_part ?_ | with_reducible refine w_noPart ?_ | with_reducible refine w_repr ?_ | with_reducible refine w_seqI ?_
  | with_reducible refine w_rdI ?_ | with_reducible refine w_rdB ?_ | with_reducible refine w_rdAdd ?_ | with_reducible refine w_neg ?_ | with_reducible refine w_lenL ?_ | with_reducible refine w_lenT ?_ | with_reducible refine w_abs ?_ | with_reducible refine w_int ?_ | with_reducible refine w_intB ?_ | with_reducible refine w_gcd ?_
  | with_reducible refine w_gname ?_ | with_reducible refine w_gnil ?_ | with_reducible refine w_gcons ?_
  | with_reducible refine w_true ?_ | with_reducible refine w_false ?_
  | dsimp only [truthD, seqD, isNonD, permL, List.filterMap] | with_reducible refine w_drop ?_ | with_reducible refine w_retN ?_ | with_reducible refine w_nilP ?_ | with_reducible refine w_consP ?_ | with_reducible refine w_rng ?_ | with_reducible refine w_cont ?_ | with_reducible refine w_brk ?_)
local macro_rules | `(tactic| walk_at "z") => `(tactic| repeat walk_at "z1")
open PySem L2 PySem.Spec PyProof.Rows

/-! ### own exceptions: what the written part says of such a class -/
structure ExK (K : PySem.W.Frag) (C : Addr) : Prop where
  o : OexC K C
  ga : PySem.W.findIn K (.ref C) "__getattribute__" = some (some (.builtin "BaseException.__getattribute__"))
  gg : PySem.W.findIn K (.ref C) "__getattr__" = some none
  hd : PySem.W.hasDictIn K C = true
  ca : PySem.W.findIn K (.ref C) "__class__" = some (some (.builtin "object.__class__"))
  om : PySem.W.mroIn K C (.type "object") = some true
  ic : PySem.W.isClsIn K C = true
  sg : PySem.W.specialIn K (.builtin "object.__class__") "__get__" = some (some (.builtin "getset_descriptor.__get__"))
  tg : PySem.W.takesIn K (.builtin "object.__class__") = some true

/-! ### an exception that a clause has caught, and a name keeps: laid open in the heap -/
theorem exc_ext {P : Program} {w : World} {H : Hp} {h : Heap} {a C : Addr} {dx : Option Addr} {oe : Obj} {vs : Array Value} (e : h.get? a = some oe) (z : Zc (.ref C) dx oe) (hv : oe.data = .fields vs) : ObjOk P w H h a (.ext (ExcAt a C dx)) :=
  ⟨⟨oe, vs, e, z.1, z.2, hv⟩, ⟨oe, e⟩, fun _ _ ⟨o1, w1, q1, q2, q3, q4⟩ kk => ⟨o1, w1, kk _ q1, q2, q3, q4⟩⟩
theorem lay_exc {X : Cx} {pins : List (Addr × Obj)} {σ : L2.St} {H : Hp} {s : Shared} {a C : Addr} {dx : Option Addr} {oe : Obj} {vs : Array Value} (I : Inv X pins σ H s) (e : s.heap.get? a = some oe) (z : Zc (.ref C) dx oe) (hv : oe.data = .fields vs)
    (na : H a = none) (nL : a ≠ X.env.locals) (np : ∀ p ∈ X.pn ++ pins, p.1 ≠ a) (n0 : X.s_0.heap.get? a = none) : Inv X pins σ (upd H a (.ext (ExcAt a C dx))) s := by
  have un : ∀ {b : Addr} {u : HO}, H b = some u → b ≠ a := fun q w => by rw [w, na] at q; cases q
  have ub : ∀ {b : Addr} {ob : Obj}, X.s_0.heap.get? b = some ob → b ≠ a := fun q w => by rw [w, n0] at q; cases q
  refine { ok := I.ok, os := I.os, bare := I.bare, loc := I.loc, cell := I.cell, len := I.len, base := ?_, free := ?_, freeC := ?_, pin := ?_, hok := ?_ }
  · exact { keep := I.base.keep, slot := I.base.slot, there := I.base.there
            free := fun b ob q1 q2 q3 => (upd_ne (ub q1)).trans (I.base.free b ob q1 q2 q3)
            tups := fun b xs q => (upd_ne (un (I.base.tups b xs q))).trans (I.base.tups b xs q)
            frzs := fun b ob v q => (upd_ne (un (I.base.frzs b ob v q))).trans (I.base.frzs b ob v q)
            tbls := fun b ps q => let ⟨m, q'⟩ := I.base.tbls b ps q; ⟨m, (upd_ne (un q')).trans q'⟩ }
  · exact (upd_ne (Ne.symm nL)).trans I.free
  · intro x c q
    refine (upd_ne fun w => ?_).trans (I.freeC x c q)
    obtain ⟨v, hc⟩ := I.cell x c q
    obtain ⟨ob, q1, q2⟩ := hc
    rw [w, e] at q1
    cases q1
    rw [hv] at q2
    cases q2
  · intro p hp
    obtain ⟨q1, q2, q3⟩ := I.pin p hp
    exact ⟨q1, (upd_ne (np p hp)).trans q2, q3⟩
  · intro b ob q
    by_cases hb : b = a
    · subst hb
      rw [upd_same] at q
      cases q
      exact exc_ext e z hv
    · rw [upd_ne hb] at q
      exact (I.hok b ob q).stay (fun _ _ _ w => w) (fun c w => (upd_ne (un w)).trans w) fun c xs w => (upd_ne (un w)).trans w
end Z

set_option Elab.async false
set_option linter.all false
set_option maxRecDepth 100000
set_option maxHeartbeats 4000000
namespace Z
local macro_rules | `(tactic| walk_at "z at") => `(tactic| first | rfl | (simp only [atI, ixN, List.length_cons, List.length_nil, List.length_map]; rfl) | assumption)
local macro_rules | `(tactic| walk_at "z1") => `(tactic| first
  | with_reducible refine w_seq ?_ | with_reducible refine w_set ?_ | with_reducible refine w_ret ?_ | with_reducible refine w_if ?_ | with_reducible refine w_asg ?_ | with_reducible refine w_next ?_ | with_reducible refine w_setIx ?_ | with_reducible refine w_par ?_
  | ((with_reducible refine' w_var ?h ?_); (case h => exact rfl))
  | with_reducible refine w_c ?_ | with_reducible refine w_op ?_ | with_reducible refine w_un ?_ | with_reducible refine w_cons ?_ | with_reducible refine w_nil ?_ | with_reducible refine w_cb ?_
  | with_reducible refine w_call ?_ | with_reducible refine w_callK ?_ | with_reducible refine w_testB ?_ | with_reducible refine w_tru ?_ | with_reducible refine w_andD ?_ | with_reducible refine w_orD ?_ | with_reducible refine w_notD ?_
  | with_reducible refine w_andE ?_ | with_reducible refine w_orE ?_ | with_reducible refine w_notE ?_ | with_reducible refine w_ifE ?_ | with_reducible refine w_is ?_ | with_reducible refine w_isN ?_ | with_reducible refine w_notN ?_ | with_reducible refine w_tupOf ?_
  | with_reducible refine w_tup ?_ | with_reducible refine w_lst ?_ | with_reducible refine w_lstM ?_ | with_reducible refine w_sl ?_ | with_reducible refine w_part ?_ | with_reducible refine w_noPart ?_ | with_reducible refine w_repr ?_ | with_reducible refine w_seqI ?_
  | with_reducible refine w_rdI ?_ | with_reducible refine w_rdB ?_ | with_reducible refine w_rdAdd ?_ | with_reducible refine w_neg ?_ | with_reducible refine w_lenL ?_ | with_reducible refine w_lenT ?_ | with_reducible refine w_abs ?_ | with_reducible refine w_int ?_ | with_reducible refine w_intB ?_ | with_reducible refine w_gcd ?_
  | with_reducible refine w_gname ?_ | with_reducible refine w_gnil ?_ | with_reducible refine w_gcons ?_
  | with_reducible refine w_true ?_ | with_reducible refine w_false ?_
  | dsimp only [truthD, seqD, isNonD, permL, List.filterMap] | with_reducible refine w_drop ?_ | with_reducible refine w_retN ?_ | with_reducible refine w_nilP ?_ | with_reducible refine w_consP ?_ | with_reducible refine w_rng ?_ | with_reducible refine w_cont ?_ | with_reducible refine w_brk ?_)
local macro_rules | `(tactic| walk_at "z") => `(tactic| repeat walk_at "z1")
open PySem L2 PySem.Spec PyProof.Rows

/-- what a clause that keeps its exception wishes: slot i is its name's -/
def wKeep (K : PySem.W.Frag) (c : Value) (i : Nat) (ts : Addr → TS) (Wout : WX) (D : Ends) : WX := fun cls d σ H =>
  ∃ b, PySem.W.exmOne K cls c = some b ∧
    (b = true → ∀ a, H a = none → ∃ C, cls = .ref C ∧ ts a { nx := fun σ' H' => D.nx (σ'.set i none) (upd H' a (.ext (ExcAt a C d))), rt := fun _ _ => False } (σ.set i (some (.ref a))) H) ∧ (b = false → Wout cls d σ H)
section
variable {X : Cx} {x n : Str} {c : Value} {i : Nat} {body suite : List Stmt} {st0 : Stmt} {p1 p2 p3 : Pos} {tb : WX → TS} {ts : Addr → TS} {Wout : WX}
/-- what stands at a caught exception's address at the end of its suite -/
theorem keep_end {pins : List (Addr × Obj)} {σ σ6 : L2.St} {H6 : Hp} {s6 : Shared} {a C : Addr} {d : Option Addr} {oe : Obj} {vs : Array Value} {D : Ends} (ok : X.Ok) (hN : X.N.Nodup) (hi : X.N[i]? = some n) (hln : X.env.kindOf n = some .local) (z : Zc (.ref C) d oe) (hv : oe.data = .fields vs)
    (n0 : X.s_0.heap.get? a = none) (np : ∀ p ∈ X.pn ++ pins, p.1 ≠ a) (S : Inv (X.suite a ((a, oe) :: (X.pn ++ pins))) [] σ6 H6 s6) (q : D.nx (σ6.set i none) (upd H6 a (.ext (ExcAt a C d)))) {A : Around} {E : Value → Shared → Prop} :
    wpAny (model X.prog X.w) A (do bindName X.env n .none; unbindBehindTheSuite X.env n p3) (fun _ s7 => SP X pins D .next s7) E s6 := by
  have here := S.pin (a, oe) (by simp)
  exact gone_ok (lay_exc (S.unsuite ok) here.1 z hv here.2.1 here.2.2.1 np n0) hN hi hln fun s7 J7 => ⟨_, _, J7, q⟩
theorem ps_try_keep (hs : X.stack = X.env :: X.outer) (hf : X.env.frame = some X.env.locals) (hex : X.ex = []) (hN : X.N.Nodup) (hi : X.N[i]? = some n) (hln : X.env.kindOf n = some .local) (hc : Names X x c) (tk : Takes X Wout)
    (hb : ∀ (W : WX) (pn : List (Addr × Obj)) (xe : Value → Shared → Prop), Takes (X.tr pn xe) W → PassesOwn (model X.prog X.w) X.A X.env xe → PSs (X.tr pn xe) body (tb W))
    (hsu : ∀ (a : Addr) (oe : Obj) (pn : List (Addr × Obj)), PSs (X.suite a ((a, oe) :: pn)) (st0 :: suite) (ts a)) :
    PS X (.Try body [.ExceptHandler (some (.Name x p1)) (some n) (st0 :: suite) p3] [] [] p2) (fun D σ H => tb (wKeep X.K c i ts Wout D) D σ H) := by
  constructor
  intro pins s σ H D I h
  have ok := I.ok
  have stk : X.A.frames = some (X.env :: X.outer) := ok.frames.trans (congrArg some hs)
  refine wpAny_Try_except (wpAny_mono ((hb (wKeep X.K c i ts Wout D) (X.pn ++ pins) _ (fun u s' air => ?_) PassesOwn.looking).run [] s σ H D (I.toTry _) h) ?_ fun _ _ z => z)
  · revert air
    rintro ⟨a, B, sI, _, σ', H', cls, d, rfl, J', nb, up, sky, na, os, ag, b, hb1, hyes, hno⟩
    have J : Inv X pins σ' H' sI := J'.ofTry ok
    rw [show (X.tr (X.pn ++ pins) _).stack = X.env :: X.outer from hs] at sky
    refine (?_ : wpAny (model X.prog X.w) X.A (noteFrame (.ref a) X.env) _ _ _)
    refine Sky.land Zc.steady stk hf sky fun h3 fl3 up3 => ?_
    have up13 := up.trans up3
    have J3 : Inv X pins σ' H' { s' with heap := h3 } := J.landed nb fl3.1 up13 os ag
    obtain ⟨oe3, _, he3, hz3, hd3⟩ := fl3.there
    have nfr : a ∉ frs (X.env :: X.outer) := fun hm => by
      obtain ⟨_, _, e', hnf⟩ := fl3.2.2.1.mem hm
      cases he3.symm.trans e'
      exact hnf _ hd3
    have nL : a ≠ X.env.locals := fun z => nfr (List.mem_filterMap.mpr ⟨_, List.mem_cons_self, z ▸ hf⟩)
    have nF : a ∉ X.fs := fun hm => let ⟨e, m, q⟩ := List.mem_filterMap.mp hm; nfr (List.mem_filterMap.mpr ⟨e, List.mem_cons_of_mem _ m, q⟩)
    have nI : sI.heap.get? a = none := by
      cases q : sI.heap.get? a with
      | none => rfl
      | some ob =>
        have w := nb a ob q (by rw [show (X.tr (X.pn ++ pins) _).stack = X.env :: X.outer from hs]; exact nfr)
        rw [fl3.2.1] at w
        cases w
    have n0 : X.s_0.heap.get? a = none := by
      cases q : X.s_0.heap.get? a with
      | none => rfl
      | some ob =>
        obtain ⟨_, w⟩ := J.base.there a ob q (by rw [hex]; exact List.not_mem_nil)
        rw [nI] at w
        cases w
    have np : ∀ p ∈ X.pn ++ pins, p.1 ≠ a := fun p hp w => by
      have q := (J.pin p hp).1
      rw [w, nI] at q
      cases q
    have S3 := J3.suite he3 hd3 na nL nF
    refine wpAny_handleBy_cons (codeAny_handlers_test ?_) (fun q => nomatch q)
    have LM := PySem.W.exm_one (M := model X.prog X.w) J3.kIn (fun A Q E s k q => wpAny_typeOf_ref (k _ _ he3) (hz3.1.symm ▸ q)) hb1
    have test : ∀ {Q : Value → Shared → Prop} {E : Value → Shared → Prop}, Q c { s' with heap := h3 } → wpAny (model X.prog X.w) (X.A.mark (some (.ref a))) (eval (.Name x p1) X.env) Q E { s' with heap := h3 } := fun q =>
      let ⟨hg, hdb, w⟩ := hc
      w.elim (fun hm => ld_glob (X := X.suite a ((a, oe3) :: (X.pn ++ pins))) S3 hg hm q hdb) fun ⟨hm, hv, hnn⟩ => ld_blt (X := X.suite a ((a, oe3) :: (X.pn ++ pins))) S3 hg hm hv q hnn hdb
    refine test (LM.here ?_)
    cases b with
    | true =>
      obtain ⟨C, rfl, q⟩ := hyes rfl a na
      refine codeAny_handlers_suite_as (HandSPX.lands_againZ fl3 fun h4 fl4 up4 => ?_)
      obtain ⟨oe4, _, he4, hz4, hd4⟩ := fl4.there
      have S4 := (J.landed (s' := { s' with heap := h4 }) nb fl4.1 (up13.trans up4) os ag).suite he4 hd4 na nL nF
      refine store_ok (X := X.suite a ((a, oe4) :: (X.pn ++ pins))) (v := .ref a) S4 hN hi (.inl hln) rfl (fun s5 S5 => ?_) (.inr hln)
      refine wpAny_mono ((hsu a oe4 (X.pn ++ pins)).run [] s5 _ H' _ S5 q) (fun f s6 r => ?_) (fun _ _ z => z.elim)
      cases f with
      | next =>
        obtain ⟨σ6, H6, S6, q6⟩ := r
        exact keep_end (σ := σ6) ok hN hi hln hz4 hd4 n0 np S6 q6
      | brk => obtain ⟨_, _, _, w⟩ := r; exact w.elim
      | cont => obtain ⟨_, _, _, w⟩ := r; exact w.elim
      | ret u => obtain ⟨_, _, _, _, _, w⟩ := r; exact w.elim
    | false =>
      refine (?_ : wpAny _ X.A (handleBy (.ref a) X.env []) _ _ _)
      refine wpAny_handleBy_nil ?_
      obtain ⟨_, _, _, oe, vs, T, _, _, he, _, hd, h1, _⟩ := id fl3
      unfold PySem.passOn
      refine wpAny_bind (wpAny_field he hd h1 ?_)
      rw [if_neg (show ¬ (Value.ref T == Value.none) = true by simp)]
      have fin : wpAny (model X.prog X.w) X.A (setFlight (.ref a) X.env.frame) (fun _ s4 => wpAny (model X.prog X.w) X.A (throw (.ref a) : Sem Flow) (SP X pins D) X.xe s4) X.xe { s' with heap := h3 } :=
        hf ▸ HandSPX.setFlight_upZ fl3 fun h4 hh4 up4 => wpAny_throw (tk _ _ ⟨a, B, sI, pins, σ', H', cls, d, rfl, J, nb, up13.trans up4, .inr (.inr (hs ▸ hh4)), na, os, ag, hno rfl⟩)
      first
        | exact wpAny_bind fin
        | exact wpAny_bind (wpAny_pure (wpAny_bind fin))
  · intro f s1 r
    cases f with
    | next => obtain ⟨_, _, J, q⟩ := r; exact wpAny_execs_nil ⟨_, _, J.ofTry ok, q⟩
    | brk => obtain ⟨_, _, J, q⟩ := r; exact ⟨_, _, J.ofTry ok, q⟩
    | cont => obtain ⟨_, _, J, q⟩ := r; exact ⟨_, _, J.ofTry ok, q⟩
    | ret u => obtain ⟨_, _, _, J, rr, q⟩ := r; exact ⟨_, _, _, J.ofTry ok, rr, q⟩
end
end Z

set_option Elab.async false
set_option linter.all false
set_option maxRecDepth 100000
set_option maxHeartbeats 4000000
namespace Z
local macro_rules | `(tactic| walk_at "z at") => `(tactic| first | rfl | (simp only [atI, ixN, List.length_cons, List.length_nil, List.length_map]; rfl) | assumption)
local macro_rules | `(tactic| walk_at "z1") => `(tactic| first
  | with_reducible refine w_seq ?_ | with_reducible refine w_set ?_ | with_reducible refine w_ret ?_ | with_reducible refine w_if ?_ | with_reducible refine w_asg ?_ | with_reducible refine w_next ?_ | with_reducible refine w_setIx ?_ | with_reducible refine w_par ?_
  | ((with_reducible refine' w_var ?h ?_); (case h => exact rfl))
  | with_reducible refine w_c ?_ | with_reducible refine w_op ?_ | with_reducible refine w_un ?_ | with_reducible refine w_cons ?_ | with_reducible refine w_nil ?_ | with_reducible refine w_cb ?_
  | with_reducible refine w_call ?_ | with_reducible refine w_callK ?_ | with_reducible refine w_testB ?_ | with_reducible refine w_tru ?_ | with_reducible refine w_andD ?_ | with_reducible refine w_orD ?_ | with_reducible refine w_notD ?_
  | with_reducible refine w_andE ?_ | with_reducible refine w_orE ?_ | with_reducible refine w_notE ?_ | with_reducible refine w_ifE ?_ | with_reducible refine w_is ?_ | with_reducible refine w_isN ?_ | with_reducible refine w_notN ?_ | with_reducible refine w_tupOf ?_
  | with_reducible refine w_tup ?_ | with_reducible refine w_lst ?_ | with_reducible refine w_lstM ?_ | with_reducible refine w_sl ?_ | with_reducible refine w_part ?_ | with_reducible refine w_noPart ?_ | with_reducible refine w_repr ?_ | with_reducible refine w_seqI ?_
  | with_reducible refine w_rdI ?_ | with_reducible refine w_rdB ?_ | with_reducible refine w_rdAdd ?_ | with_reducible refine w_neg ?_ | with_reducible refine w_lenL ?_ | with_reducible refine w_lenT ?_ | with_reducible refine w_abs ?_ | with_reducible refine w_int ?_ | with_reducible refine w_intB ?_ | with_reducible refine w_gcd ?_
  | with_reducible refine w_gname ?_ | with_reducible refine w_gnil ?_ | with_reducible refine w_gcons ?_
  | with_reducible refine w_true ?_ | with_reducible refine w_false ?_
  | dsimp only [truthD, seqD, isNonD, permL, List.filterMap] | with_reducible refine w_drop ?_ | with_reducible refine w_retN ?_ | with_reducible refine w_nilP ?_ | with_reducible refine w_consP ?_ | with_reducible refine w_rng ?_ | with_reducible refine w_cont ?_ | with_reducible refine w_brk ?_)
local macro_rules | `(tactic| walk_at "z") => `(tactic| repeat walk_at "z1")
open PySem L2 PySem.Spec PyProof.Rows

section
variable {X : Cx} {x n : Str} {i j : Nat} {body : List Stmt} {e o : Expr} {es : List Expr} {te ta : TED} {ts : TAD} {pos p p1 p2 p3 p4 p5 p6 : Pos}
/-! ### try: .. except C as n: y = n -/
def tTryK (ex : Addr → Option Bool) (i j : Nat) (tb : TSD) : TSD := fun W F τ M => tb (fun C fs τ' M' => ∃ b, ex C = some b ∧ (b = true → i < τ'.length ∧ F.nx (setN (setN τ' j (some (.exn C fs))) i none) M') ∧ (b = false → W C fs τ' M')) F τ M
theorem exn_rep {K : PySem.W.Frag} {H : Hp} {M : MH} {a C : Addr} {d : Option Addr} {fs : List (Str × D)} (mu : Mut K H M) (na : H a = none) (ex : ExD K H M d fs) : Rep K (upd H a (.ext (ExcAt a C d))) M (.ref a) (.exn C fs) := by
  have ma := mut_none mu na
  rcases ex with ⟨dx, ws, rfl, m, e, r⟩ | ⟨rfl, rfl⟩
  · exact .exn ma m upd_same ((upd_ne (ne_of_none e na)).trans e) (r.good (good_new na))
  · exact .exn0 ma upd_same
theorem slots_keep {K : PySem.W.Frag} {H : Hp} {M : MH} {σ : L2.St} {τ : EnvD} {a C : Addr} {d : Option Addr} {fs : List (Str × D)} (sl : Slots K H M σ τ) (mu : Mut K H M) (na : H a = none) (ex : ExD K H M d fs) (hij : i ≠ j) :
    Slots K (upd H a (.ext (ExcAt a C d))) M (((σ.set i (some (.ref a))).set j (some (.ref a))).set i none) (setN (setN τ j (some (.exn C fs))) i none) := by
  have s1 := ((sl.good (good_new (o := .ext (ExcAt a C d)) na)).set (i := j) (exn_rep mu na ex)).unset (i := i)
  rw [setN_eq, setN_eq]
  have e : ((σ.set i (some (V.ref a))).set j (some (.ref a))).set i none = (σ.set j (some (.ref a))).set i none := by
    rw [List.set_comm _ _ hij, List.set_set]
  rw [e]
  exact s1
theorem pds_try_keep {c : Value} {ex : Addr → Option Bool} {tb : TSD} {y : Str} (hs : X.stack = X.env :: X.outer) (hf : X.env.frame = some X.env.locals) (hex : X.ex = []) (hN : X.N.Nodup) (hi : X.N[i]? = some n) (hln : X.env.kindOf n = some .local)
    (hj : X.N[j]? = some y) (hlj : X.env.scope.names.lookup y = some .local) (hij : i ≠ j) (hc : Names X x c) (he : ∀ C b, ex C = some b → PySem.W.exmOne X.K (.ref C) c = some b) (hb : PDB X body tb)
    (hnv : (n == ("__debug__" : Str)) = false) (hncd : (n == ("__classdict__" : Str)) = false) (hsw : swapsWith (.Name n p4) (some (.Name y p5)) p6.line X.env = pure false) :
    PDS X (.Try body [.ExceptHandler (some (.Name x p1)) (some n) [.Assign [.Name y p5] (.Name n p4) p6] p3] [] [] p2) (tTryK ex i j tb) := fun pn xe H0 M0 W at_ => by
  have R := ps_try_keep (X := X.tr pn xe) (x := x) (n := n) (c := c) (i := i) (body := body) (suite := []) (st0 := .Assign [.Name y p5] (.Name n p4) p6) (p1 := p1) (p2 := p2) (p3 := p3)
    (tb := fun Wx D σ H => ∃ Wd M1, (∀ cls d σ' H', liftW X.K H M1 Wd cls d σ' H' → Wx cls d σ' H') ∧ upS X.K H M1 Wd tb D σ H) (ts := fun a => tAsg (tVar i) (gName j)) (Wout := liftW X.K H0 M0 W) hs hf hex hN hi hln hc at_.tk
    (fun Wx pn' xe' tk po => ⟨fun pins s σ H D I ⟨Wd, M1, imp, q⟩ => (hb pn' xe' H M1 Wd ⟨Takes.imp tk imp, po⟩).run pins s σ H D I q⟩)
    (fun a oe pn' => pss_one (ps_set (X := (X.tr pn xe).suite a ((a, oe) :: pn')) hN hj (.inl hlj) (pe_var (i := i) hi (.inl hln) hnv hncd) hsw (.inr hlj)))
  refine imS R ?_
  rintro D σ H ⟨τ, M, F, g0, sl, mu, h, k1, k2, k3, k4⟩
  refine ⟨_, M, fun cls d σ' H' w => ?_, τ, M, F, .refl, sl, mu, h, k1, k2, k3, k4⟩
  obtain ⟨C, fs, τ', M', rfl, exd, g', sl', mu', b, hb1, hy, hn⟩ := w
  refine ⟨b, he C b hb1, fun bt a na => ⟨C, rfl, ?_⟩, fun bf => ⟨C, fs, τ', M', rfl, exd, g0.trans g', sl', mu', hn bf⟩⟩
  have il : i < σ'.length := by rw [sl'.1]; exact (hy bt).1
  refine ⟨.ref a, by rw [List.getElem?_set_self il], ?_⟩
  exact k1 _ _ ⟨_, M', g'.trans (good_new na), slots_keep sl' mu' na exd hij, mut_new mu' na, (hy bt).2⟩

/-! ### raise C(..), C with its own __init__ -/
/-- __init__(self, p): self.f = p; __init__(self, p, q): self.f = p, self.g = q -/
def spI1 (C : Addr) (f : Str) : Sp := fun vs H Q _ => ∃ a v, vs = [.ref a, v] ∧ H a = some (exo a C none) ∧ ∀ dx, H dx = none → dx ≠ a → Q .non (upd (upd H dx (exd dx [(f, v)])) a (exo a C (some dx)))
def spI2 (C : Addr) (f g : Str) : Sp := fun vs H Q _ => ∃ a v w, vs = [.ref a, v, w] ∧ H a = some (exo a C none) ∧
  ∀ dx, H dx = none → dx ≠ a → Q .non (upd (upd (upd H dx (exd dx [(f, v)])) a (exo a C (some dx))) dx (exd dx [(g, w), (f, v)]))
/-- what a class's own __init__ is -/
structure ExI (K : PySem.W.Frag) (C fI : Addr) : Prop where
  k : ExK K C
  iC : PySem.W.findIn K (.ref C) "__init__" = some (some (.ref fI))
  tI : PySem.W.typeIn K (.ref fI) = some (.type "function")
def tRaiseD (C : Addr) (fl : List D → List (Str × D)) (ta : TAD) : TSD := fun W F τ M => ta W τ M fun ds M1 => W C (fl ds) τ M1
def fl1 (f : Str) : List D → List (Str × D) | [d] => [(f, d)] | _ => []
def fl2 (f g : Str) : List D → List (Str × D) | [d, e] => [(g, e), (f, d)] | _ => []
theorem reps_fl1 {K : PySem.W.Frag} {H : Hp} {M : MH} {f : Str} {v : V} {d : D} (r : Rep K H M v d) : RepF K H M [(f, v)] [(f, d)] := .cons r .nil
/-- an exception's dict, behind its making -/
theorem made_good {H : Hp} {M : MH} {a d : Addr} {fs : List (Str × V)} {G : Hp} (na : H a = none) (nd : H d = none) (h : ∀ b, b ≠ a → b ≠ d → G b = H b) : Good H M (upd (del G a) d (.xd fs)) M := fun b u q m => by
  have b1 : b ≠ a := fun z => by rw [z, na] at q; cases q
  have b2 : b ≠ d := fun z => by rw [z, nd] at q; cases q
  exact ⟨by rw [upd_ne b2, del_ne b1, h b b1 b2]; exact q, m⟩
theorem made_mut {K : PySem.W.Frag} {H : Hp} {M : MH} {a d : Addr} {fs : List (Str × V)} {G : Hp} (mu : Mut K H M) (na : H a = none) (nd : H d = none) (h : ∀ b, b ≠ a → b ≠ d → G b = H b) : Mut K (upd (del G a) d (.xd fs)) M := fun b mo e => by
  obtain ⟨ho, q, r⟩ := mu b mo e
  have b1 : b ≠ a := fun z => by rw [z, na] at q; cases q
  have b2 : b ≠ d := fun z => by rw [z, nd] at q; cases q
  exact ⟨ho, by rw [upd_ne b2, del_ne b1, h b b1 b2]; exact q, r.good (made_good na nd h)⟩
variable {C fI : Addr} {k : Nat} {fd : FuncData} {f g : Str}
theorem pds_raise1 {a : Expr} {ps : List Str} (hc : X.calm = true) (T : ExI X.K C fI) (F1 : FnOk X.prog X.w X.K X.mg X.base CX0 k fI fd ps (spI1 C f)) (hr : Room (k + 1) X.A) (hb : Binds X.K fd ps []) (hm : X.mg x = some (.ref C)) (ha : PDN X [a] ts) (hg : Gl X x := by rfl)
    (hdb : (x == ("__debug__" : Str)) = false := by decide) (he : starEach (a :: []) X.env = (false, eval a X.env) :: starEach [] X.env := by rfl) (hpl : (backTo pos (starEach [] X.env)).any (·.1) = false := by rfl) :
    PDS X (.Raise (some (.Call (.Name x p) [a] [] pos)) none p2) (tRaiseD C (fl1 f) ts) := fun pn xe H0 M0 W at_ => by
  refine imS (ps_raise (X := X.tr pn xe) hc at_.tk (pmk_oex (X := X.tr pn xe) T.k.o T.iC T.tI F1 hr hb .nil pass0 hg hm (ha pn xe H0 M0 W at_) hdb he hpl)) ?_
  rintro D σ H ⟨τ, M, F, g0, sl, mu, h, k1, k2, k3, k4⟩
  refine ⟨τ, M, _, g0, sl, mu, h, fun vs H1 ds M1 g1 mu1 r l q => ?_⟩
  cases r with
  | nil => cases l
  | @cons v0 d0 vs0 ds0 r rs =>
    cases rs with
    | cons _ _ => simp at l
    | nil =>
      refine ⟨by show 1 ≤ 1000; decide, fun a na => ⟨a, _, rfl, upd_same, fun dx hdx ne => ⟨rfl, dx, _, upd_same, by rw [upd_ne ne, upd_same], ?_, ?_⟩⟩⟩
      · rw [upd_ne ne] at hdx; exact hdx
      · rw [upd_ne ne] at hdx
        have ho : ∀ b, b ≠ a → b ≠ dx → upd (upd (upd H1 a (exo a C none)) dx (exd dx [(f, v0)])) a (exo a C (some dx)) b = H1 b := fun b b1 b2 => by rw [upd_ne b1, upd_ne b2, upd_ne b1]
        have gg := made_good (M := M1) (fs := [(f, v0)]) na hdx ho
        exact ⟨C, _, τ, M1, rfl, .inl ⟨dx, _, rfl, mut_none mu1 hdx, upd_same, reps_fl1 (r.good gg)⟩, (g0.trans g1).trans gg, (sl.good g1).good gg, made_mut mu1 na hdx ho, q⟩
theorem pds_raise2 {a b : Expr} {ps : List Str} (hc : X.calm = true) (T : ExI X.K C fI) (F1 : FnOk X.prog X.w X.K X.mg X.base CX0 k fI fd ps (spI2 C f g)) (hr : Room (k + 1) X.A) (hb : Binds X.K fd ps []) (hm : X.mg x = some (.ref C)) (ha : PDN X [a, b] ts) (hg : Gl X x := by rfl)
    (hdb : (x == ("__debug__" : Str)) = false := by decide) (he : starEach (a :: [b]) X.env = (false, eval a X.env) :: starEach [b] X.env := by rfl) (hpl : (backTo pos (starEach [b] X.env)).any (·.1) = false := by rfl) :
    PDS X (.Raise (some (.Call (.Name x p) [a, b] [] pos)) none p2) (tRaiseD C (fl2 f g) ts) := fun pn xe H0 M0 W at_ => by
  refine imS (ps_raise (X := X.tr pn xe) hc at_.tk (pmk_oex (X := X.tr pn xe) T.k.o T.iC T.tI F1 hr hb .nil pass0 hg hm (ha pn xe H0 M0 W at_) hdb he hpl)) ?_
  rintro D σ H ⟨τ, M, F, g0, sl, mu, h, k1, k2, k3, k4⟩
  refine ⟨τ, M, _, g0, sl, mu, h, fun vs H1 ds M1 g1 mu1 r l q => ?_⟩
  cases r with
  | nil => cases l
  | @cons v0 d0 vs0 ds0 r rs =>
    cases rs with
    | nil => simp at l
    | @cons v1 d1 vs1 ds1 r' rs =>
      cases rs with
      | cons _ _ => simp at l
      | nil =>
        refine ⟨by show 2 ≤ 1000; decide, fun a na => ⟨a, _, _, rfl, upd_same, fun dx hdx ne => ⟨rfl, dx, _, by rw [upd_ne (Ne.symm ne), upd_same], upd_same, ?_, ?_⟩⟩⟩
        · rw [upd_ne ne] at hdx; exact hdx
        · rw [upd_ne ne] at hdx
          have ho : ∀ b, b ≠ a → b ≠ dx → upd (upd (upd (upd H1 a (exo a C none)) dx (exd dx [(f, v0)])) a (exo a C (some dx))) dx (exd dx [(g, v1), (f, v0)]) b = H1 b := fun b b1 b2 => by rw [upd_ne b2, upd_ne b1, upd_ne b2, upd_ne b1]
          have gg := made_good (M := M1) (fs := [(g, v1), (f, v0)]) na hdx ho
          exact ⟨C, _, τ, M1, rfl, .inl ⟨dx, _, rfl, mut_none mu1 hdx, upd_same, .cons (r'.good gg) (.cons (r.good gg) .nil)⟩, (g0.trans g1).trans gg, (sl.good g1).good gg, made_mut mu1 na hdx ho, q⟩
end
end Z

set_option Elab.async false
set_option linter.all false
set_option maxRecDepth 100000
set_option maxHeartbeats 4000000
namespace PySem
namespace ZKW
open PySem.W PySem.Calls PyProof.Rows PySem.HandSPX
section
variable {prog : Program} {w : World} {M : Model} {A : Around} {E : Value → Shared → Prop} {R : Result → Shared → Prop} {h : Heap} {g : Array GenState} {d : Drawn} {t : Nat} {os : OsState}
variable {nm q : Str} {C N : Addr} {bs bm bmB : List Value} {hdct : Bool} {sn : List Str} {sub : List Value} {ab : Bool} {col : Option Bool} {dd : Option Addr} {k0 k1 k2 k3 k5 : Option Value} {B newId initId : String} {ks : List (Str × Value)}
/-- an exception made by keywords alone: BaseException.__new__ takes them and keeps none -/
theorem check_new_kw (F : ExcBaseFacts B newId initId bmB) (hT : ∀ X : String, bm.contains (.type X) = bmB.contains (.type X)) {Q : Unit → Shared → Prop}
    (hC : h.get? C = some (excClassObj nm q C N bs bm hdct sn sub ab col dd k0 k1 k2 k3 k5 newId)) (hq : Q () ⟨h, g, d, t, os⟩) : wpAny M A (checkBuiltinCall newId ⟨[.ref C], ks⟩) Q E ⟨h, g, d, t, os⟩ := by
  have c1 : (Value.ref C :: bm).contains (.type B) = true := (List.contains_cons ..).trans (by rw [hT, F.hasB, Bool.or_true])
  have c2 := F.noStar
  simp only [checkBuiltinCall, F.newKind, F.newSplit, F.newRow]
  repeat (first | refine wpAny_loadPart_at hC ?_ | (refine wpAny_isSubtype_exc hC ?_; rw [c1]) | refine wpAny_staticBase_exc hC ?_ | refine wpAny_madeBy_exc hC ?_ | simp only [bne_self_eq_false, Bool.false_eq_true, if_false] | wp_step)
  exact hq
theorem new_kw (F : ExcBaseFacts B newId initId bmB) (hT : ∀ X : String, bm.contains (.type X) = bmB.contains (.type X)) (hC : h.get? C = some (excClassObj nm q C N bs bm hdct sn sub ab col dd k0 k1 k2 k3 k5 newId))
    (hq : R (.ok (.ret (.ref (h.objs.size + 1)))) ⟨(h.push (kdv_tup [])).push (excO C h.objs.size), g, d, t, os⟩) : codeAny (model prog w) A (.builtin newId ⟨[.ref C], ks⟩) R ⟨h, g, d, t, os⟩ := by
  have own : ∀ T : String, T ≠ "" → (Value.ref C :: bm).contains (.type T) = bmB.contains (.type T) := fun T _ => (List.contains_cons ..).trans (by rw [hT]; rfl)
  have c1 : (Value.ref C :: bm).contains (.type B) = true := (List.contains_cons ..).trans (by rw [hT, F.hasB, Bool.or_true])
  have c2 := (own "AttributeError" (by decide)).trans F.noAttr
  have c3 := (own "NameError" (by decide)).trans F.noName
  have c4 := F.ends
  refine codeAny_builtinAt F.entry ?_
  unfold Builtin.«BaseException.__new__»
  refine wpAt_bind ?_
  refine (?_ : wpAt _ _ _ (stack >>= _) _ _ _)
  refine wpAt_bind (wpAt_stack fun p below => wpAt_of_wpAny ?_)
  wp_walk
  refine wpAt_of_wpAny ?_
  rw [F.owner]
  repeat (first | with_reducible refine wpAny_madeHere_exc F.canon hC ?_ | with_reducible refine wpAny_loadPart_at hC ?_ | (with_reducible refine wpAny_isSubtype_exc hC ?_; first | rw [c1] | rw [c2] | rw [c3]) | wp_step)
  refine (?_ : R _ _)
  rw [Heap.size_push]
  exact hq
theorem call_kw (F : ExcBaseFacts B newId initId bmB) (hT : ∀ X : String, bm.contains (.type X) = bmB.contains (.type X)) {fI : Addr} (hC : h.get? C = some (excClassObj nm q C N bs bm hdct sn sub ab col dd k0 k1 k2 k3 k5 newId))
    (hi : W.Looks (model prog w) h (typeLookup (.ref C) "__init__") (some (.ref fI))) (hb : ∀ self, W.Looks (model prog w) h (bindSpecial (.ref fI) self) (.ref fI, [self]))
    (hq : codeAny (model prog w) (A.under (.builtin "type.__call__" ⟨[.ref C], ks⟩)) (.call (.ref fI) ⟨[.ref (h.objs.size + 1)], ks⟩) (W.InitBack (h.objs.size + 1) R) ⟨(h.push (kdv_tup [])).push (excO C h.objs.size), g, d, t, os⟩) :
    codeAny (model prog w) A (.call (.ref C) ⟨[], ks⟩) R ⟨h, g, d, t, os⟩ := by
  have f1 := tc_lookup
  have f2 := tc_bind (.ref C)
  have hTy : (⟨h, g, d, t, os⟩ : Shared).TypeIs (.ref C) "type" := ⟨_, hC, rfl⟩
  refine codeAny_of_tree (?_ : wpAny _ _ (callAny (.ref C) _) _ _ _)
  repeat (any_goals (first | assumption | with_reducible refine wpAny_loadPart_at hC ?_ | wp_step))
  refine ⟨rfl, codeAny_call_builtin_at (Code.quiet_builtin _ (by decide +kernel)) entry_typeCall (wpAny_check_type_call_sub hC ?_)⟩
  have inner : ∀ {A' : Around} {Q : Fin → Shared → Prop} {E : Value → Shared → Prop}, codeAny (model prog w) A' (.call (.ref fI) ⟨[.ref (h.objs.size + 1)], ks⟩)
      (fun r s' => match r with | .ok (.ret v) => v = .none ∧ Q (.done (.ret (.ref (h.objs.size + 1)))) s' | .ok _ => False | .error e => E e s') ⟨(h.push (kdv_tup [])).push (excO C h.objs.size), g, d, t, os⟩ →
      wpAny (model prog w) A' (Builtin.«type.__call__» ⟨[.ref C], ks⟩) Q E ⟨h, g, d, t, os⟩ := fun {A' Q E} z => by
    repeat (first | with_reducible refine wpAny_loadPart_at hC ?_ | with_reducible refine wpAny_madeBy_exc hC ?_ | wp_step)
    refine codeAny_call_builtin_code (Code.quiet_builtin _ F.quiet) (check_new_kw F hT hC (new_kw F hT hC (?_ : wpAny _ _ _ _ _ _)))
    have kk : ∀ b o, h.get? b = some o → ((h.push (kdv_tup [])).push (excO C h.objs.size)).get? b = some o := fun b o e => Heap.get?_push_of_some _ (Heap.get?_push_of_some _ e)
    have at1 : ((h.push (kdv_tup [])).push (excO C h.objs.size)).get? (h.objs.size + 1) = some (excO C h.objs.size) := by heap_get
    have cC : (Value.ref C :: bm).contains (.ref C) = true := by simp
    unfold isInstance
    repeat (first | with_reducible refine wpAny_loadPart_at at1 ?_ | (with_reducible refine wpAny_isSubtype_exc (kk _ _ hC) ?_; rw [cC]) | wp_step)
    refine (?_ : wpAny _ _ (typeLookup (.ref C) _) _ _ _)
    refine (hi.keeps kk).at (wpAny_holding (wpAny_bind (((hb (.ref (h.objs.size + 1))).keeps kk).at ?_)))
    refine wpAny_bind (wpAny_call (codeAny_mono z fun r s' y => ?_))
    rcases r with e | (v | _ | _ | _) <;> first | exact y | exact y.elim | skip
    obtain ⟨rfl, y⟩ := y
    first | exact wpAny_pure (wpAny_pure y) | (wp_walk; exact y)
  refine inner (codeAny_mono hq fun r s' z => ?_)
  rcases r with e | (v | _ | _ | _) <;> exact z
end
end ZKW
end PySem

namespace Z
local macro_rules | `(tactic| walk_at "z at") => `(tactic| first | rfl | (simp only [atI, ixN, List.length_cons, List.length_nil, List.length_map]; rfl) | assumption)
local macro_rules | `(tactic| walk_at "z1") => `(tactic| first
  | with_reducible refine w_seq ?_ | with_reducible refine w_set ?_ | with_reducible refine w_ret ?_ | with_reducible refine w_if ?_ | with_reducible refine w_asg ?_ | with_reducible refine w_next ?_ | with_reducible refine w_setIx ?_ | with_reducible refine w_par ?_
  | ((with_reducible refine' w_var ?h ?_); (case h => exact rfl))
  | with_reducible refine w_c ?_ | with_reducible refine w_op ?_ | with_reducible refine w_un ?_ | with_reducible refine w_cons ?_ | with_reducible refine w_nil ?_ | with_reducible refine w_cb ?_
  | with_reducible refine w_call ?_ | with_reducible refine w_callK ?_ | with_reducible refine w_testB ?_ | with_reducible refine w_tru ?_ | with_reducible refine w_andD ?_ | with_reducible refine w_orD ?_ | with_reducible refine w_notD ?_
  | with_reducible refine w_andE ?_ | with_reducible refine w_orE ?_ | with_reducible refine w_notE ?_ | with_reducible refine w_ifE ?_ | with_reducible refine w_is ?_ | with_reducible refine w_isN ?_ | with_reducible refine w_notN ?_ | with_reducible refine w_tupOf ?_
  | with_reducible refine w_tup ?_ | with_reducible refine w_lst ?_ | with_reducible refine w_lstM ?_ | with_reducible refine w_sl ?_ | with_reducible refine w_part ?_ | with_reducible refine w_noPart ?_ | with_reducible refine w_repr ?_ | with_reducible refine w_seqI ?_
  | with_reducible refine w_rdI ?_ | with_reducible refine w_rdB ?_ | with_reducible refine w_rdAdd ?_ | with_reducible refine w_neg ?_ | with_reducible refine w_lenL ?_ | with_reducible refine w_lenT ?_ | with_reducible refine w_abs ?_ | with_reducible refine w_int ?_ | with_reducible refine w_intB ?_ | with_reducible refine w_gcd ?_
  | with_reducible refine w_gname ?_ | with_reducible refine w_gnil ?_ | with_reducible refine w_gcons ?_
  | with_reducible refine w_true ?_ | with_reducible refine w_false ?_
  | dsimp only [truthD, seqD, isNonD, permL, List.filterMap] | with_reducible refine w_drop ?_ | with_reducible refine w_retN ?_ | with_reducible refine w_nilP ?_ | with_reducible refine w_consP ?_ | with_reducible refine w_rng ?_ | with_reducible refine w_cont ?_ | with_reducible refine w_brk ?_)
local macro_rules | `(tactic| walk_at "z") => `(tactic| repeat walk_at "z1")
open PySem L2 PySem.Spec PyProof.Rows

/-- how a call by keywords alone binds behind self -/
def KwS (K : PySem.W.Frag) (fd : FuncData) (ps ks : List Str) (ix : List Nat) : Prop := ∀ (self : Value) (ws : List Value), ws.length = ks.length → bindArgs fd ⟨[self], ks.zip ws⟩ = pure (ps.zip (self :: permL ix ws))
theorem kwS {K : PySem.W.Frag} {x qual : Str} {st : Stmt} {f : Addr} {fd : FuncData} {ps ks : List Str} {ix : List Nat} (F : Fun K x qual st f fd)
    (h : ∀ (kV doc pm : Value) (an : Option Addr) (cdv ct : Value) (self : Value) (us : List Value), us.length = ks.length → bindArgs (PySem.W.fnOf x qual (defArgs st) (defBody st) (defScope st) .none kV doc pm an cdv ct) ⟨[self], ks.zip us⟩ = pure (ps.zip (self :: permL ix us))) : KwS K fd ps ks ix := by
  obtain ⟨oc, od, kV, doc, pm, an, cdv, ct, osl, rfl, lk, hcd⟩ := F.ex
  exact h kV doc pm an cdv ct
def tMkK (C : Addr) (sp : Sp) (ix : List Nat) (n : Nat) (ta : TA) : L2.St → Hp → XK → Prop := fun σ H Q => ta σ H fun vs H1 => vs.length = n ∧ ∀ a, H1 a = none → sp (.ref a :: permL ix vs) (upd H1 a (exo a C none))
  (fun v H2 => v = .non ∧ ∃ (d : Addr) (fs : List (Str × V)), H2 a = some (exo a C (some d)) ∧ H2 d = some (exd d fs) ∧ H1 d = none ∧ Q (.ref C) (some d) (upd (del H2 a) d (.xd fs))) (fun _ _ _ => False)
section
variable {X : Cx} {x n : Str} {i j : Nat} {body : List Stmt} {e o a b : Expr} {es : List Expr} {te ta : TED} {ts : TAD} {pos p p1 p2 p3 : Pos} {C fI : Addr} {k : Nat} {fd : FuncData} {f g : Str} {ps ks : List Str} {ix : List Nat} {kws : List Keyword}
theorem pmk_kw {sp : Sp} {tv : TA} (T : ExI X.K C fI) (F1 : FnOk X.prog X.w X.K X.mg X.base CX0 k fI fd ps sp) (hr : Room (k + 1) X.A) (hb : KwS X.K fd ps ks ix) (hm : X.mg x = some (.ref C)) (hk : PK X kws tv) (hg : Gl X x)
    (hdb : (x == ("__debug__" : Str)) = false) (hall : (backToKw pos (keywordEach kws X.env)).all (·.1.isSome) = true) (hks : (backToKw pos (keywordEach kws X.env)).filterMap (·.1) = ks)
    (hpl : ((backTo pos (starEach [] X.env)).any (·.1) || (backToKw pos (keywordEach kws X.env)).any (·.1.isNone)) = false) : PMk X (.Call (.Name x p) [] kws pos) (tMkK C sp ix ks.length tv) := by
  intro pins s σ H Q I h
  obtain ⟨nm, q, N, bs, bm, sn, sub, ab, col, dd, k0, k1, k2, k3, k5, hC, hbm⟩ := T.k.o.cls
  refine wpAny_Call_Name_kw (ld_glob I hg hm ?_ hdb)
  refine PySem.W.callWith_KW0 (h₀ := X.base) I.ok.mod.kin T.k.o.kC hall (thn (hk.run pos pins s σ H _ I h) fun us s1 ⟨vs, H1, I1, r1, hz, q1⟩ => ⟨I1.kIn, ?_⟩) hpl
  rw [hks]
  obtain ⟨hp, gg, dr, tk, os⟩ := s1
  have up1 : hp.objs.size ≤ hp.objs.size + 1 := Nat.le_succ _
  have na : H1 (hp.objs.size + 1) = none := I1.hok.fresh up1
  have kk : ∀ b o, hp.get? b = some o → ((hp.push (PySem.W.kdv_tup [])).push (PySem.HandSPX.excO C hp.objs.size)).get? b = some o := fun b o e => Heap.get?_push_of_some _ (Heap.get?_push_of_some _ e)
  have at1 : ((hp.push (PySem.W.kdv_tup [])).push (PySem.HandSPX.excO C hp.objs.size)).get? (hp.objs.size + 1) = some (PySem.HandSPX.excO C hp.objs.size) := by heap_get
  have I2 : Inv X pins σ (upd H1 (hp.objs.size + 1) (exo (hp.objs.size + 1) C none)) ⟨(hp.push (PySem.W.kdv_tup [])).push (PySem.HandSPX.excO C hp.objs.size), gg, dr, tk, os⟩ :=
    I1.laid (t' := tk) (o := exo (hp.objs.size + 1) C none) (h' := (hp.push (PySem.W.kdv_tup [])).push (PySem.HandSPX.excO C hp.objs.size)) kk up1 (exo_ok at1)
  have hl : us.length = ks.length := r1.length.symm.trans hz
  have r2 : Vals (V.ref (hp.objs.size + 1) :: permL ix vs) (Value.ref (hp.objs.size + 1) :: permL ix us) := .cons rfl (vals_perm r1 ix)
  refine wpAny_call (PySem.ZKW.call_kw F.excBase_ValueError (fun Y => PySem.HandSPX.refsVE_contains Y bm hbm) (I1.kIn _ _ hC) (PySem.W.looks_findIn I1.kIn T.iC) (fun self => PySem.W.bind_fn I1.kIn self T.tI)
    (codeAny_mono (F1.run _ X.stack _ _ ⟨[Value.ref (hp.objs.size + 1)], ks.zip us⟩ (Value.ref (hp.objs.size + 1) :: permL ix us) _ _ (fun _ _ _ => False) (hr.make C [] (ks.zip us)) (I2.env0.make C [] (ks.zip us)) (BindsTo.of_eq (hb _ us hl)) r2 (q1 _ na)) fun r s' hq => ?_))
  cases r with
  | error er => obtain ⟨_, _, _, _, _, _, _, _, _, _, _, _, z⟩ : False := hq
  | ok fl =>
    cases fl with
    | ret u =>
      obtain ⟨v, H2, os2, bare2, un2, hok2, rv, ev, d, fs, ea, ed, hd1, q2⟩ := hq
      subst ev
      obtain ⟨h2, g2, d2, t2, os'⟩ := s'
      exact ⟨rv, mk_end (raises_own T.k.o.exC T.k.o.tyC) I1 up1 kk un2 hok2 os2 bare2 ea ed hd1 q2⟩
    | next => exact False.elim hq
    | brk => exact False.elim hq
    | cont => exact False.elim hq
theorem pds_raiseK1 (hc : X.calm = true) (T : ExI X.K C fI) (F1 : FnOk X.prog X.w X.K X.mg X.base CX0 k fI fd ps (spI1 C f)) (hr : Room (k + 1) X.A) (hb : KwS X.K fd ps ks ix) (hks1 : ks.length = 1) (hm : X.mg x = some (.ref C)) (ha : PDKn X kws ts) (hln : kws.length = ks.length) (hix : ∀ (α : Type) (v : α), permL ix [v] = [v]) (hg : Gl X x := by rfl)
    (hdb : (x == ("__debug__" : Str)) = false := by decide) (hall : (backToKw pos (keywordEach kws X.env)).all (·.1.isSome) = true := by rfl) (hks : (backToKw pos (keywordEach kws X.env)).filterMap (·.1) = ks := by rfl)
    (hpl : ((backTo pos (starEach [] X.env)).any (·.1) || (backToKw pos (keywordEach kws X.env)).any (·.1.isNone)) = false := by rfl) :
    PDS X (.Raise (some (.Call (.Name x p) [] kws pos)) none p2) (tRaiseD C (fl1 f) ts) := fun pn xe H0 M0 W at_ => by
  refine imS (ps_raise (X := X.tr pn xe) hc at_.tk (pmk_kw (X := X.tr pn xe) T F1 hr hb hm (ha pn xe H0 M0 W at_) hg hdb hall hks hpl)) ?_
  rintro D σ H ⟨τ, M, F, g0, sl, mu, h, k1, k2, k3, k4⟩
  refine ⟨τ, M, _, g0, sl, mu, h, fun vs H1 ds M1 g1 mu1 r l q => ?_⟩
  rw [hln, hks1] at l
  cases r with
  | nil => cases l
  | @cons v0 d0 vs0 ds0 r rs =>
    cases rs with
    | cons _ _ => simp at l
    | nil =>
      refine ⟨hks1.symm, fun a na => ⟨a, v0, by rw [hix], upd_same, fun dx hdx ne => ⟨rfl, dx, _, upd_same, by rw [upd_ne ne, upd_same], ?_, ?_⟩⟩⟩
      · rw [upd_ne ne] at hdx; exact hdx
      · rw [upd_ne ne] at hdx
        have ho : ∀ b, b ≠ a → b ≠ dx → upd (upd (upd H1 a (exo a C none)) dx (exd dx [(f, v0)])) a (exo a C (some dx)) b = H1 b := fun b b1 b2 => by rw [upd_ne b1, upd_ne b2, upd_ne b1]
        have gg := made_good (M := M1) (fs := [(f, v0)]) na hdx ho
        exact ⟨C, _, τ, M1, rfl, .inl ⟨dx, _, rfl, mut_none mu1 hdx, upd_same, reps_fl1 (r.good gg)⟩, (g0.trans g1).trans gg, (sl.good g1).good gg, made_mut mu1 na hdx ho, q⟩
/-- the two keywords stand the other way round -/
theorem pds_raiseK2 (hc : X.calm = true) (T : ExI X.K C fI) (F1 : FnOk X.prog X.w X.K X.mg X.base CX0 k fI fd ps (spI2 C f g)) (hr : Room (k + 1) X.A) (hb : KwS X.K fd ps ks [1, 0]) (hks1 : ks.length = 2) (hm : X.mg x = some (.ref C)) (ha : PDKn X kws ts) (hln : kws.length = ks.length) (hg : Gl X x := by rfl)
    (hdb : (x == ("__debug__" : Str)) = false := by decide) (hall : (backToKw pos (keywordEach kws X.env)).all (·.1.isSome) = true := by rfl) (hks : (backToKw pos (keywordEach kws X.env)).filterMap (·.1) = ks := by rfl)
    (hpl : ((backTo pos (starEach [] X.env)).any (·.1) || (backToKw pos (keywordEach kws X.env)).any (·.1.isNone)) = false := by rfl) :
    PDS X (.Raise (some (.Call (.Name x p) [] kws pos)) none p2) (tRaiseD C (fun ds => fl2 f g (permL [1, 0] ds)) ts) := fun pn xe H0 M0 W at_ => by
  refine imS (ps_raise (X := X.tr pn xe) hc at_.tk (pmk_kw (X := X.tr pn xe) T F1 hr hb hm (ha pn xe H0 M0 W at_) hg hdb hall hks hpl)) ?_
  rintro D σ H ⟨τ, M, F, g0, sl, mu, h, k1, k2, k3, k4⟩
  refine ⟨τ, M, _, g0, sl, mu, h, fun vs H1 ds M1 g1 mu1 r l q => ?_⟩
  rw [hln, hks1] at l
  cases r with
  | nil => cases l
  | @cons v1 d1 vs0 ds0 r rs =>
    cases rs with
    | nil => simp at l
    | @cons v0 d0 vs1 ds1 r' rs =>
      cases rs with
      | cons _ _ => simp at l
      | nil =>
        refine ⟨hks1.symm, fun a na => ⟨a, v0, v1, rfl, upd_same, fun dx hdx ne => ⟨rfl, dx, _, by rw [upd_ne (Ne.symm ne), upd_same], upd_same, ?_, ?_⟩⟩⟩
        · rw [upd_ne ne] at hdx; exact hdx
        · rw [upd_ne ne] at hdx
          have ho : ∀ b, b ≠ a → b ≠ dx → upd (upd (upd (upd H1 a (exo a C none)) dx (exd dx [(f, v0)])) a (exo a C (some dx))) dx (exd dx [(g, v1), (f, v0)]) b = H1 b := fun b b1 b2 => by rw [upd_ne b2, upd_ne b1, upd_ne b2, upd_ne b1]
          have gg := made_good (M := M1) (fs := [(g, v1), (f, v0)]) na hdx ho
          exact ⟨C, _, τ, M1, rfl, .inl ⟨dx, _, rfl, mut_none mu1 hdx, upd_same, .cons (r.good gg) (.cons (r'.good gg) .nil)⟩, (g0.trans g1).trans gg, (sl.good g1).good gg, made_mut mu1 na hdx ho, q⟩
/-- raise C(), no __init__ of its own -/
theorem pmk_bare (hx : PySem.W.excIn X.K C [.type "ValueError", .type "Exception", .type "BaseException", .type "object"] "ValueError.__new__" = true) (gC : X.mg x = some (.ref C)) (kC : PySem.W.keepIn X.K (.ref C) = true) (r : Raises X (.ref C)) (hg : Gl X x) (hdb : (x == ("__debug__" : Str)) = false) :
    PMk X (.Call (.Name x p) [] [] pos) (fun _ H Q => Q (.ref C) none H) := by
  intro pins s σ H Q I h
  refine wpAny_Call_Name_kw (ld_glob I hg gC ?_ hdb)
  refine PySem.W.callWith_K0 I.kIn kC (?_ : wpAny _ _ (call (.ref C) []) _ _ _)
  obtain ⟨bm, N, nm, qn, bs, hdct, sn, sub, ab, col, dd, k0, k1, k2, k3, k5, mN, hC, hN, hni, T⟩ := exc_obj I.kIn hx
  refine wpAny_call_exc_subT F.excBase_ValueError T hC hN hni (fun h' e hm => mk_of I hm r h (I.hok.gone hm.new)) (by show 0 ≤ sizeLine; omega)
theorem pds_raise0 (hc : X.calm = true) (hx : PySem.W.excIn X.K C [.type "ValueError", .type "Exception", .type "BaseException", .type "object"] "ValueError.__new__" = true) (T : ExK X.K C) (hm : X.mg x = some (.ref C)) (hg : Gl X x := by rfl) (hdb : (x == ("__debug__" : Str)) = false := by decide) :
    PDS X (.Raise (some (.Call (.Name x p) [] [] pos)) none p2) (tRaiseD C (fun _ => []) tNilD) := fun pn xe H0 M0 W at_ => by
  refine imS (ps_raise (X := X.tr pn xe) hc at_.tk (pmk_bare (X := X.tr pn xe) hx hm T.o.kC (raises_own T.o.exC T.o.tyC) hg hdb)) ?_
  rintro D σ H ⟨τ, M, F, g0, sl, mu, h, k1, k2, k3, k4⟩
  exact ⟨C, _, τ, M, rfl, .inr ⟨rfl, rfl⟩, g0, sl, mu, h⟩

/-! ### isinstance of an exception, its fields -/
/-- C of an exception of the class that is asked -/
def isE (sub : Addr → Option Bool) (d : D) : Option Bool := match d with | .exn C _ => sub C | _ => none
theorem exc_at {pins : List (Addr × Obj)} {σ : L2.St} {H : Hp} {s : Shared} {a C : Addr} {dx : Option Addr} (I : Inv X pins σ H s) (e : H a = some (.ext (ExcAt a C dx))) : ∃ oe vs, s.heap.get? a = some oe ∧ oe.cls = .ref C ∧ oe.dict = dx ∧ oe.data = .fields vs :=
  (show ObjOk X.prog X.w H s.heap a (.ext (ExcAt a C dx)) from I.hok a _ e).1
theorem pd_isE {cn : Str} {cv : Value} {sub : Addr → Option Bool} {c : Expr} (hm : X.mg "isinstance" = none) (ha : PD X a ta) (hc : ∀ pn xe, ∃ v, (∀ u, RelV v u → u = cv) ∧ PE (X.tr pn xe) c (tC v)) (hs : ∀ C' b, sub C' = some b → ExK X.K C' ∧ PySem.W.kitOne X.K (.ref C') cv = some b)
    (hg : Gl X "isinstance" := by rfl) (he : starEach [a, c] X.env = (false, eval a X.env) :: starEach [c] X.env := by rfl) (he2 : starEach [c] X.env = [(false, eval c X.env)] := by rfl) (hpl : (backTo pos (starEach [c] X.env)).any (·.1) = false := by rfl) :
    PD X (.Call (.Name "isinstance" p) [a, c] [] pos) (tIs (isE sub) ta) := fun pn xe H0 M0 W at_ => by
  obtain ⟨v, hv, hpe⟩ := hc pn xe
  have cr : CallR (X.tr pn xe) (.builtin "isinstance") (fun xs H Q => ∃ a C dx b, xs = [.ref a, v] ∧ H a = some (.ext (ExcAt a C dx)) ∧ (∀ d, dx = some d → ∃ ws, H d = some (.xd ws)) ∧ sub C = some b ∧ Q (.bl b) H) := by
    intro pins s σ H xs us Q I r h
    obtain ⟨a, C, dx, b, rfl, e, hd, hb, q⟩ := h
    obtain ⟨T, hk⟩ := hs C b hb
    cases r with
    | cons rx rr =>
      cases rr with
      | cons rt rr =>
        cases rr
        cases rx
        have ec := hv _ rt
        subst ec
        obtain ⟨oe, vs, h1, h2, h3, h4⟩ := exc_at I e
        have J : ∃ od, PySem.W.InstAt s.heap a oe C od := by
          cases dx with
          | none => exact ⟨none, h1, h2, by unfold PySem.W.notCls; rw [h4] <;> trivial, by rw [h3]; trivial⟩
          | some d =>
            obtain ⟨ws, hw⟩ := hd d rfl
            obtain ⟨mA, hns, _⟩ := (show ObjOk X.prog X.w H s.heap d (.xd ws) from I.hok d _ hw)
            obtain ⟨od, ho, hl⟩ := lookIn_ns hns
            exact ⟨some od, h1, h2, by unfold PySem.W.notCls; rw [h4] <;> trivial, by rw [h3]; exact ho⟩
        obtain ⟨od, J⟩ := J
        exact PySem.W.kia_one (PySem.W.kitx_exc T.ic T.ga T.gg T.o.exC T.ca T.sg T.tg T.om) I.kIn J hk (fun z => nomatch z) fun tk => ⟨.bl b, H, I.kept (t' := tk) fun _ _ z => z, rfl, q⟩
  refine imE (pe_callB (X := X.tr pn xe) cr hg hm (by decide +kernel) (pa_cons (ha pn xe H0 M0 W at_) (pa_cons hpe pa_nil he2) he) (by decide) (by decide) he hpl) fun σ H Q ⟨τ, M, F, g0, sl, mu, h, k⟩ => upE_fin g0 sl mu h fun x H1 d M1 g1 mu1 r1 q => ?_
  cases r1 with
  | exn m m2 e e2 rf =>
    cases eb : isE sub (.exn _ _) with
    | none => rw [eb] at q; exact q.elim
    | some b => rw [eb] at q; exact ⟨_, _, _, b, rfl, e, fun d hd => (by cases hd; exact ⟨_, e2⟩), eb, k _ _ _ _ g1 mu1 (.bl _) q⟩
  | exn0 m e =>
    cases eb : isE sub (.exn _ _) with
    | none => rw [eb] at q; exact q.elim
    | some b => rw [eb] at q; exact ⟨_, _, _, b, rfl, e, fun d hd => (by cases hd), eb, k _ _ _ _ g1 mu1 (.bl _) q⟩
  | _ => exact q.elim
/-- e.f of a caught exception -/
def tFldX (f : Str) (t : TED) : TED := fun W τ M Q => t W τ M fun d M1 => match d with | .exn _ fs => (match fs.lookup f with | some x => Q x M1 | none => False) | _ => False
theorem pd_fldX (cls : Addr → Prop) (ha : PD X a ta) (hs : ∀ C', ExK X.K C' → PySem.W.findIn X.K (.ref C') f = some none → True) (hk : ∀ C', cls C' → ExK X.K C' ∧ PySem.W.findIn X.K (.ref C') f = some none) (hb : attributeBase a f X.env (eval a X.env) = eval a X.env := by rfl) :
    PD X (.Attribute a f pos) (fun W τ M Q => ta W τ M fun d M1 => match d with | .exn C fs => cls C ∧ (match fs.lookup f with | some x => Q x M1 | none => False) | _ => False) := fun pn xe H0 M0 W at_ => by
  refine ⟨fun pins s σ H Q I ⟨τ, M, F, g0, sl, mu, h, k⟩ => ?_⟩
  refine attr_of hb (thn ((ha pn xe H0 M0 W at_).run pins s σ H (fun v H1 => ∃ d M1 C dx fs ws x, v = .ref d ∧ Good H M H1 M1 ∧ Mut X.K H1 M1 ∧ cls C ∧ H1 d = some (.ext (ExcAt d C (some dx))) ∧ H1 dx = some (.xd fs) ∧ RepF X.K H1 M1 fs ws ∧ ws.lookup f = some x ∧ F x M1) I ?_) fun u s1 hh => ?_)
  · refine upE_fin g0 sl mu h fun v H1 d M1 g1 mu1 r1 q => ?_
    cases r1 with
    | @exn a C dx fs ds m m2 e e2 rf =>
      obtain ⟨hC, q⟩ := q
      cases el : ds.lookup f with
      | none => rw [el] at q; exact q.elim
      | some x => rw [el] at q; exact ⟨_, M1, C, dx, fs, ds, x, rfl, g1, mu1, hC, e, e2, rf, el, q⟩
    | exn0 m e => exact q.2.elim
    | _ => exact q.elim
  · obtain ⟨_, H1, I1, rx, a, M1, C, dx, fs, ws, x, rfl, g1, mu1, hC, e, e2, rf, el, q⟩ := hh
    obtain rfl : u = Value.ref a := rx
    obtain ⟨T, hno⟩ := hk C hC
    obtain ⟨oe, vs, h1, h2, h3, h4⟩ := exc_at (X := X.tr pn xe) I1 e
    obtain ⟨v, lv, rv⟩ := rf.lookup el
    obtain ⟨mA, hns, hr⟩ := (show ObjOk X.prog X.w H1 s1.heap dx (.xd fs) from I1.hok dx _ e2)
    obtain ⟨od, ho, hl⟩ := lookIn_ns hns
    obtain ⟨u, hu, ru⟩ := RelO.some_of (v := v) (o := mA f) (by rw [← lv]; exact hr f)
    have J : PySem.W.InstAt s1.heap a oe C (some od) := ⟨h1, h2, by unfold PySem.W.notCls; rw [h4] <;> rfl, by rw [h3]; exact ho⟩
    exact HandSPX.exc_get I1.kIn J T.ga T.gg T.o.exC (PySem.W.findObj_own T.hd hno rfl (by rw [hl, hu])) (handed_of ru) ⟨v, H1, I1.tok _, ru, k _ H1 _ M1 g1 mu1 rv q⟩
end
end Z

set_option Elab.async false
set_option linter.all false
set_option maxRecDepth 100000
set_option maxHeartbeats 4000000
namespace Z
local macro_rules | `(tactic| walk_at "z at") => `(tactic| first | rfl | (simp only [atI, ixN, List.length_cons, List.length_nil, List.length_map]; rfl) | assumption)
local macro_rules | `(tactic| walk_at "z1") => `(tactic| first
  | with_reducible refine w_seq ?_ | with_reducible refine w_set ?_ | with_reducible refine w_ret ?_ | with_reducible refine w_if ?_ | with_reducible refine w_asg ?_ | with_reducible refine w_next ?_ | with_reducible refine w_setIx ?_ | with_reducible refine w_par ?_
  | ((with_reducible refine' w_var ?h ?_); (case h => exact rfl))
  | with_reducible refine w_c ?_ | with_reducible refine w_op ?_ | with_reducible refine w_un ?_ | with_reducible refine w_cons ?_ | with_reducible refine w_nil ?_ | with_reducible refine w_cb ?_
  | with_reducible refine w_call ?_ | with_reducible refine w_callK ?_ | with_reducible refine w_testB ?_ | with_reducible refine w_tru ?_ | with_reducible refine w_andD ?_ | with_reducible refine w_orD ?_ | with_reducible refine w_notD ?_
  | with_reducible refine w_andE ?_ | with_reducible refine w_orE ?_ | with_reducible refine w_notE ?_ | with_reducible refine w_ifE ?_ | with_reducible refine w_is ?_ | with_reducible refine w_isN ?_ | with_reducible refine w_notN ?_ | with_reducible refine w_tupOf ?_
  | with_reducible refine w_tup ?_ | with_reducible refine w_lst ?_ | with_reducible refine w_lstM ?_ | with_reducible refine w_sl ?_ | with_reducible refine w_part ?_ | with_reducible refine w_noPart ?_ | with_reducible refine w_repr ?_ | with_reducible refine w_seqI ?_
  | with_reducible refine w_rdI ?_ | with_reducible refine w_rdB ?_ | with_reducible refine w_rdAdd ?_ | with_reducible refine w_neg ?_ | with_reducible refine w_lenL ?_ | with_reducible refine w_lenT ?_ | with_reducible refine w_abs ?_ | with_reducible refine w_int ?_ | with_reducible refine w_intB ?_ | with_reducible refine w_gcd ?_
  | with_reducible refine w_gname ?_ | with_reducible refine w_gnil ?_ | with_reducible refine w_gcons ?_
  | with_reducible refine w_true ?_ | with_reducible refine w_false ?_
  | dsimp only [truthD, seqD, isNonD, permL, List.filterMap] | with_reducible refine w_drop ?_ | with_reducible refine w_retN ?_ | with_reducible refine w_nilP ?_ | with_reducible refine w_consP ?_ | with_reducible refine w_rng ?_ | with_reducible refine w_cont ?_ | with_reducible refine w_brk ?_)
local macro_rules | `(tactic| walk_at "z") => `(tactic| repeat walk_at "z1")
open PySem L2 PySem.Spec PyProof.Rows

/-! ### a class of errors right below the package's own base L, by one look -/
def veMro (L C : Addr) : List Value := [.ref C, .ref L, .type "ValueError", .type "Exception", .type "BaseException", .type "object"]
def exB (K : PySem.W.Frag) (L C : Addr) (fl : List Str) : Bool :=
  (match K.lookup C with
    | some ⟨.type "type", _, .cls cd, sl⟩ => (match sl.toList with | [_, _, _, _, some (.builtin n), _] => n == "ValueError.__new__" | _ => false) && (cd.mro == veMro L C) && cd.hasDict && !cd.hasDel
    | _ => false) &&
  (PySem.W.findIn K (.ref C) "__setattr__" == some (some (.builtin "object.__setattr__"))) && (PySem.W.keepIn K (.ref C)) && (PySem.W.findIn K (.ref C) "__getattribute__" == some (some (.builtin "BaseException.__getattribute__"))) &&
  (PySem.W.findIn K (.ref C) "__getattr__" == some none) && (PySem.W.findIn K (.ref C) "__class__" == some (some (.builtin "object.__class__"))) &&
  (PySem.W.specialIn K (.builtin "object.__class__") "__get__" == some (some (.builtin "getset_descriptor.__get__"))) && (PySem.W.takesIn K (.builtin "object.__class__") == some true) && fl.all fun f => PySem.W.findIn K (.ref C) f == some none
theorem ve_has {L C : Addr} : (veMro L C).contains (.type "BaseException") = true := by simp [veMro]
theorem ve_has2 {L C : Addr} : (veMro L C).contains (.type "object") = true := by simp [veMro]
theorem ve_has3 {L C : Addr} : (veMro L C).contains (.type "ValueError") = true := by simp [veMro]
theorem ve_own {L C D : Addr} : (veMro L C).contains (.ref D) = (decide (C = D) || decide (D = L)) := by
  by_cases h : C = D
  · subst h; simp [veMro]
  · by_cases h2 : D = L
    · subst h2; simp [veMro]
    · simp [veMro, h, h2, Ne.symm h]
structure ExG (K : PySem.W.Frag) (L C : Addr) (fl : List Str) : Prop where
  k : ExK K C
  sub : ∀ base, PySem.W.subIn K (.ref C) base = some ((veMro L C).contains base)
  nf : ∀ f ∈ fl, PySem.W.findIn K (.ref C) f = some none
theorem exB_ok {K : PySem.W.Frag} {L C : Addr} {fl : List Str} (h : exB K L C fl = true) : ExG K L C fl := by
  unfold exB at h
  simp only [Bool.and_eq_true, beq_iff_eq, List.all_eq_true] at h
  obtain ⟨⟨⟨⟨⟨⟨⟨⟨hl, sa⟩, kp⟩, ga⟩, gg⟩, ca⟩, sg⟩, tg⟩, nf⟩ := h
  split at hl
  · rename_i dd cd sl ho
    simp only [Bool.and_eq_true, beq_iff_eq, Bool.not_eq_true'] at hl
    obtain ⟨⟨⟨h1, h2⟩, h3⟩, h4⟩ := hl
    split at h1
    · rename_i k0 k1 k2 k3 n k5 hs
      have h1' := beq_iff_eq.mp h1
      subst h1'
      obtain ⟨nm, bs, mro, ns, qn, hd, sn, sb, ab, col, dl⟩ := cd
      dsimp only at h2 h3 h4
      subst h2 h3 h4
      have hsl : sl = #[k0, k1, k2, k3, some (.builtin "ValueError.__new__"), k5] := by
        obtain ⟨l⟩ := sl
        simp only at hs
        rw [hs]
      subst hsl
      have hc : PySem.W.clsIn K C = some { name := nm, bases := bs, mro := veMro L C, ns := ns, qualname := qn, hasDict := true, slotNames := sn, subclasses := sb, abstract := ab, collection := col, hasDel := false } := by unfold PySem.W.clsIn; rw [ho]
      have sub : ∀ base, PySem.W.subIn K (.ref C) base = some ((veMro L C).contains base) := fun base => by
        show PySem.W.mroIn K C base = _
        unfold PySem.W.mroIn
        rw [hc]
        rfl
      have ty : PySem.W.typeIn K (.ref C) = some (.type "type") := by show (K.lookup C).map _ = _; rw [ho]; rfl
      have ex : PySem.W.subIn K (.ref C) (.type "BaseException") = some true := (sub _).trans (by rw [ve_has])
      refine ⟨⟨⟨⟨nm, qn, ns, bs, _, sn, sb, ab, col, dd, k0, k1, k2, k3, k5, ho, rfl⟩, sa, ex, ty, kp⟩, ga, gg, by show (PySem.W.clsIn K C).any _ = true; rw [hc]; rfl, ca, (sub (.type "object")).trans (by rw [ve_has2]), by show (PySem.W.clsIn K C).isSome = true; rw [hc]; rfl, sg, tg⟩, sub, fun f hf => nf f hf⟩
    · cases h1
  · cases hl
theorem exg_kit {K : PySem.W.Frag} {L C D : Addr} {fl fl' : List Str} (T : ExG K L C fl) (U : ExG K L D fl') : PySem.W.kitOne K (.ref C) (.ref D) = some (decide (C = D) || decide (D = L)) := by
  unfold PySem.W.kitOne
  by_cases h : C = D
  · subst h; simp
  · have e : (Value.ref C == Value.ref D) = false := by simpa using h
    rw [if_neg (by rw [e]; exact Bool.false_ne_true)]
    have e2 : ((PySem.W.clsIn K D).isSome && PySem.W.typeIn K (.ref D) == some (.type "type")) = true := by
      have h1 : (PySem.W.clsIn K D).isSome = true := U.k.ic
      rw [h1, U.k.o.tyC]
      rfl
    unfold PySem.W.kitCls
    simp only [e2, if_true]
    rw [T.sub, ve_own]
theorem exg_ve {K : PySem.W.Frag} {L C : Addr} {fl : List Str} (T : ExG K L C fl) : PySem.W.kitOne K (.ref C) (.type "ValueError") = some true := by
  have m : PySem.W.kitMeta "ValueError" = true := by decide +kernel
  have e : (Value.ref C == Value.type "ValueError") = false := rfl
  unfold PySem.W.kitOne PySem.W.kitCls
  simp only [e, m, if_true, Bool.false_eq_true, if_false]
  rw [T.sub, ve_has3]
theorem exg_exm {K : PySem.W.Frag} {L C : Addr} {fl : List Str} (T : ExG K L C fl) (h1 : PySem.W.subIn K (.ref L) (.type "BaseException") = some true) (hd : PySem.W.hasDictIn K L = true) (ht : PySem.W.typeIn K (.ref L) = some (.type "type")) : PySem.W.exmOne K (.ref C) (.ref L) = some true := by
  have hc : PySem.W.isClsIn K L = true := by
    unfold PySem.W.hasDictIn at hd
    show (PySem.W.clsIn K L).isSome = true
    cases q : PySem.W.clsIn K L with
    | none => rw [q] at hd; cases hd
    | some _ => rfl
  have e1 : (PySem.W.subIn K (.ref L) (.type "BaseException") == some true) = true := by rw [h1]; rfl
  have e2 : ((PySem.W.clsIn K L).isSome && PySem.W.typeIn K (.ref L) == some (.type "type")) = true := by
    have hc' : (PySem.W.clsIn K L).isSome = true := hc
    rw [hc', ht]
    rfl
  have e3 := T.sub (.ref L)
  rw [ve_own] at e3
  simp only [decide_true, Bool.or_true] at e3
  show (if (PySem.W.subIn K (.ref L) (.type "BaseException") == some true) = true then (if ((PySem.W.clsIn K L).isSome && PySem.W.typeIn K (.ref L) == some (.type "type")) = true then PySem.W.subIn K (.ref C) (.ref L) else none) else none) = some true
  rw [if_pos e1, if_pos e2, e3]
end Z

set_option Elab.async false
set_option linter.all false
set_option maxRecDepth 100000
set_option maxHeartbeats 4000000
namespace Z
local macro_rules | `(tactic| walk_at "z at") => `(tactic| first | rfl | (simp only [atI, ixN, List.length_cons, List.length_nil, List.length_map]; rfl) | assumption)
local macro_rules | `(tactic| walk_at "z1") => `(tactic| first
  | with_reducible refine w_seq ?_ | with_reducible refine w_set ?_ | with_reducible refine w_ret ?_ | with_reducible refine w_if ?_ | with_reducible refine w_asg ?_ | with_reducible refine w_next ?_ | with_reducible refine w_setIx ?_ | with_reducible refine w_par ?_
  | ((with_reducible refine' w_var ?h ?_); (case h => exact rfl))
  | with_reducible refine w_c ?_ | with_reducible refine w_op ?_ | with_reducible refine w_un ?_ | with_reducible refine w_cons ?_ | with_reducible refine w_nil ?_ | with_reducible refine w_cb ?_
  | with_reducible refine w_call ?_ | with_reducible refine w_callK ?_ | with_reducible refine w_testB ?_ | with_reducible refine w_tru ?_ | with_reducible refine w_andD ?_ | with_reducible refine w_orD ?_ | with_reducible refine w_notD ?_
  | with_reducible refine w_andE ?_ | with_reducible refine w_orE ?_ | with_reducible refine w_notE ?_ | with_reducible refine w_ifE ?_ | with_reducible refine w_is ?_ | with_reducible refine w_isN ?_ | with_reducible refine w_notN ?_ | with_reducible refine w_tupOf ?_
  | with_reducible refine w_tup ?_ | with_reducible refine w_lst ?_ | with_reducible refine w_lstM ?_ | with_reducible refine w_sl ?_ | with_reducible refine w_part ?_ | with_reducible refine w_noPart ?_ | with_reducible refine w_repr ?_ | with_reducible refine w_seqI ?_
  | with_reducible refine w_rdI ?_ | with_reducible refine w_rdB ?_ | with_reducible refine w_rdAdd ?_ | with_reducible refine w_neg ?_ | with_reducible refine w_lenL ?_ | with_reducible refine w_lenT ?_ | with_reducible refine w_abs ?_ | with_reducible refine w_int ?_ | with_reducible refine w_intB ?_ | with_reducible refine w_gcd ?_
  | with_reducible refine w_gname ?_ | with_reducible refine w_gnil ?_ | with_reducible refine w_gcons ?_
  | with_reducible refine w_true ?_ | with_reducible refine w_false ?_
  | dsimp only [truthD, seqD, isNonD, permL, List.filterMap] | with_reducible refine w_drop ?_ | with_reducible refine w_retN ?_ | with_reducible refine w_nilP ?_ | with_reducible refine w_consP ?_ | with_reducible refine w_rng ?_ | with_reducible refine w_cont ?_ | with_reducible refine w_brk ?_)
local macro_rules | `(tactic| walk_at "z") => `(tactic| repeat walk_at "z1")
open PySem L2 PySem.Spec PyProof.Rows

/-! ### repr of a list that holds dicts of plain values -/
def scalPy : D → Option PyData | .non => some .none | .bl b => some (.bool b) | .int i => some (.int i) | .str x => some (.str x) | _ => none
def keyPy : Key → PyData | .inl i => .int i | .inr x => .str x
def kvPy : List (Key × D) → Option (List (PyData × PyData))
  | [] => some []
  | (k, d) :: r => match scalPy d, kvPy r with | some p, some q => some ((keyPy k, p) :: q) | _, _ => none
def toPyE (d : D) : Option PyData := match d with | .dct kvs => (kvPy kvs).map .dict | d => toPy d
def toPyEs : List D → Option (List PyData)
  | [] => some []
  | x :: xs => match toPyE x, toPyEs xs with | some p, some ps => some (p :: ps) | _, _ => none
/-- values that are read, none of which has the table of modules -/
inductive SafeAll (h : Heap) : List Value → List PyData → Prop
  | nil : SafeAll h [] []
  | cons {v d as vs ds} : Reads h v d as → (d.hasDict = true → sysModules ∉ as) → SafeAll h vs ds → SafeAll h (v :: vs) (d :: ds)
theorem SafeAll.reads {h : Heap} : ∀ {vs : List Value} {ds : List PyData}, SafeAll h vs ds → ∃ as, ReadsAll h vs ds as
  | _, _, .nil => ⟨_, .nil⟩
  | _, _, .cons r _ t => let ⟨_, q⟩ := t.reads; ⟨_, .cons r q⟩
theorem SafeAll.shows {prog : Program} {w : World} {h : Heap} : ∀ {vs : List Value} {ds : List PyData}, SafeAll h vs ds → PyData.showableAll ds = true → (∀ t ∈ PyData.shownAll ds, t.length ≤ sizeLine) → ∃ bs, ReadAtMost h (PyData.depthAll ds) bs ∧ ReprAllK prog w bs h (PyData.depthAll ds) vs (PyData.shownAll ds)
  | _, _, .nil, _, _ => ⟨[], (fun b q => absurd q List.not_mem_nil), .nil⟩
  | _, _, .cons (d := d) (ds := ds) r nf t, hs, hz => by
    simp only [PyData.showableAll, Bool.and_eq_true] at hs
    simp only [PyData.shownAll, List.mem_cons] at hz
    obtain ⟨b1, m1, q1⟩ := ReprK.of_reads (prog := prog) (w := w) r hs.1 nf (hz _ (.inl rfl))
    obtain ⟨b2, m2, q2⟩ := t.shows (prog := prog) (w := w) hs.2 fun x hx => hz x (.inr hx)
    simp only [PyData.depthAll, PyData.shownAll]
    exact ⟨b1 ++ b2, (m1.mono (Nat.le_max_left _ _)).append (m2.mono (Nat.le_max_right _ _)), .cons ((q1.more fun b hb => List.mem_append_left _ hb).level_le (Nat.le_max_left _ _)) (q2.more_le (fun b hb => List.mem_append_right _ hb) (Nat.le_max_right _ _))⟩
theorem repr_safe {prog : Program} {w : World} {A : Around} {E : Value → Shared → Prop} {s : Shared} {Q : Value → Shared → Prop} {a : Addr} {o : Obj} {its : List Value} {n : Nat} {ds : List PyData} (ha : s.heap.get? a = some o) (hc : o.cls = .type "list") (hd : o.data = .seq its.toArray n) (sa : SafeAll s.heap its ds)
    (ok : okRepr (.list ds)) (hg : A.guards = some []) (hu : A.units + 66 < cLine) (hQ : ∀ h' u tk, (∀ b o, s.heap.get? b = some o → h'.get? b = some o) → Q (.str (PyData.list ds).shown u) { s with heap := h', toks := tk }) : wpAny (model prog w) A (call (.builtin "repr") [.ref a]) Q E s := by
  obtain ⟨h1, h2, h3⟩ := ok
  have z : (listText (PyData.shownAll ds)).length ≤ sizeLine := by rw [sizeLine_eq]; simpa only [PyData.shown] using h2
  simp only [PyData.showable] at h1
  simp only [PyData.depth] at h3
  simp only [PyData.shown] at hQ
  obtain ⟨as, hr⟩ := sa.reads
  obtain ⟨bs, hb, hk⟩ := sa.shows (prog := prog) (w := w) h1 fun t ht => Nat.le_trans (listText_mem_le ht) z
  have na : a ∉ bs := not_mem_of_deeper (.list ha hc hd hr) (by simp only [PyData.depth]; omega) hb
  refine call_repr_slot (by omega) ⟨o, ha, hc⟩ F.slot_list_repr.toG ?_
  cases its with
  | nil =>
    cases sa
    simp only [PyData.shownAll, listText_nil] at hQ
    exact call_list_repr_empty ⟨o, ha, hc⟩ ha hd ⟨_, _, rfl, hQ s.heap _ _ fun _ _ e => e⟩
  | cons x l =>
    exact call_list_reprK ha hc hd na (by simpa using hk.length_eq) (fun i y e => hk.item i y (by simpa using e)) hg (fun b _ => Clear.nil b) (by show A.units + 1 + _ < cLine; omega) (fun _ _ e => e) (fun h' u tk kk => ⟨_, _, rfl, hQ h' u tk kk⟩) z
section
variable {X : Cx} {pins : List (Addr × Obj)} {σ : L2.St} {H : Hp} {s : Shared} {M : MH}
theorem scal_reads {v : V} {u : Value} {d : D} {p : PyData} (rp : Rep X.K H M v d) (r : RelV v u) (e : scalPy d = some p) : Reads s.heap u p [] := by
  cases rp <;> simp only [scalPy] at e <;> first | cases e | skip
  · cases r; exact .none
  · cases r; exact .bool _
  · obtain ⟨t, rfl⟩ := r; exact .int _ t
  · obtain ⟨t, rfl⟩ := r; exact .str _ t
theorem kv_reads {P : Program} {w : World} : ∀ {kvs : List (Key × V)} {kds : List (Key × D)} {ps : List (PyData × PyData)} {vs : List (Key × Value)} {es : List DictEntry}, RepK X.K H M kvs kds → KV kvs vs → Pairs (mixKind P w) es vs → kvPy kds = some ps →
    ReadsAll s.heap (es.map (·.key)) (ps.map (·.1)) [] ∧ ReadsAll s.heap (es.map (·.val)) (ps.map (·.2)) []
  | _, _, _, _, _, .nil, .nil, .nil, e => by cases e; exact ⟨.nil, .nil⟩
  | _, _, _, _, _, .cons (k := k) (d := d) (ds := ds) rv rr, .cons rk rt, .cons hk hv pr, e => by
    simp only [kvPy] at e
    cases e1 : scalPy d with
    | none => rw [e1] at e; cases e
    | some p =>
      cases e2 : kvPy ds with
      | none => rw [e1, e2] at e; cases e
      | some q =>
        rw [e1, e2] at e
        cases e
        obtain ⟨q1, q2⟩ := kv_reads (P := P) (w := w) rr rt pr e2
        have hv' := scal_reads (s := s) rv (hv ▸ rk.2) e1
        have hk' : ∀ ky, keyIs k ky = true → Reads s.heap ky (keyPy k) [] := fun ky h => by
          rcases keyIs_shape h with ⟨i, t, rfl, rfl⟩ | ⟨x, t, rfl, rfl⟩
          · exact .int i t
          · exact .str x t
        exact ⟨.cons (as := []) (bs := []) (hk' _ (by have e0 := rk.1; dsimp only at e0; rw [e0]; exact hk)) q1, .cons (as := []) (bs := []) hv' q2⟩
theorem safe_all (I : Inv X pins σ H s) (mu : Mut X.K H M) : ∀ {vs : List V} {ds : List D} {us : List Value} {ps : List PyData}, Reps X.K H M vs ds → Vals vs us → toPyEs ds = some ps → SafeAll s.heap us ps
  | _, _, _, _, .nil, .nil, e => by cases e; exact .nil
  | _, _, _, _, .cons (v := v) (d := d) (ds := ds) rp rr, .cons r rs, e => by
    simp only [toPyEs] at e
    cases e1 : toPyE d with
    | none => rw [e1] at e; cases e
    | some p =>
      cases e2 : toPyEs ds with
      | none => rw [e1, e2] at e; cases e
      | some q =>
        rw [e1, e2] at e
        cases e
        have t := safe_all I mu rr rs e2
        unfold toPyE at e1
        split at e1
        · rename_i kvs
          cases rp with
          | dct m hd rk =>
            cases r
            cases ek : kvPy kvs with
            | none => rw [ek] at e1; cases e1
            | some ps =>
              rw [ek] at e1
              cases e1
              obtain ⟨_, hm, vs, kv, o, es, ep, h1, h2, h3, _, h5, _⟩ := (show ObjOk X.prog X.w H s.heap _ (.dK _) from I.hok _ _ hd)
              obtain ⟨q1, q2⟩ := kv_reads (s := s) rk kv h5 ek
              exact .cons (.dict (as := []) (bs := []) h1 h2.1 h3 q1 q2) (fun _ hh => by rw [List.append_nil, List.mem_singleton] at hh; rw [← hh] at hm; simp at hm) t
        · obtain ⟨as, hr⟩ := Dp.reads I p v _ (toPy_dp rp e1) r
          exact .cons hr (fun z => by rw [toPy_noDict _ _ e1] at z; cases z) t
def tReprE (t : TED) : TED := fun W τ M Q => t W τ M fun d M1 => match d with | .lst xs => (match toPyEs xs with | some ps => okRepr (.list ps) ∧ Q (.str (PyData.list ps).shown) M1 | none => False) | _ => False
end
section
variable {X : Cx}
theorem pd_reprE {a : Expr} {ta : TED} {pos p : Pos} (hgd : X.A.guards = some []) (hu : X.A.units + 66 < cLine) (hm : X.mg "repr" = none) (ha : PD X a ta) (hg : Gl X "repr" := by rfl) (he : starEach [a] X.env = (false, eval a X.env) :: starEach [] X.env := by rfl) (hpl : (backTo pos (starEach [] X.env)).any (·.1) = false := by rfl) :
    PD X (.Call (.Name "repr" p) [a] [] pos) (tReprE ta) := fun pn xe H0 M0 W at_ => by
  refine ⟨fun pins s σ H Q I ⟨τ, M, F, g0, sl, mu, h, k⟩ => ?_⟩
  refine wpAny_Call_Name_kw (ld_blt I hg hm (show bootBuiltins "repr" = some (.builtin "repr") by decide +kernel) ?_ (by decide) (by decide))
  refine PyProof.Rows.callWith_builtin1 (thn ((pa_cons (X := X.tr pn xe) (ha pn xe H0 M0 W at_) pa_nil he).run pos pins s σ H (fun vs H1 => ∃ v xs M1 ps, vs = [v] ∧ Good H M H1 M1 ∧ Mut X.K H1 M1 ∧ Rep X.K H1 M1 v (.lst xs) ∧ toPyEs xs = some ps ∧ okRepr (.list ps) ∧ F (.str (PyData.list ps).shown) M1) I ?_) fun us s1 ⟨vs, H1, I1, r1, v, xs, M1, ps, ev, g1, mu1, rp, e, ok, q⟩ => ?_) he hpl
  · exact upE_fin g0 sl mu h fun v H1 d M1 g1 mu1 r1 q => by
      cases d with
      | lst xs =>
        dsimp only at q
        cases e : toPyEs xs with
        | none => rw [e] at q; exact q.elim
        | some ps => rw [e] at q; exact ⟨v, xs, M1, ps, rfl, g1, mu1, r1, e, q.1, q.2⟩
      | _ => exact q.elim
  · subst ev
    cases r1 with
    | cons r rs =>
      cases rs
      cases rp with
      | lst rr rs =>
        cases r
        obtain ⟨its, rv, ⟨o, n, ho, hc, _, hd⟩, _⟩ := I1.list rr.sq
        refine repr_safe ho hc hd (safe_all (X := X.tr pn xe) I1 mu1 rs rv e) ok hgd hu fun h' u tk kk => ⟨.str (PyData.list ps).shown, H1, I1.kept kk, ⟨u, rfl⟩, k _ H1 _ M1 g1 mu1 (.str _) q⟩
end
end Z

set_option Elab.async false
set_option linter.all false
set_option maxRecDepth 100000
set_option maxHeartbeats 4000000
namespace Z
local macro_rules | `(tactic| walk_at "z at") => `(tactic| first | rfl | (simp only [atI, ixN, List.length_cons, List.length_nil, List.length_map]; rfl) | assumption)
local macro_rules | `(tactic| walk_at "z1") => `(tactic| first
  | with_reducible refine w_seq ?_ | with_reducible refine w_set ?_ | with_reducible refine w_ret ?_ | with_reducible refine w_if ?_ | with_reducible refine w_asg ?_ | with_reducible refine w_next ?_ | with_reducible refine w_setIx ?_ | with_reducible refine w_par ?_
  | ((with_reducible refine' w_var ?h ?_); (case h => exact rfl))
  | with_reducible refine w_c ?_ | with_reducible refine w_op ?_ | with_reducible refine w_un ?_ | with_reducible refine w_cons ?_ | with_reducible refine w_nil ?_ | with_reducible refine w_cb ?_
  | with_reducible refine w_call ?_ | with_reducible refine w_callK ?_ | with_reducible refine w_testB ?_ | with_reducible refine w_tru ?_ | with_reducible refine w_andD ?_ | with_reducible refine w_orD ?_ | with_reducible refine w_notD ?_
  | with_reducible refine w_andE ?_ | with_reducible refine w_orE ?_ | with_reducible refine w_notE ?_ | with_reducible refine w_ifE ?_ | with_reducible refine w_is ?_ | with_reducible refine w_isN ?_ | with_reducible refine w_notN ?_ | with_reducible refine w_tupOf ?_
  | with_reducible refine w_tup ?_ | with_reducible refine w_lst ?_ | with_reducible refine w_lstM ?_ | with_reducible refine w_sl ?_ | with_reducible refine w_part ?_ | with_reducible refine w_noPart ?_ | with_reducible refine w_repr ?_ | with_reducible refine w_seqI ?_
  | with_reducible refine w_rdI ?_ | with_reducible refine w_rdB ?_ | with_reducible refine w_rdAdd ?_ | with_reducible refine w_neg ?_ | with_reducible refine w_lenL ?_ | with_reducible refine w_lenT ?_ | with_reducible refine w_abs ?_ | with_reducible refine w_int ?_ | with_reducible refine w_intB ?_ | with_reducible refine w_gcd ?_
  | with_reducible refine w_gname ?_ | with_reducible refine w_gnil ?_ | with_reducible refine w_gcons ?_
  | with_reducible refine w_true ?_ | with_reducible refine w_false ?_
  | dsimp only [truthD, seqD, isNonD, permL, List.filterMap] | with_reducible refine w_drop ?_ | with_reducible refine w_retN ?_ | with_reducible refine w_nilP ?_ | with_reducible refine w_consP ?_ | with_reducible refine w_rng ?_ | with_reducible refine w_cont ?_ | with_reducible refine w_brk ?_)
local macro_rules | `(tactic| walk_at "z") => `(tactic| repeat walk_at "z1")
open PySem L2 PySem.Spec PyProof.Rows

/-! ### list + list -/
def rCatL (K : PySem.W.Frag) : R2 := fun x y H Q => ∃ l b xs zs, x = .ref l ∧ y = .ref b ∧ SqL K H l xs ∧ SqL K H b zs ∧ xs.length + zs.length ≤ sizeLine ∧ ∀ p, H p = none → Q (.ref p) (upd H p (.lst (xs ++ zs)))
theorem op_catL {X : Cx} : OpR X (binaryOp .Add) (rCatL X.K) := by
  intro pins s σ H x y v u Q I rx ry h
  obtain ⟨l, b, xs, zs, rfl, rfl, hH, hB, hz, q⟩ := h
  cases rx
  cases ry
  obtain ⟨its, r, ⟨⟨cls, dd, data, sl⟩, n, ho, hc, _, hd⟩, _⟩ := I.list hH
  obtain ⟨its2, r2, ⟨⟨cls2, dd2, data2, sl2⟩, n2, ho2, hc2, _, hd2⟩, _⟩ := I.list hB
  simp only at hc hd hc2 hd2
  subst hc hd hc2 hd2
  have hl := r.length
  have hl2 := r2.length
  refine concat_meets ⟨_, ho, rfl⟩ ⟨_, ho2, rfl⟩ noFill_list_add seq_list_add PySem.F.slot_list_add PySem.F.entry_list_add (PySem.F.args_list_add_2 _ _) (list_addW l b its.toArray its2.toArray n n2 dd dd2 sl sl2 (by rw [List.size_toArray, List.size_toArray]; omega)) ⟨ho, ho2, ?_⟩
  have ea : its.toArray ++ its2.toArray = (its ++ its2).toArray := by simp
  rw [ea]
  exact ⟨.ref _, _, I.lnew (t' := s.toks) (r.append r2) (by rw [List.length_append]; omega), rfl, q _ I.fresh⟩
def rdCatL : R2D := fun d e M F => match d, e with
  | .lst xs, .lst ys => decide (xs.length + ys.length ≤ 16777216) = true ∧ F (.lst (xs ++ ys)) M
  | _, _ => False
theorem simCatL {K : PySem.W.Frag} : SimOp K (rCatL K) rdCatL := fun x y d e H M F Q rx ry mu h k => by
  unfold rdCatL at h
  split at h
  · cases rx with
    | lst rr rs =>
      cases ry with
      | lst rr2 rs2 =>
        refine ⟨_, _, _, _, rfl, rfl, rr.sq, rr2.sq, by rw [rs.length, rs2.length]; exact szl h.1, fun p hp => ?_⟩
        exact k _ _ _ _ (good_new hp) (mut_new mu hp) (.lst (.inl ⟨mut_none mu hp, .inl upd_same⟩) ((rs.append rs2).good (good_new hp))) h.2
  · exact h.elim
theorem w_catL {xs ys : List D} {M : MH} {Q : QD} (h1 : xs.length + ys.length ≤ 16777216) (h : Q (.lst (xs ++ ys)) M) : rdCatL (.lst xs) (.lst ys) M Q := ⟨decide_eq_true h1, h⟩
section
variable {X : Cx} {a b e : Expr} {ta tb te : TED} {pos p p2 : Pos}
theorem pd_cat (ha : PD X a ta) (hb : PD X b tb) : PD X (.BinOp a .Add b pos) (tOpD rdCatL ta tb) := pd_op (fun _ _ => op_catL) simCatL ha hb

/-! ### enumerate of a list -/
def numL : Nat → List D → List D
  | _, [] => []
  | n, x :: r => .tup [.int (n : Int), x] :: numL (n + 1) r
theorem numL_len : ∀ (n : Nat) (xs : List D), (numL n xs).length = xs.length
  | _, [] => rfl
  | n, x :: r => by simp [numL, numL_len (n + 1) r]
theorem numL_get : ∀ (n : Nat) (xs : List D) (i : Nat) (d : D), (numL n xs)[i]? = some d → ∃ x, xs[i]? = some x ∧ d = .tup [.int ((n + i : Nat) : Int), x]
  | _, [], _, _, e => by simp [numL] at e
  | n, x :: r, 0, d, e => by simp [numL] at e; exact ⟨x, rfl, e.symm⟩
  | n, x :: r, i + 1, d, e => by
    obtain ⟨y, h1, h2⟩ := numL_get (n + 1) r i d (by simpa [numL] using e)
    exact ⟨y, by simpa using h1, by rw [h2]; congr 4; omega⟩
def iEnumD (te : TED) : TAD := fun W τ M Q => te W τ M fun d M1 => match d with | .lst xs => Q (numL 0 xs) M1 | _ => False
theorem pdi_enum {tpos : Pos} {elts : List Expr} {kk : Nat} (hm : X.mg "enumerate" = none) (ha : PD X e te) (hg : Gl X "enumerate" := by rfl) (hs : starEach [e] X.env = [(false, eval e X.env)] := by rfl) :
    PDI X (.Tuple elts kk tpos) (.Call (.Name "enumerate" p) [e] [] pos) (iEnumD te) := fun pn xe H0 M0 W at_ =>
  imI (pi_enum (X := X.tr pn xe) hg hm (pa_cons (X := X.tr pn xe) (ha pn xe H0 M0 W at_) pa_nil hs) hs) fun σ H R ⟨τ, M, F, g0, sl, mu, h, k⟩ => upE_fin g0 sl mu h fun v H1 d M1 g1 mu1 r1 q => by
    cases r1 with
    | lst rr rs =>
      refine ⟨_, _, rfl, rr.sq, k _ H1 _ M1 g1 mu1 (fun H2 M2 g2 mu2 => ⟨fun i d hd => ?_, ⟨_, (rr.good g2).sq, by rw [numL_len]; exact Nat.le_of_eq rs.length⟩⟩) q⟩
      obtain ⟨x, hx, rfl⟩ := numL_get _ _ _ _ hd
      obtain ⟨v, hv, rv⟩ := (rs.good g2).get hx
      refine ⟨⟨_, v, (rr.good g2).sq, hv⟩, fun y H3 ⟨T, w, e1, hT, e3, hw⟩ => ?_⟩
      have := hw _ (rr.good g2).sq
      rw [hv] at this
      cases this
      subst e1 e3
      rw [Nat.zero_add]
      exact ⟨good_new hT, mut_new mu2 hT, .tup (.inl ⟨mut_none mu2 hT, .inl upd_same⟩) (.cons (.int _) (.cons (rv.good (good_new hT)) .nil))⟩
    | _ => exact q.elim
theorem w_enum {W : WD} {τ : EnvD} {M : MH} {QA : List D → MH → Prop} (h : te W τ M fun d M1 => match d with | .lst xs => QA (numL 0 xs) M1 | _ => False) : iEnumD te W τ M QA := h

/-! ### own errors: asked, caught, their fields -/
def subX (all : List Addr) (L D : Addr) : Addr → Option Bool := fun C => if C ∈ all then some (decide (C = D) || decide (D = L)) else none
theorem subX_in {all : List Addr} {L D C : Addr} (h : C ∈ all) : subX all L D C = some (decide (C = D) || decide (D = L)) := if_pos h
def subV (all : List Addr) : Addr → Option Bool := fun C => if C ∈ all then some true else none
theorem subV_in {all : List Addr} {C : Addr} (h : C ∈ all) : subV all C = some true := if_pos h
theorem pd_isX {x : Str} {all : List Addr} {L D : Addr} {fl : List Str} (hx : ∀ C ∈ all, ExG X.K L C fl) (hD : D ∈ all) (hi : X.mg "isinstance" = none) (hm : X.mg x = some (.ref D)) (ha : PD X a ta) (hg : Gl X x := by rfl) (hd : (x == ("__debug__" : Str)) = false := by decide)
    (hg2 : Gl X "isinstance" := by rfl) (he : starEach [a, .Name x p] X.env = (false, eval a X.env) :: starEach [.Name x p] X.env := by rfl) (he2 : starEach [.Name x p] X.env = [(false, eval (.Name x p) X.env)] := by rfl) (hpl : (backTo pos (starEach [.Name x p] X.env)).any (·.1) = false := by rfl) :
    PD X (.Call (.Name "isinstance" p2) [a, .Name x p] [] pos) (tIs (isE (subX all L D)) ta) :=
  pd_isE (cn := x) (cv := .ref D) hi ha (fun pn xe => ⟨.ref D, fun u r => r, pe_glob (X := X.tr pn xe) hg hm rfl hd⟩)
    (fun C b e => by
      unfold subX at e
      split at e
      · rename_i hC
        cases e
        exact ⟨(hx C hC).k, exg_kit (hx C hC) (hx D hD)⟩
      · cases e) hg2 he he2 hpl
theorem pd_isV {all : List Addr} {L : Addr} {fl : List Str} (hx : ∀ C ∈ all, ExG X.K L C fl) (hi : X.mg "isinstance" = none) (hm : X.mg "ValueError" = none) (ha : PD X a ta) (hg : Gl X "ValueError" := by rfl)
    (hg2 : Gl X "isinstance" := by rfl) (he : starEach [a, .Name "ValueError" p] X.env = (false, eval a X.env) :: starEach [.Name "ValueError" p] X.env := by rfl) (he2 : starEach [.Name "ValueError" p] X.env = [(false, eval (.Name "ValueError" p) X.env)] := by rfl) (hpl : (backTo pos (starEach [.Name "ValueError" p] X.env)).any (·.1) = false := by rfl) :
    PD X (.Call (.Name "isinstance" p2) [a, .Name "ValueError" p] [] pos) (tIs (isE (subV all)) ta) :=
  pd_isE (cn := "ValueError") (cv := .type "ValueError") hi ha (fun pn xe => ⟨.ty "ValueError", fun u r => r, pe_tag hm (by decide +kernel) hg (by decide) (by decide) pn xe⟩)
    (fun C b e => by
      unfold subV at e
      split at e
      · rename_i hC
        cases e
        exact ⟨(hx C hC).k, exg_ve (hx C hC)⟩
      · cases e) hg2 he he2 hpl
def tFldA (all : List Addr) (f : Str) (t : TED) : TED := fun W τ M Q => t W τ M fun d M1 => match d with | .exn C fs => C ∈ all ∧ (match fs.lookup f with | some x => Q x M1 | none => False) | _ => False
theorem pd_fldA {f : Str} {all : List Addr} {L : Addr} {fl : List Str} (hx : ∀ C ∈ all, ExG X.K L C fl) (hf : f ∈ fl) (ha : PD X a ta) (hb : attributeBase a f X.env (eval a X.env) = eval a X.env := by rfl) : PD X (.Attribute a f pos) (tFldA all f ta) :=
  pd_fldX (fun C => C ∈ all) ha (fun _ _ _ => trivial) (fun C h => ⟨(hx C h).k, (hx C h).nf f hf⟩) hb
theorem w_fldA {all : List Addr} {f : Str} {W : WD} {τ : EnvD} {M : MH} {Q : QD} (h : te W τ M fun d M1 => match d with | .exn C fs => C ∈ all ∧ (match fs.lookup f with | some x => Q x M1 | none => False) | _ => False) : tFldA all f te W τ M Q := h
theorem w_raise {C : Addr} {fl : List D → List (Str × D)} {tr : TAD} {W : WD} {F : EndsD} {τ : EnvD} {M : MH} (h : tr W τ M fun ds M1 => W C (fl ds) τ M1) : tRaiseD C fl tr W F τ M := h
theorem w_tryK {ex : Addr → Option Bool} {i j : Nat} {tb : TSD} {W : WD} {F : EndsD} {τ : EnvD} {M : MH} (h : tb (fun C fs τ' M' => ∃ b, ex C = some b ∧ (b = true → i < τ'.length ∧ F.nx (setN (setN τ' j (some (.exn C fs))) i none) M') ∧ (b = false → W C fs τ' M')) F τ M) : tTryK ex i j tb W F τ M := h
theorem try_in {all : List Addr} {C : Addr} {P R : Prop} (h1 : C ∈ all) (h : P) : ∃ b, subV all C = some b ∧ (b = true → P) ∧ (b = false → R) := ⟨true, subV_in h1, fun _ => h, fun z => nomatch z⟩
theorem exm_all {K : PySem.W.Frag} {all : List Addr} {L : Addr} {fl : List Str} (hx : ∀ C ∈ all, ExG K L C fl) (h1 : PySem.W.subIn K (.ref L) (.type "BaseException") = some true) (hd : PySem.W.hasDictIn K L = true) (ht : PySem.W.typeIn K (.ref L) = some (.type "type")) :
    ∀ C b, subV all C = some b → PySem.W.exmOne K (.ref C) (.ref L) = some b := fun C b e => by
  unfold subV at e
  split at e
  · rename_i hC
    cases e
    exact exg_exm (hx C hC) h1 hd ht
  · cases e
end

/-! ### what an own __init__ does -/
theorem ost1 {K : PySem.W.Frag} {C : Addr} {f p : Str} {N : List Str} {vs : List V} {H : Hp} {Q : VK} {E : XK} (hN : N.length = 2) (T : ExK K C) (nf : PySem.W.findIn K (.ref C) f = some none) (h : spI1 C f vs H Q E) :
    tOst K f (tVar 0) (tVar 1) { nx := fun _ H' => Q .non H', rt := Q } (L2.start N vs) H := by
  obtain ⟨a, v, rfl, e, k⟩ := h
  have es : L2.start N [.ref a, v] = [some (.ref a), some v] := by unfold L2.start; rw [hN]; rfl
  rw [es]
  exact ⟨v, rfl, .ref a, rfl, a, C, rfl, T.o, nf, .inl ⟨e, k⟩⟩
theorem ost2 {K : PySem.W.Frag} {C : Addr} {f g p : Str} {N : List Str} {vs : List V} {H : Hp} {Q : VK} {E : XK} (hN : N.length = 3) (T : ExK K C) (nf : PySem.W.findIn K (.ref C) f = some none) (ng : PySem.W.findIn K (.ref C) g = some none) (h : spI2 C f g vs H Q E) :
    tSeq (tOst K f (tVar 0) (tVar 1)) (tOst K g (tVar 0) (tVar 2)) { nx := fun _ H' => Q .non H', rt := Q } (L2.start N vs) H := by
  obtain ⟨a, v, w, rfl, e, k⟩ := h
  have es : L2.start N [.ref a, v, w] = [some (.ref a), some v, some w] := by unfold L2.start; rw [hN]; rfl
  rw [es]
  refine ⟨v, rfl, .ref a, rfl, a, C, rfl, T.o, nf, .inl ⟨e, fun dx hdx ne => ?_⟩⟩
  refine ⟨w, rfl, .ref a, rfl, a, C, rfl, T.o, ng, .inr ⟨dx, [(f, v)], upd_same, by rw [upd_ne ne]; exact upd_same, by show 1 ≤ 900; decide, ?_⟩⟩
  exact k dx hdx ne
end Z

set_option Elab.async false
set_option linter.all false
set_option maxRecDepth 100000
set_option maxHeartbeats 4000000
namespace Z
local macro_rules | `(tactic| walk_at "z at") => `(tactic| first | rfl | (simp only [atI, ixN, List.length_cons, List.length_nil, List.length_map]; rfl) | assumption)
local macro_rules | `(tactic| walk_at "z1") => `(tactic| first
  | with_reducible refine w_seq ?_ | with_reducible refine w_set ?_ | with_reducible refine w_ret ?_ | with_reducible refine w_if ?_ | with_reducible refine w_asg ?_ | with_reducible refine w_next ?_ | with_reducible refine w_setIx ?_ | with_reducible refine w_par ?_
  | ((with_reducible refine' w_var ?h ?_); (case h => exact rfl))
  | with_reducible refine w_c ?_ | with_reducible refine w_op ?_ | with_reducible refine w_un ?_ | with_reducible refine w_cons ?_ | with_reducible refine w_nil ?_ | with_reducible refine w_cb ?_
  | with_reducible refine w_call ?_ | with_reducible refine w_callK ?_ | with_reducible refine w_testB ?_ | with_reducible refine w_tru ?_ | with_reducible refine w_andD ?_ | with_reducible refine w_orD ?_ | with_reducible refine w_notD ?_
  | with_reducible refine w_andE ?_ | with_reducible refine w_orE ?_ | with_reducible refine w_notE ?_ | with_reducible refine w_ifE ?_ | with_reducible refine w_is ?_ | with_reducible refine w_isN ?_ | with_reducible refine w_notN ?_ | with_reducible refine w_tupOf ?_
  | with_reducible refine w_tup ?_ | with_reducible refine w_lst ?_ | with_reducible refine w_lstM ?_ | with_reducible refine w_sl ?_ | with_reducible refine w_part ?_ | with_reducible refine w_noPart ?_ | with_reducible refine w_repr ?_ | with_reducible refine w_seqI ?_
  | with_reducible refine w_rdI ?_ | with_reducible refine w_rdB ?_ | with_reducible refine w_rdAdd ?_ | with_reducible refine w_neg ?_ | with_reducible refine w_lenL ?_ | with_reducible refine w_lenT ?_ | with_reducible refine w_abs ?_ | with_reducible refine w_int ?_ | with_reducible refine w_intB ?_ | with_reducible refine w_gcd ?_
  | with_reducible refine w_gname ?_ | with_reducible refine w_gnil ?_ | with_reducible refine w_gcons ?_
  | with_reducible refine w_true ?_ | with_reducible refine w_false ?_
  | dsimp only [truthD, seqD, isNonD, permL, List.filterMap] | with_reducible refine w_drop ?_ | with_reducible refine w_retN ?_ | with_reducible refine w_nilP ?_ | with_reducible refine w_consP ?_ | with_reducible refine w_rng ?_ | with_reducible refine w_cont ?_ | with_reducible refine w_brk ?_)
local macro_rules | `(tactic| walk_at "z") => `(tactic| repeat walk_at "z1")
open PySem L2
def topS (i : Nat) : Stmt := PySem.Challenge.pw_lanecross_k00_errors_and_their_fields.main.body.getD i (.Pass ⟨0, 0, 0, 0⟩)
abbrev s__law_nut : Stmt := topS 20
abbrev s__law_crack : Stmt := topS 21
abbrev s__law_pick : Stmt := topS 22
abbrev s__law_value : Stmt := topS 23
abbrev s__law_first : Stmt := topS 24
abbrev s__law_named : Stmt := topS 25
abbrev s__law_last : Stmt := topS 26
abbrev s__law_kinds : Stmt := topS 27
abbrev s__law_fields : Stmt := topS 28
abbrev s__law_raises : Stmt := topS 29
abbrev s__law_right : Stmt := topS 30
abbrev s_law : Stmt := topS 31
theorem sc__law_nut : FnScope ["_law_script", "_law_cell"] ["_law_script"] (defScope s__law_nut) := ⟨rfl, rfl, rfl, by decide +kernel, rfl, by decide +kernel, by decide +kernel⟩
theorem sc__law_crack : FnScope ["_law_nut_here", "_law_many", "_law_left", "_law_turn", "_law_cell", "_law_mixed"] ["_law_nut_here", "_law_many"] (defScope s__law_crack) := ⟨rfl, rfl, rfl, by decide +kernel, rfl, by decide +kernel, by decide +kernel⟩
theorem sc__law_pick : FnScope ["_law_nut_here", "_law_some"] ["_law_nut_here", "_law_some"] (defScope s__law_pick) := ⟨rfl, rfl, rfl, by decide +kernel, rfl, by decide +kernel, by decide +kernel⟩
theorem sc__law_value : FnScope ["_law_nut_here"] ["_law_nut_here"] (defScope s__law_value) := ⟨rfl, rfl, rfl, by decide +kernel, rfl, by decide +kernel, by decide +kernel⟩
theorem sc__law_first : FnScope ["_law_at", "_law_one"] ["_law_at", "_law_one"] (defScope s__law_first) := ⟨rfl, rfl, rfl, by decide +kernel, rfl, by decide +kernel, by decide +kernel⟩
theorem sc__law_named : FnScope ["_law_at", "_law_one"] ["_law_at", "_law_one"] (defScope s__law_named) := ⟨rfl, rfl, rfl, by decide +kernel, rfl, by decide +kernel, by decide +kernel⟩
theorem sc__law_last : FnScope ["_law_at", "_law_one", "_law_other", "_law_by_name"] ["_law_at", "_law_one", "_law_other", "_law_by_name"] (defScope s__law_last) := ⟨rfl, rfl, rfl, by decide +kernel, rfl, by decide +kernel, by decide +kernel⟩
theorem sc__law_kinds : FnScope ["_law_error", "_law_first_here", "_law_at", "_law_is_kind"] ["_law_error"] (defScope s__law_kinds) := ⟨rfl, rfl, rfl, by decide +kernel, rfl, by decide +kernel, by decide +kernel⟩
theorem sc__law_fields : FnScope ["_law_at", "_law_error"] ["_law_at", "_law_error"] (defScope s__law_fields) := ⟨rfl, rfl, rfl, by decide +kernel, rfl, by decide +kernel, by decide +kernel⟩
theorem sc__law_raises : FnScope ["_law_at", "_law_one", "_law_other", "_law_by_name"] ["_law_at", "_law_one", "_law_other", "_law_by_name"] (defScope s__law_raises) := ⟨rfl, rfl, rfl, by decide +kernel, rfl, by decide +kernel, by decide +kernel⟩
theorem sc__law_right : FnScope ["_law_at", "_law_one", "_law_other", "_law_by_name", "_law_caught", "_law_error", "_law_due"] ["_law_at", "_law_one", "_law_other", "_law_by_name"] (defScope s__law_right) := ⟨rfl, rfl, rfl, by decide +kernel, rfl, by decide +kernel, by decide +kernel⟩
theorem sc_law : FnScope ["_law_script", "_law_nut_here", "_law_at", "_law_one", "_law_other"] ["_law_script"] (defScope s_law) := ⟨rfl, rfl, rfl, by decide +kernel, rfl, by decide +kernel, by decide +kernel⟩
abbrev s_LaneError : Stmt := topS 1
abbrev s_BadNumber : Stmt := topS 2
abbrev si_BadNumber : Stmt := inClass s_BadNumber 0
theorem sci_BadNumber : FnScope ["self", "part"] ["self", "part"] (defScope si_BadNumber) := ⟨rfl, rfl, rfl, by decide +kernel, rfl, by decide +kernel, by decide +kernel⟩
abbrev s_BadSpot : Stmt := topS 3
abbrev si_BadSpot : Stmt := inClass s_BadSpot 0
theorem sci_BadSpot : FnScope ["self", "part"] ["self", "part"] (defScope si_BadSpot) := ⟨rfl, rfl, rfl, by decide +kernel, rfl, by decide +kernel, by decide +kernel⟩
abbrev s_BadPiece : Stmt := topS 4
abbrev si_BadPiece : Stmt := inClass s_BadPiece 0
theorem sci_BadPiece : FnScope ["self", "part"] ["self", "part"] (defScope si_BadPiece) := ⟨rfl, rfl, rfl, by decide +kernel, rfl, by decide +kernel, by decide +kernel⟩
abbrev s_BadFront : Stmt := topS 5
abbrev si_BadFront : Stmt := inClass s_BadFront 0
theorem sci_BadFront : FnScope ["self", "part"] ["self", "part"] (defScope si_BadFront) := ⟨rfl, rfl, rfl, by decide +kernel, rfl, by decide +kernel, by decide +kernel⟩
abbrev s_BadWorld : Stmt := topS 6
abbrev si_BadWorld : Stmt := inClass s_BadWorld 0
theorem sci_BadWorld : FnScope ["self", "part"] ["self", "part"] (defScope si_BadWorld) := ⟨rfl, rfl, rfl, by decide +kernel, rfl, by decide +kernel, by decide +kernel⟩
abbrev s_BadLevel : Stmt := topS 7
abbrev si_BadLevel : Stmt := inClass s_BadLevel 0
theorem sci_BadLevel : FnScope ["self", "part"] ["self", "part"] (defScope si_BadLevel) := ⟨rfl, rfl, rfl, by decide +kernel, rfl, by decide +kernel, by decide +kernel⟩
abbrev s_BadPlay : Stmt := topS 8
abbrev si_BadPlay : Stmt := inClass s_BadPlay 0
theorem sci_BadPlay : FnScope ["self", "part"] ["self", "part"] (defScope si_BadPlay) := ⟨rfl, rfl, rfl, by decide +kernel, rfl, by decide +kernel, by decide +kernel⟩
abbrev s_BadPaper : Stmt := topS 9
abbrev si_BadPaper : Stmt := inClass s_BadPaper 0
theorem sci_BadPaper : FnScope ["self", "part"] ["self", "part"] (defScope si_BadPaper) := ⟨rfl, rfl, rfl, by decide +kernel, rfl, by decide +kernel, by decide +kernel⟩
abbrev s_Misfit : Stmt := topS 10
abbrev si_Misfit : Stmt := inClass s_Misfit 0
theorem sci_Misfit : FnScope ["self", "part"] ["self", "part"] (defScope si_Misfit) := ⟨rfl, rfl, rfl, by decide +kernel, rfl, by decide +kernel, by decide +kernel⟩
abbrev s_NoName : Stmt := topS 11
abbrev si_NoName : Stmt := inClass s_NoName 0
theorem sci_NoName : FnScope ["self", "value"] ["self", "value"] (defScope si_NoName) := ⟨rfl, rfl, rfl, by decide +kernel, rfl, by decide +kernel, by decide +kernel⟩
abbrev s_NoPiece : Stmt := topS 12
abbrev si_NoPiece : Stmt := inClass s_NoPiece 0
theorem sci_NoPiece : FnScope ["self", "value"] ["self", "value"] (defScope si_NoPiece) := ⟨rfl, rfl, rfl, by decide +kernel, rfl, by decide +kernel, by decide +kernel⟩
abbrev s_Twice : Stmt := topS 13
abbrev si_Twice : Stmt := inClass s_Twice 0
theorem sci_Twice : FnScope ["self", "value"] ["self", "value"] (defScope si_Twice) := ⟨rfl, rfl, rfl, by decide +kernel, rfl, by decide +kernel, by decide +kernel⟩
abbrev s_TooMany : Stmt := topS 14
abbrev si_TooMany : Stmt := inClass s_TooMany 0
theorem sci_TooMany : FnScope ["self", "what", "most"] ["self", "what", "most"] (defScope si_TooMany) := ⟨rfl, rfl, rfl, by decide +kernel, rfl, by decide +kernel, by decide +kernel⟩
abbrev s_Refused : Stmt := topS 15
abbrev si_Refused : Stmt := inClass s_Refused 0
theorem sci_Refused : FnScope ["self", "why"] ["self", "why"] (defScope si_Refused) := ⟨rfl, rfl, rfl, by decide +kernel, rfl, by decide +kernel, by decide +kernel⟩
abbrev s_Nothing : Stmt := topS 16
abbrev s_BadText : Stmt := topS 17
abbrev si_BadText : Stmt := inClass s_BadText 0
theorem sci_BadText : FnScope ["self", "line", "item"] ["self", "line", "item"] (defScope si_BadText) := ⟨rfl, rfl, rfl, by decide +kernel, rfl, by decide +kernel, by decide +kernel⟩
abbrev s_BadLine : Stmt := topS 18
abbrev si_BadLine : Stmt := inClass s_BadLine 0
theorem sci_BadLine : FnScope ["self", "line", "error"] ["self", "line", "error"] (defScope si_BadLine) := ⟨rfl, rfl, rfl, by decide +kernel, rfl, by decide +kernel, by decide +kernel⟩
structure Ad where
  c_LaneError : Addr
  c_BadNumber : Addr
  c_BadSpot : Addr
  c_BadPiece : Addr
  c_BadFront : Addr
  c_BadWorld : Addr
  c_BadLevel : Addr
  c_BadPlay : Addr
  c_BadPaper : Addr
  c_Misfit : Addr
  c_NoName : Addr
  c_NoPiece : Addr
  c_Twice : Addr
  c_TooMany : Addr
  c_Refused : Addr
  c_Nothing : Addr
  c_BadText : Addr
  c_BadLine : Addr
def Ad.all (AA : Ad) : List Addr := [AA.c_BadNumber, AA.c_BadSpot, AA.c_BadPiece, AA.c_BadFront, AA.c_BadWorld, AA.c_BadLevel, AA.c_BadPlay, AA.c_BadPaper, AA.c_Misfit, AA.c_NoName, AA.c_NoPiece, AA.c_Twice, AA.c_Refused, AA.c_TooMany, AA.c_BadText, AA.c_BadLine, AA.c_Nothing]
def FL : List Str := ["part", "value", "what", "most", "why", "line", "item", "error"]
theorem in_BadNumber (AA : Ad) : AA.c_BadNumber ∈ AA.all := by simp [Ad.all]
theorem in_BadSpot (AA : Ad) : AA.c_BadSpot ∈ AA.all := by simp [Ad.all]
theorem in_BadPiece (AA : Ad) : AA.c_BadPiece ∈ AA.all := by simp [Ad.all]
theorem in_BadFront (AA : Ad) : AA.c_BadFront ∈ AA.all := by simp [Ad.all]
theorem in_BadWorld (AA : Ad) : AA.c_BadWorld ∈ AA.all := by simp [Ad.all]
theorem in_BadLevel (AA : Ad) : AA.c_BadLevel ∈ AA.all := by simp [Ad.all]
theorem in_BadPlay (AA : Ad) : AA.c_BadPlay ∈ AA.all := by simp [Ad.all]
theorem in_BadPaper (AA : Ad) : AA.c_BadPaper ∈ AA.all := by simp [Ad.all]
theorem in_Misfit (AA : Ad) : AA.c_Misfit ∈ AA.all := by simp [Ad.all]
theorem in_NoName (AA : Ad) : AA.c_NoName ∈ AA.all := by simp [Ad.all]
theorem in_NoPiece (AA : Ad) : AA.c_NoPiece ∈ AA.all := by simp [Ad.all]
theorem in_Twice (AA : Ad) : AA.c_Twice ∈ AA.all := by simp [Ad.all]
theorem in_Refused (AA : Ad) : AA.c_Refused ∈ AA.all := by simp [Ad.all]
theorem in_TooMany (AA : Ad) : AA.c_TooMany ∈ AA.all := by simp [Ad.all]
theorem in_BadText (AA : Ad) : AA.c_BadText ∈ AA.all := by simp [Ad.all]
theorem in_BadLine (AA : Ad) : AA.c_BadLine ∈ AA.all := by simp [Ad.all]
theorem in_Nothing (AA : Ad) : AA.c_Nothing ∈ AA.all := by simp [Ad.all]
structure Txt (K : PySem.W.Frag) (mg : Str → Option Value) (AA : Ad) where
  gc_LaneError : mg "LaneError" = some (.ref AA.c_LaneError)
  b_LaneError : PySem.W.subIn K (.ref AA.c_LaneError) (.type "BaseException") = some true
  h_LaneError : PySem.W.hasDictIn K AA.c_LaneError = true
  t_LaneError : PySem.W.typeIn K (.ref AA.c_LaneError) = some (.type "type")
  gc_BadNumber : mg "BadNumber" = some (.ref AA.c_BadNumber)
  x_BadNumber : ExG K AA.c_LaneError AA.c_BadNumber FL
  i_BadNumber : Addr
  e_BadNumber : FuncData
  F_BadNumber : Fun K "__init__" "BadNumber.__init__" si_BadNumber i_BadNumber e_BadNumber
  iC_BadNumber : PySem.W.findIn K (.ref AA.c_BadNumber) "__init__" = some (some (.ref i_BadNumber))
  tI_BadNumber : PySem.W.typeIn K (.ref i_BadNumber) = some (.type "function")
  gc_BadSpot : mg "BadSpot" = some (.ref AA.c_BadSpot)
  x_BadSpot : ExG K AA.c_LaneError AA.c_BadSpot FL
  i_BadSpot : Addr
  e_BadSpot : FuncData
  F_BadSpot : Fun K "__init__" "BadSpot.__init__" si_BadSpot i_BadSpot e_BadSpot
  iC_BadSpot : PySem.W.findIn K (.ref AA.c_BadSpot) "__init__" = some (some (.ref i_BadSpot))
  tI_BadSpot : PySem.W.typeIn K (.ref i_BadSpot) = some (.type "function")
  gc_BadPiece : mg "BadPiece" = some (.ref AA.c_BadPiece)
  x_BadPiece : ExG K AA.c_LaneError AA.c_BadPiece FL
  i_BadPiece : Addr
  e_BadPiece : FuncData
  F_BadPiece : Fun K "__init__" "BadPiece.__init__" si_BadPiece i_BadPiece e_BadPiece
  iC_BadPiece : PySem.W.findIn K (.ref AA.c_BadPiece) "__init__" = some (some (.ref i_BadPiece))
  tI_BadPiece : PySem.W.typeIn K (.ref i_BadPiece) = some (.type "function")
  gc_BadFront : mg "BadFront" = some (.ref AA.c_BadFront)
  x_BadFront : ExG K AA.c_LaneError AA.c_BadFront FL
  i_BadFront : Addr
  e_BadFront : FuncData
  F_BadFront : Fun K "__init__" "BadFront.__init__" si_BadFront i_BadFront e_BadFront
  iC_BadFront : PySem.W.findIn K (.ref AA.c_BadFront) "__init__" = some (some (.ref i_BadFront))
  tI_BadFront : PySem.W.typeIn K (.ref i_BadFront) = some (.type "function")
  gc_BadWorld : mg "BadWorld" = some (.ref AA.c_BadWorld)
  x_BadWorld : ExG K AA.c_LaneError AA.c_BadWorld FL
  i_BadWorld : Addr
  e_BadWorld : FuncData
  F_BadWorld : Fun K "__init__" "BadWorld.__init__" si_BadWorld i_BadWorld e_BadWorld
  iC_BadWorld : PySem.W.findIn K (.ref AA.c_BadWorld) "__init__" = some (some (.ref i_BadWorld))
  tI_BadWorld : PySem.W.typeIn K (.ref i_BadWorld) = some (.type "function")
  gc_BadLevel : mg "BadLevel" = some (.ref AA.c_BadLevel)
  x_BadLevel : ExG K AA.c_LaneError AA.c_BadLevel FL
  i_BadLevel : Addr
  e_BadLevel : FuncData
  F_BadLevel : Fun K "__init__" "BadLevel.__init__" si_BadLevel i_BadLevel e_BadLevel
  iC_BadLevel : PySem.W.findIn K (.ref AA.c_BadLevel) "__init__" = some (some (.ref i_BadLevel))
  tI_BadLevel : PySem.W.typeIn K (.ref i_BadLevel) = some (.type "function")
  gc_BadPlay : mg "BadPlay" = some (.ref AA.c_BadPlay)
  x_BadPlay : ExG K AA.c_LaneError AA.c_BadPlay FL
  i_BadPlay : Addr
  e_BadPlay : FuncData
  F_BadPlay : Fun K "__init__" "BadPlay.__init__" si_BadPlay i_BadPlay e_BadPlay
  iC_BadPlay : PySem.W.findIn K (.ref AA.c_BadPlay) "__init__" = some (some (.ref i_BadPlay))
  tI_BadPlay : PySem.W.typeIn K (.ref i_BadPlay) = some (.type "function")
  gc_BadPaper : mg "BadPaper" = some (.ref AA.c_BadPaper)
  x_BadPaper : ExG K AA.c_LaneError AA.c_BadPaper FL
  i_BadPaper : Addr
  e_BadPaper : FuncData
  F_BadPaper : Fun K "__init__" "BadPaper.__init__" si_BadPaper i_BadPaper e_BadPaper
  iC_BadPaper : PySem.W.findIn K (.ref AA.c_BadPaper) "__init__" = some (some (.ref i_BadPaper))
  tI_BadPaper : PySem.W.typeIn K (.ref i_BadPaper) = some (.type "function")
  gc_Misfit : mg "Misfit" = some (.ref AA.c_Misfit)
  x_Misfit : ExG K AA.c_LaneError AA.c_Misfit FL
  i_Misfit : Addr
  e_Misfit : FuncData
  F_Misfit : Fun K "__init__" "Misfit.__init__" si_Misfit i_Misfit e_Misfit
  iC_Misfit : PySem.W.findIn K (.ref AA.c_Misfit) "__init__" = some (some (.ref i_Misfit))
  tI_Misfit : PySem.W.typeIn K (.ref i_Misfit) = some (.type "function")
  gc_NoName : mg "NoName" = some (.ref AA.c_NoName)
  x_NoName : ExG K AA.c_LaneError AA.c_NoName FL
  i_NoName : Addr
  e_NoName : FuncData
  F_NoName : Fun K "__init__" "NoName.__init__" si_NoName i_NoName e_NoName
  iC_NoName : PySem.W.findIn K (.ref AA.c_NoName) "__init__" = some (some (.ref i_NoName))
  tI_NoName : PySem.W.typeIn K (.ref i_NoName) = some (.type "function")
  gc_NoPiece : mg "NoPiece" = some (.ref AA.c_NoPiece)
  x_NoPiece : ExG K AA.c_LaneError AA.c_NoPiece FL
  i_NoPiece : Addr
  e_NoPiece : FuncData
  F_NoPiece : Fun K "__init__" "NoPiece.__init__" si_NoPiece i_NoPiece e_NoPiece
  iC_NoPiece : PySem.W.findIn K (.ref AA.c_NoPiece) "__init__" = some (some (.ref i_NoPiece))
  tI_NoPiece : PySem.W.typeIn K (.ref i_NoPiece) = some (.type "function")
  gc_Twice : mg "Twice" = some (.ref AA.c_Twice)
  x_Twice : ExG K AA.c_LaneError AA.c_Twice FL
  i_Twice : Addr
  e_Twice : FuncData
  F_Twice : Fun K "__init__" "Twice.__init__" si_Twice i_Twice e_Twice
  iC_Twice : PySem.W.findIn K (.ref AA.c_Twice) "__init__" = some (some (.ref i_Twice))
  tI_Twice : PySem.W.typeIn K (.ref i_Twice) = some (.type "function")
  gc_TooMany : mg "TooMany" = some (.ref AA.c_TooMany)
  x_TooMany : ExG K AA.c_LaneError AA.c_TooMany FL
  i_TooMany : Addr
  e_TooMany : FuncData
  F_TooMany : Fun K "__init__" "TooMany.__init__" si_TooMany i_TooMany e_TooMany
  iC_TooMany : PySem.W.findIn K (.ref AA.c_TooMany) "__init__" = some (some (.ref i_TooMany))
  tI_TooMany : PySem.W.typeIn K (.ref i_TooMany) = some (.type "function")
  gc_Refused : mg "Refused" = some (.ref AA.c_Refused)
  x_Refused : ExG K AA.c_LaneError AA.c_Refused FL
  i_Refused : Addr
  e_Refused : FuncData
  F_Refused : Fun K "__init__" "Refused.__init__" si_Refused i_Refused e_Refused
  iC_Refused : PySem.W.findIn K (.ref AA.c_Refused) "__init__" = some (some (.ref i_Refused))
  tI_Refused : PySem.W.typeIn K (.ref i_Refused) = some (.type "function")
  gc_Nothing : mg "Nothing" = some (.ref AA.c_Nothing)
  x_Nothing : ExG K AA.c_LaneError AA.c_Nothing FL
  n0_Nothing : PySem.W.excIn K AA.c_Nothing [.type "ValueError", .type "Exception", .type "BaseException", .type "object"] "ValueError.__new__" = true
  gc_BadText : mg "BadText" = some (.ref AA.c_BadText)
  x_BadText : ExG K AA.c_LaneError AA.c_BadText FL
  i_BadText : Addr
  e_BadText : FuncData
  F_BadText : Fun K "__init__" "BadText.__init__" si_BadText i_BadText e_BadText
  iC_BadText : PySem.W.findIn K (.ref AA.c_BadText) "__init__" = some (some (.ref i_BadText))
  tI_BadText : PySem.W.typeIn K (.ref i_BadText) = some (.type "function")
  gc_BadLine : mg "BadLine" = some (.ref AA.c_BadLine)
  x_BadLine : ExG K AA.c_LaneError AA.c_BadLine FL
  i_BadLine : Addr
  e_BadLine : FuncData
  F_BadLine : Fun K "__init__" "BadLine.__init__" si_BadLine i_BadLine e_BadLine
  iC_BadLine : PySem.W.findIn K (.ref AA.c_BadLine) "__init__" = some (some (.ref i_BadLine))
  tI_BadLine : PySem.W.typeIn K (.ref i_BadLine) = some (.type "function")
  nd : (AA.c_LaneError :: AA.all).Nodup
  a__law_nut : Addr
  d__law_nut : FuncData
  F__law_nut : Fun K "_law_nut" "_law_nut" s__law_nut a__law_nut d__law_nut
  g__law_nut : mg "_law_nut" = some (.ref a__law_nut)
  a__law_crack : Addr
  d__law_crack : FuncData
  F__law_crack : Fun K "_law_crack" "_law_crack" s__law_crack a__law_crack d__law_crack
  g__law_crack : mg "_law_crack" = some (.ref a__law_crack)
  a__law_pick : Addr
  d__law_pick : FuncData
  F__law_pick : Fun K "_law_pick" "_law_pick" s__law_pick a__law_pick d__law_pick
  g__law_pick : mg "_law_pick" = some (.ref a__law_pick)
  a__law_value : Addr
  d__law_value : FuncData
  F__law_value : Fun K "_law_value" "_law_value" s__law_value a__law_value d__law_value
  g__law_value : mg "_law_value" = some (.ref a__law_value)
  a__law_first : Addr
  d__law_first : FuncData
  F__law_first : Fun K "_law_first" "_law_first" s__law_first a__law_first d__law_first
  g__law_first : mg "_law_first" = some (.ref a__law_first)
  a__law_named : Addr
  d__law_named : FuncData
  F__law_named : Fun K "_law_named" "_law_named" s__law_named a__law_named d__law_named
  g__law_named : mg "_law_named" = some (.ref a__law_named)
  a__law_last : Addr
  d__law_last : FuncData
  F__law_last : Fun K "_law_last" "_law_last" s__law_last a__law_last d__law_last
  g__law_last : mg "_law_last" = some (.ref a__law_last)
  a__law_kinds : Addr
  d__law_kinds : FuncData
  F__law_kinds : Fun K "_law_kinds" "_law_kinds" s__law_kinds a__law_kinds d__law_kinds
  g__law_kinds : mg "_law_kinds" = some (.ref a__law_kinds)
  a__law_fields : Addr
  d__law_fields : FuncData
  F__law_fields : Fun K "_law_fields" "_law_fields" s__law_fields a__law_fields d__law_fields
  g__law_fields : mg "_law_fields" = some (.ref a__law_fields)
  a__law_raises : Addr
  d__law_raises : FuncData
  F__law_raises : Fun K "_law_raises" "_law_raises" s__law_raises a__law_raises d__law_raises
  g__law_raises : mg "_law_raises" = some (.ref a__law_raises)
  a__law_right : Addr
  d__law_right : FuncData
  F__law_right : Fun K "_law_right" "_law_right" s__law_right a__law_right d__law_right
  g__law_right : mg "_law_right" = some (.ref a__law_right)
  a_law : Addr
  d_law : FuncData
  F_law : Fun K "law" "law" s_law a_law d_law
  g_law : mg "law" = some (.ref a_law)
  n_ValueError : mg "ValueError" = none
  n_abs : mg "abs" = none
  n_enumerate : mg "enumerate" = none
  n_int : mg "int" = none
  n_isinstance : mg "isinstance" = none
  n_len : mg "len" = none
  n_range : mg "range" = none
  n_repr : mg "repr" = none
section
variable {K : PySem.W.Frag} {mg : Str → Option Value} {AA : Ad}
theorem Txt.xs (T : Txt K mg AA) : ∀ C ∈ AA.all, ExG K AA.c_LaneError C FL := List.forall_mem_cons.mpr ⟨T.x_BadNumber, List.forall_mem_cons.mpr ⟨T.x_BadSpot, List.forall_mem_cons.mpr ⟨T.x_BadPiece, List.forall_mem_cons.mpr ⟨T.x_BadFront, List.forall_mem_cons.mpr ⟨T.x_BadWorld, List.forall_mem_cons.mpr ⟨T.x_BadLevel, List.forall_mem_cons.mpr ⟨T.x_BadPlay, List.forall_mem_cons.mpr ⟨T.x_BadPaper, List.forall_mem_cons.mpr ⟨T.x_Misfit, List.forall_mem_cons.mpr ⟨T.x_NoName, List.forall_mem_cons.mpr ⟨T.x_NoPiece, List.forall_mem_cons.mpr ⟨T.x_Twice, List.forall_mem_cons.mpr ⟨T.x_Refused, List.forall_mem_cons.mpr ⟨T.x_TooMany, List.forall_mem_cons.mpr ⟨T.x_BadText, List.forall_mem_cons.mpr ⟨T.x_BadLine, List.forall_mem_cons.mpr ⟨T.x_Nothing, fun _ h => absurd h List.not_mem_nil⟩⟩⟩⟩⟩⟩⟩⟩⟩⟩⟩⟩⟩⟩⟩⟩⟩
theorem bi_BadNumber (T : Txt K mg AA) : Binds K T.e_BadNumber ["self", "part"] [] := T.F_BadNumber.binds fun _ _ _ _ _ _ us hl => match us, hl with | [_, _], _ => rfl
theorem init_BadNumber {P : Program} {w : World} {base : Heap} (T : Txt K mg AA) : FnOk P w K mg base CX0 1 T.i_BadNumber T.e_BadNumber ["self", "part"] (spI1 AA.c_BadNumber "part") :=
  T.F_BadNumber.ok sci_BadNumber (fun _ _ _ _ ⟨_, _, h, _⟩ => by rw [h]; rfl) (fun cdv A outer s H vs Q E hr h => ⟨_, pss_one (ps_ost (pv 0) (pv 1) rfl), ost1 (p := "") rfl T.x_BadNumber.k (T.x_BadNumber.nf _ (by decide)) h⟩)
theorem bi_BadSpot (T : Txt K mg AA) : Binds K T.e_BadSpot ["self", "part"] [] := T.F_BadSpot.binds fun _ _ _ _ _ _ us hl => match us, hl with | [_, _], _ => rfl
theorem init_BadSpot {P : Program} {w : World} {base : Heap} (T : Txt K mg AA) : FnOk P w K mg base CX0 1 T.i_BadSpot T.e_BadSpot ["self", "part"] (spI1 AA.c_BadSpot "part") :=
  T.F_BadSpot.ok sci_BadSpot (fun _ _ _ _ ⟨_, _, h, _⟩ => by rw [h]; rfl) (fun cdv A outer s H vs Q E hr h => ⟨_, pss_one (ps_ost (pv 0) (pv 1) rfl), ost1 (p := "") rfl T.x_BadSpot.k (T.x_BadSpot.nf _ (by decide)) h⟩)
theorem bi_BadPiece (T : Txt K mg AA) : Binds K T.e_BadPiece ["self", "part"] [] := T.F_BadPiece.binds fun _ _ _ _ _ _ us hl => match us, hl with | [_, _], _ => rfl
theorem init_BadPiece {P : Program} {w : World} {base : Heap} (T : Txt K mg AA) : FnOk P w K mg base CX0 1 T.i_BadPiece T.e_BadPiece ["self", "part"] (spI1 AA.c_BadPiece "part") :=
  T.F_BadPiece.ok sci_BadPiece (fun _ _ _ _ ⟨_, _, h, _⟩ => by rw [h]; rfl) (fun cdv A outer s H vs Q E hr h => ⟨_, pss_one (ps_ost (pv 0) (pv 1) rfl), ost1 (p := "") rfl T.x_BadPiece.k (T.x_BadPiece.nf _ (by decide)) h⟩)
theorem bi_BadFront (T : Txt K mg AA) : Binds K T.e_BadFront ["self", "part"] [] := T.F_BadFront.binds fun _ _ _ _ _ _ us hl => match us, hl with | [_, _], _ => rfl
theorem init_BadFront {P : Program} {w : World} {base : Heap} (T : Txt K mg AA) : FnOk P w K mg base CX0 1 T.i_BadFront T.e_BadFront ["self", "part"] (spI1 AA.c_BadFront "part") :=
  T.F_BadFront.ok sci_BadFront (fun _ _ _ _ ⟨_, _, h, _⟩ => by rw [h]; rfl) (fun cdv A outer s H vs Q E hr h => ⟨_, pss_one (ps_ost (pv 0) (pv 1) rfl), ost1 (p := "") rfl T.x_BadFront.k (T.x_BadFront.nf _ (by decide)) h⟩)
theorem bi_BadWorld (T : Txt K mg AA) : Binds K T.e_BadWorld ["self", "part"] [] := T.F_BadWorld.binds fun _ _ _ _ _ _ us hl => match us, hl with | [_, _], _ => rfl
theorem init_BadWorld {P : Program} {w : World} {base : Heap} (T : Txt K mg AA) : FnOk P w K mg base CX0 1 T.i_BadWorld T.e_BadWorld ["self", "part"] (spI1 AA.c_BadWorld "part") :=
  T.F_BadWorld.ok sci_BadWorld (fun _ _ _ _ ⟨_, _, h, _⟩ => by rw [h]; rfl) (fun cdv A outer s H vs Q E hr h => ⟨_, pss_one (ps_ost (pv 0) (pv 1) rfl), ost1 (p := "") rfl T.x_BadWorld.k (T.x_BadWorld.nf _ (by decide)) h⟩)
theorem bi_BadLevel (T : Txt K mg AA) : Binds K T.e_BadLevel ["self", "part"] [] := T.F_BadLevel.binds fun _ _ _ _ _ _ us hl => match us, hl with | [_, _], _ => rfl
theorem init_BadLevel {P : Program} {w : World} {base : Heap} (T : Txt K mg AA) : FnOk P w K mg base CX0 1 T.i_BadLevel T.e_BadLevel ["self", "part"] (spI1 AA.c_BadLevel "part") :=
  T.F_BadLevel.ok sci_BadLevel (fun _ _ _ _ ⟨_, _, h, _⟩ => by rw [h]; rfl) (fun cdv A outer s H vs Q E hr h => ⟨_, pss_one (ps_ost (pv 0) (pv 1) rfl), ost1 (p := "") rfl T.x_BadLevel.k (T.x_BadLevel.nf _ (by decide)) h⟩)
theorem bi_BadPlay (T : Txt K mg AA) : Binds K T.e_BadPlay ["self", "part"] [] := T.F_BadPlay.binds fun _ _ _ _ _ _ us hl => match us, hl with | [_, _], _ => rfl
theorem init_BadPlay {P : Program} {w : World} {base : Heap} (T : Txt K mg AA) : FnOk P w K mg base CX0 1 T.i_BadPlay T.e_BadPlay ["self", "part"] (spI1 AA.c_BadPlay "part") :=
  T.F_BadPlay.ok sci_BadPlay (fun _ _ _ _ ⟨_, _, h, _⟩ => by rw [h]; rfl) (fun cdv A outer s H vs Q E hr h => ⟨_, pss_one (ps_ost (pv 0) (pv 1) rfl), ost1 (p := "") rfl T.x_BadPlay.k (T.x_BadPlay.nf _ (by decide)) h⟩)
theorem bi_BadPaper (T : Txt K mg AA) : Binds K T.e_BadPaper ["self", "part"] [] := T.F_BadPaper.binds fun _ _ _ _ _ _ us hl => match us, hl with | [_, _], _ => rfl
theorem init_BadPaper {P : Program} {w : World} {base : Heap} (T : Txt K mg AA) : FnOk P w K mg base CX0 1 T.i_BadPaper T.e_BadPaper ["self", "part"] (spI1 AA.c_BadPaper "part") :=
  T.F_BadPaper.ok sci_BadPaper (fun _ _ _ _ ⟨_, _, h, _⟩ => by rw [h]; rfl) (fun cdv A outer s H vs Q E hr h => ⟨_, pss_one (ps_ost (pv 0) (pv 1) rfl), ost1 (p := "") rfl T.x_BadPaper.k (T.x_BadPaper.nf _ (by decide)) h⟩)
theorem bi_Misfit (T : Txt K mg AA) : Binds K T.e_Misfit ["self", "part"] [] := T.F_Misfit.binds fun _ _ _ _ _ _ us hl => match us, hl with | [_, _], _ => rfl
theorem init_Misfit {P : Program} {w : World} {base : Heap} (T : Txt K mg AA) : FnOk P w K mg base CX0 1 T.i_Misfit T.e_Misfit ["self", "part"] (spI1 AA.c_Misfit "part") :=
  T.F_Misfit.ok sci_Misfit (fun _ _ _ _ ⟨_, _, h, _⟩ => by rw [h]; rfl) (fun cdv A outer s H vs Q E hr h => ⟨_, pss_one (ps_ost (pv 0) (pv 1) rfl), ost1 (p := "") rfl T.x_Misfit.k (T.x_Misfit.nf _ (by decide)) h⟩)
theorem bi_NoName (T : Txt K mg AA) : Binds K T.e_NoName ["self", "value"] [] := T.F_NoName.binds fun _ _ _ _ _ _ us hl => match us, hl with | [_, _], _ => rfl
theorem init_NoName {P : Program} {w : World} {base : Heap} (T : Txt K mg AA) : FnOk P w K mg base CX0 1 T.i_NoName T.e_NoName ["self", "value"] (spI1 AA.c_NoName "value") :=
  T.F_NoName.ok sci_NoName (fun _ _ _ _ ⟨_, _, h, _⟩ => by rw [h]; rfl) (fun cdv A outer s H vs Q E hr h => ⟨_, pss_one (ps_ost (pv 0) (pv 1) rfl), ost1 (p := "") rfl T.x_NoName.k (T.x_NoName.nf _ (by decide)) h⟩)
theorem bi_NoPiece (T : Txt K mg AA) : Binds K T.e_NoPiece ["self", "value"] [] := T.F_NoPiece.binds fun _ _ _ _ _ _ us hl => match us, hl with | [_, _], _ => rfl
theorem init_NoPiece {P : Program} {w : World} {base : Heap} (T : Txt K mg AA) : FnOk P w K mg base CX0 1 T.i_NoPiece T.e_NoPiece ["self", "value"] (spI1 AA.c_NoPiece "value") :=
  T.F_NoPiece.ok sci_NoPiece (fun _ _ _ _ ⟨_, _, h, _⟩ => by rw [h]; rfl) (fun cdv A outer s H vs Q E hr h => ⟨_, pss_one (ps_ost (pv 0) (pv 1) rfl), ost1 (p := "") rfl T.x_NoPiece.k (T.x_NoPiece.nf _ (by decide)) h⟩)
theorem bi_Twice (T : Txt K mg AA) : Binds K T.e_Twice ["self", "value"] [] := T.F_Twice.binds fun _ _ _ _ _ _ us hl => match us, hl with | [_, _], _ => rfl
theorem init_Twice {P : Program} {w : World} {base : Heap} (T : Txt K mg AA) : FnOk P w K mg base CX0 1 T.i_Twice T.e_Twice ["self", "value"] (spI1 AA.c_Twice "value") :=
  T.F_Twice.ok sci_Twice (fun _ _ _ _ ⟨_, _, h, _⟩ => by rw [h]; rfl) (fun cdv A outer s H vs Q E hr h => ⟨_, pss_one (ps_ost (pv 0) (pv 1) rfl), ost1 (p := "") rfl T.x_Twice.k (T.x_Twice.nf _ (by decide)) h⟩)
theorem bi_Refused (T : Txt K mg AA) : Binds K T.e_Refused ["self", "why"] [] := T.F_Refused.binds fun _ _ _ _ _ _ us hl => match us, hl with | [_, _], _ => rfl
theorem init_Refused {P : Program} {w : World} {base : Heap} (T : Txt K mg AA) : FnOk P w K mg base CX0 1 T.i_Refused T.e_Refused ["self", "why"] (spI1 AA.c_Refused "why") :=
  T.F_Refused.ok sci_Refused (fun _ _ _ _ ⟨_, _, h, _⟩ => by rw [h]; rfl) (fun cdv A outer s H vs Q E hr h => ⟨_, pss_one (ps_ost (pv 0) (pv 1) rfl), ost1 (p := "") rfl T.x_Refused.k (T.x_Refused.nf _ (by decide)) h⟩)
theorem bi_TooMany (T : Txt K mg AA) : Binds K T.e_TooMany ["self", "what", "most"] [] := T.F_TooMany.binds fun _ _ _ _ _ _ us hl => match us, hl with | [_, _, _], _ => rfl
theorem init_TooMany {P : Program} {w : World} {base : Heap} (T : Txt K mg AA) : FnOk P w K mg base CX0 1 T.i_TooMany T.e_TooMany ["self", "what", "most"] (spI2 AA.c_TooMany "what" "most") :=
  T.F_TooMany.ok sci_TooMany (fun _ _ _ _ ⟨_, _, _, h, _⟩ => by rw [h]; rfl) (fun cdv A outer s H vs Q E hr h => ⟨_, pss_cons (ps_ost (pv 0) (pv 1) rfl) (pss_one (ps_ost (pv 0) (pv 2) rfl)), ost2 (p := "") rfl T.x_TooMany.k (T.x_TooMany.nf _ (by decide)) (T.x_TooMany.nf _ (by decide)) h⟩)
theorem bi_BadText (T : Txt K mg AA) : Binds K T.e_BadText ["self", "line", "item"] [] := T.F_BadText.binds fun _ _ _ _ _ _ us hl => match us, hl with | [_, _, _], _ => rfl
theorem init_BadText {P : Program} {w : World} {base : Heap} (T : Txt K mg AA) : FnOk P w K mg base CX0 1 T.i_BadText T.e_BadText ["self", "line", "item"] (spI2 AA.c_BadText "line" "item") :=
  T.F_BadText.ok sci_BadText (fun _ _ _ _ ⟨_, _, _, h, _⟩ => by rw [h]; rfl) (fun cdv A outer s H vs Q E hr h => ⟨_, pss_cons (ps_ost (pv 0) (pv 1) rfl) (pss_one (ps_ost (pv 0) (pv 2) rfl)), ost2 (p := "") rfl T.x_BadText.k (T.x_BadText.nf _ (by decide)) (T.x_BadText.nf _ (by decide)) h⟩)
theorem bi_BadLine (T : Txt K mg AA) : Binds K T.e_BadLine ["self", "line", "error"] [] := T.F_BadLine.binds fun _ _ _ _ _ _ us hl => match us, hl with | [_, _, _], _ => rfl
theorem init_BadLine {P : Program} {w : World} {base : Heap} (T : Txt K mg AA) : FnOk P w K mg base CX0 1 T.i_BadLine T.e_BadLine ["self", "line", "error"] (spI2 AA.c_BadLine "line" "error") :=
  T.F_BadLine.ok sci_BadLine (fun _ _ _ _ ⟨_, _, _, h, _⟩ => by rw [h]; rfl) (fun cdv A outer s H vs Q E hr h => ⟨_, pss_cons (ps_ost (pv 0) (pv 1) rfl) (pss_one (ps_ost (pv 0) (pv 2) rfl)), ost2 (p := "") rfl T.x_BadLine.k (T.x_BadLine.nf _ (by decide)) (T.x_BadLine.nf _ (by decide)) h⟩)
theorem bs_BadFront_part (T : Txt K mg AA) : KwS K T.e_BadFront ["self", "part"] ["part"] [0] := kwS T.F_BadFront fun _ _ _ _ _ _ self us hl => match us, hl with | [_], _ => rfl
theorem bs_BadLevel_part (T : Txt K mg AA) : KwS K T.e_BadLevel ["self", "part"] ["part"] [0] := kwS T.F_BadLevel fun _ _ _ _ _ _ self us hl => match us, hl with | [_], _ => rfl
theorem bs_BadLine_error_line (T : Txt K mg AA) : KwS K T.e_BadLine ["self", "line", "error"] ["error", "line"] [1, 0] := kwS T.F_BadLine fun _ _ _ _ _ _ self us hl => match us, hl with | [_, _], _ => rfl
theorem bs_BadNumber_part (T : Txt K mg AA) : KwS K T.e_BadNumber ["self", "part"] ["part"] [0] := kwS T.F_BadNumber fun _ _ _ _ _ _ self us hl => match us, hl with | [_], _ => rfl
theorem bs_BadPaper_part (T : Txt K mg AA) : KwS K T.e_BadPaper ["self", "part"] ["part"] [0] := kwS T.F_BadPaper fun _ _ _ _ _ _ self us hl => match us, hl with | [_], _ => rfl
theorem bs_BadPiece_part (T : Txt K mg AA) : KwS K T.e_BadPiece ["self", "part"] ["part"] [0] := kwS T.F_BadPiece fun _ _ _ _ _ _ self us hl => match us, hl with | [_], _ => rfl
theorem bs_BadPlay_part (T : Txt K mg AA) : KwS K T.e_BadPlay ["self", "part"] ["part"] [0] := kwS T.F_BadPlay fun _ _ _ _ _ _ self us hl => match us, hl with | [_], _ => rfl
theorem bs_BadSpot_part (T : Txt K mg AA) : KwS K T.e_BadSpot ["self", "part"] ["part"] [0] := kwS T.F_BadSpot fun _ _ _ _ _ _ self us hl => match us, hl with | [_], _ => rfl
theorem bs_BadText_item_line (T : Txt K mg AA) : KwS K T.e_BadText ["self", "line", "item"] ["item", "line"] [1, 0] := kwS T.F_BadText fun _ _ _ _ _ _ self us hl => match us, hl with | [_, _], _ => rfl
theorem bs_BadWorld_part (T : Txt K mg AA) : KwS K T.e_BadWorld ["self", "part"] ["part"] [0] := kwS T.F_BadWorld fun _ _ _ _ _ _ self us hl => match us, hl with | [_], _ => rfl
theorem bs_Misfit_part (T : Txt K mg AA) : KwS K T.e_Misfit ["self", "part"] ["part"] [0] := kwS T.F_Misfit fun _ _ _ _ _ _ self us hl => match us, hl with | [_], _ => rfl
theorem bs_NoName_value (T : Txt K mg AA) : KwS K T.e_NoName ["self", "value"] ["value"] [0] := kwS T.F_NoName fun _ _ _ _ _ _ self us hl => match us, hl with | [_], _ => rfl
theorem bs_NoPiece_value (T : Txt K mg AA) : KwS K T.e_NoPiece ["self", "value"] ["value"] [0] := kwS T.F_NoPiece fun _ _ _ _ _ _ self us hl => match us, hl with | [_], _ => rfl
theorem bs_Refused_why (T : Txt K mg AA) : KwS K T.e_Refused ["self", "why"] ["why"] [0] := kwS T.F_Refused fun _ _ _ _ _ _ self us hl => match us, hl with | [_], _ => rfl
theorem bs_TooMany_most_what (T : Txt K mg AA) : KwS K T.e_TooMany ["self", "what", "most"] ["most", "what"] [1, 0] := kwS T.F_TooMany fun _ _ _ _ _ _ self us hl => match us, hl with | [_, _], _ => rfl
theorem bs_Twice_value (T : Txt K mg AA) : KwS K T.e_Twice ["self", "value"] ["value"] [0] := kwS T.F_Twice fun _ _ _ _ _ _ self us hl => match us, hl with | [_], _ => rfl
theorem b__law_nut (T : Txt K mg AA) : Binds K T.d__law_nut ["_law_script"] [] := T.F__law_nut.binds fun _ _ _ _ _ _ us hl => match us, hl with | [_], _ => rfl
theorem b__law_crack (T : Txt K mg AA) : Binds K T.d__law_crack ["_law_nut_here", "_law_many"] [] := T.F__law_crack.binds fun _ _ _ _ _ _ us hl => match us, hl with | [_, _], _ => rfl
theorem b__law_pick (T : Txt K mg AA) : Binds K T.d__law_pick ["_law_nut_here", "_law_some"] [] := T.F__law_pick.binds fun _ _ _ _ _ _ us hl => match us, hl with | [_, _], _ => rfl
theorem b__law_value (T : Txt K mg AA) : Binds K T.d__law_value ["_law_nut_here"] [] := T.F__law_value.binds fun _ _ _ _ _ _ us hl => match us, hl with | [_], _ => rfl
theorem b__law_first (T : Txt K mg AA) : Binds K T.d__law_first ["_law_at", "_law_one"] [] := T.F__law_first.binds fun _ _ _ _ _ _ us hl => match us, hl with | [_, _], _ => rfl
theorem b__law_named (T : Txt K mg AA) : Binds K T.d__law_named ["_law_at", "_law_one"] [] := T.F__law_named.binds fun _ _ _ _ _ _ us hl => match us, hl with | [_, _], _ => rfl
theorem b__law_last (T : Txt K mg AA) : Binds K T.d__law_last ["_law_at", "_law_one", "_law_other", "_law_by_name"] [] := T.F__law_last.binds fun _ _ _ _ _ _ us hl => match us, hl with | [_, _, _, _], _ => rfl
theorem b__law_kinds (T : Txt K mg AA) : Binds K T.d__law_kinds ["_law_error"] [] := T.F__law_kinds.binds fun _ _ _ _ _ _ us hl => match us, hl with | [_], _ => rfl
theorem b__law_fields (T : Txt K mg AA) : Binds K T.d__law_fields ["_law_at", "_law_error"] [] := T.F__law_fields.binds fun _ _ _ _ _ _ us hl => match us, hl with | [_, _], _ => rfl
theorem b__law_raises (T : Txt K mg AA) : Binds K T.d__law_raises ["_law_at", "_law_one", "_law_other", "_law_by_name"] [] := T.F__law_raises.binds fun _ _ _ _ _ _ us hl => match us, hl with | [_, _, _, _], _ => rfl
theorem b__law_right (T : Txt K mg AA) : Binds K T.d__law_right ["_law_at", "_law_one", "_law_other", "_law_by_name"] [] := T.F__law_right.binds fun _ _ _ _ _ _ us hl => match us, hl with | [_, _, _, _], _ => rfl
theorem b_law (T : Txt K mg AA) : Binds K T.d_law ["_law_script"] [] := T.F_law.binds fun _ _ _ _ _ _ us hl => match us, hl with | [_], _ => rfl
end
/-! ### the errors, their fields, by their places -/
def clsAt (AA : Ad) (n : Nat) : Addr := AA.all.getD n 0
theorem clsAt_mem {AA : Ad} {n : Nat} (h : n < 17) : clsAt AA n ∈ AA.all := by
  unfold clsAt
  have hl : n < AA.all.length := h
  rw [List.getD_eq_getElem?_getD, List.getElem?_eq_getElem hl]
  exact List.getElem_mem hl
def exFs (n : Nat) (one other : D) : List (Str × D) := if n < 9 then [("part", one)] else if n < 12 then [("value", one)] else if n = 12 then [("why", one)] else if n = 13 then [("most", other), ("what", one)] else
  if n = 14 then [("item", other), ("line", one)] else if n = 15 then [("error", other), ("line", one)] else []
def dueD (n : Nat) (one other : D) : List D := if n = 16 then [] else if 12 < n then [one, other] else [one]
def vals : List D := [.non, .bl true, .int 5, .int (-7), .tup [.int 7, .int 2], .str "piece", .lst [.int 1, .lst [.int 2]], .dct (mergeKD [] [(.inr "a", .int 1)]), .tup [], .str "", .int (10 ^ (30 : Int).toNat)]
def okB (ds : List D) : Bool := match toPyEs ds with | some ps => (PyData.list ps).showable && decide ((PyData.list ps).shown.length ≤ 16777216) && decide ((PyData.list ps).depth ≤ 64) | none => false
theorem okB_ok {ds : List D} (h : okB ds = true) : ∃ ps, toPyEs ds = some ps ∧ okRepr (.list ps) := by
  unfold okB at h
  split at h
  · rename_i ps e
    simp only [Bool.and_eq_true, decide_eq_true_eq] at h
    exact ⟨ps, e, h.1.1, h.1.2, h.2⟩
  · cases h
theorem vals_ok : (okB [] && vals.all fun a => okB [a] && vals.all fun b => okB [a, b]) = true := by decide +kernel
theorem due_ok {n : Nat} {a b : D} (ha : a ∈ vals) (hb : b ∈ vals) : ∃ ps, toPyEs (dueD n a b) = some ps ∧ okRepr (.list ps) := by
  have h := vals_ok
  simp only [Bool.and_eq_true, List.all_eq_true] at h
  refine okB_ok ?_
  unfold dueD
  split
  · exact h.1
  · split
    · exact (h.2 a ha).2 b hb
    · exact (h.2 a ha).1
def sp__law_value (AA : Ad) : SpD := spDraw 1 (fun r => r = []) (fun _ d => d ∈ vals)
def sp__law_first (AA : Ad) : SpD := fun ds M F E => ∃ (n : Nat) (one other : D), ds = [.int n, one] ∧ n < 13 ∧ E (clsAt AA n) (exFs n one other) M
def sp__law_named (AA : Ad) : SpD := fun ds M F E => ∃ (n : Nat) (one other : D), ds = [.int n, one] ∧ n < 13 ∧ E (clsAt AA n) (exFs n one other) M
def sp__law_last (AA : Ad) : SpD := fun ds M F E => ∃ (n : Nat) (one other : D) (b : Bool), ds = [.int n, one, other, .bl b] ∧ 12 < n ∧ n < 17 ∧ E (clsAt AA n) (exFs n one other) M
def sp__law_kinds (AA : Ad) : SpD := fun ds M F E => ∃ (n : Nat) (fs : List (Str × D)), ds = [.exn (clsAt AA n) fs] ∧ n < 17 ∧ F (.lst [.int n]) M
def sp__law_fields (AA : Ad) : SpD := fun ds M F E => ∃ (n : Nat) (one other : D), ds = [.int n, .exn (clsAt AA n) (exFs n one other)] ∧ n < 17 ∧ F (.lst (dueD n one other)) M
def sp__law_raises (AA : Ad) : SpD := fun ds M F E => ∃ (n : Nat) (one other : D) (b : Bool), ds = [.int n, one, other, .bl b] ∧ n < 17 ∧ E (clsAt AA n) (exFs n one other) M
def sp__law_right (AA : Ad) : SpD := fun ds M F E => ∃ (n : Nat) (one other : D) (b : Bool), ds = [.int n, one, other, .bl b] ∧ n < 17 ∧ one ∈ vals ∧ other ∈ vals ∧ F (.bl true) M
def t__law_value (AA : Ad) : TSD := (tRetD (tCallD spPick (tConsD (tVarD 0) (tConsD (tLstD (tConsD (tCD .non) (tConsD (tCD (.bl true)) (tConsD (tCD (.int 5)) (tConsD (tUnD rdNeg (tCD (.int 7))) (tConsD (tTupD (tConsD (tCD (.int 7)) (tConsD (tCD (.int 2)) tNilD))) (tConsD (tCD (.str "piece")) (tConsD (tLstD (tConsD (tCD (.int 1)) (tConsD (tLstD (tConsD (tCD (.int 2)) tNilD)) tNilD))) (tConsD (tDictD (tConsP (Sum.inr "a") (tCD (.int 1)) tNilP)) (tConsD (tTupD tNilD) (tConsD (tCD (.str "")) (tConsD (tOpD (rdIC CPow fun i j => i ^ j.toNat) (tCD (.int 10)) (tCD (.int 30))) tNilD)))))))))))) tNilD))))
def t__law_first (AA : Ad) : TSD := (tSeqD (tIfD (tTestB (tOpD rdEq (tVarD 0) (tCD (.int 0))))
    (tRaiseD AA.c_BadNumber (fl1 "part") (tConsD (tVarD 1) tNilD))
    tNextD)
  (tSeqD (tIfD (tTestB (tOpD rdEq (tVarD 0) (tCD (.int 1))))
    (tRaiseD AA.c_BadSpot (fl1 "part") (tConsD (tVarD 1) tNilD))
    tNextD)
  (tSeqD (tIfD (tTestB (tOpD rdEq (tVarD 0) (tCD (.int 2))))
    (tRaiseD AA.c_BadPiece (fl1 "part") (tConsD (tVarD 1) tNilD))
    tNextD)
  (tSeqD (tIfD (tTestB (tOpD rdEq (tVarD 0) (tCD (.int 3))))
    (tRaiseD AA.c_BadFront (fl1 "part") (tConsD (tVarD 1) tNilD))
    tNextD)
  (tSeqD (tIfD (tTestB (tOpD rdEq (tVarD 0) (tCD (.int 4))))
    (tRaiseD AA.c_BadWorld (fl1 "part") (tConsD (tVarD 1) tNilD))
    tNextD)
  (tSeqD (tIfD (tTestB (tOpD rdEq (tVarD 0) (tCD (.int 5))))
    (tRaiseD AA.c_BadLevel (fl1 "part") (tConsD (tVarD 1) tNilD))
    tNextD)
  (tSeqD (tIfD (tTestB (tOpD rdEq (tVarD 0) (tCD (.int 6))))
    (tRaiseD AA.c_BadPlay (fl1 "part") (tConsD (tVarD 1) tNilD))
    tNextD)
  (tSeqD (tIfD (tTestB (tOpD rdEq (tVarD 0) (tCD (.int 7))))
    (tRaiseD AA.c_BadPaper (fl1 "part") (tConsD (tVarD 1) tNilD))
    tNextD)
  (tSeqD (tIfD (tTestB (tOpD rdEq (tVarD 0) (tCD (.int 8))))
    (tRaiseD AA.c_Misfit (fl1 "part") (tConsD (tVarD 1) tNilD))
    tNextD)
  (tSeqD (tIfD (tTestB (tOpD rdEq (tVarD 0) (tCD (.int 9))))
    (tRaiseD AA.c_NoName (fl1 "value") (tConsD (tVarD 1) tNilD))
    tNextD)
  (tSeqD (tIfD (tTestB (tOpD rdEq (tVarD 0) (tCD (.int 10))))
    (tRaiseD AA.c_NoPiece (fl1 "value") (tConsD (tVarD 1) tNilD))
    tNextD)
  (tSeqD (tIfD (tTestB (tOpD rdEq (tVarD 0) (tCD (.int 11))))
    (tRaiseD AA.c_Twice (fl1 "value") (tConsD (tVarD 1) tNilD))
    tNextD)
  (tRaiseD AA.c_Refused (fl1 "why") (tConsD (tVarD 1) tNilD))))))))))))))
def t__law_named (AA : Ad) : TSD := (tSeqD (tIfD (tTestB (tOpD rdEq (tVarD 0) (tCD (.int 0))))
    (tRaiseD AA.c_BadNumber (fl1 "part") (tConsD (tVarD 1) tNilD))
    tNextD)
  (tSeqD (tIfD (tTestB (tOpD rdEq (tVarD 0) (tCD (.int 1))))
    (tRaiseD AA.c_BadSpot (fl1 "part") (tConsD (tVarD 1) tNilD))
    tNextD)
  (tSeqD (tIfD (tTestB (tOpD rdEq (tVarD 0) (tCD (.int 2))))
    (tRaiseD AA.c_BadPiece (fl1 "part") (tConsD (tVarD 1) tNilD))
    tNextD)
  (tSeqD (tIfD (tTestB (tOpD rdEq (tVarD 0) (tCD (.int 3))))
    (tRaiseD AA.c_BadFront (fl1 "part") (tConsD (tVarD 1) tNilD))
    tNextD)
  (tSeqD (tIfD (tTestB (tOpD rdEq (tVarD 0) (tCD (.int 4))))
    (tRaiseD AA.c_BadWorld (fl1 "part") (tConsD (tVarD 1) tNilD))
    tNextD)
  (tSeqD (tIfD (tTestB (tOpD rdEq (tVarD 0) (tCD (.int 5))))
    (tRaiseD AA.c_BadLevel (fl1 "part") (tConsD (tVarD 1) tNilD))
    tNextD)
  (tSeqD (tIfD (tTestB (tOpD rdEq (tVarD 0) (tCD (.int 6))))
    (tRaiseD AA.c_BadPlay (fl1 "part") (tConsD (tVarD 1) tNilD))
    tNextD)
  (tSeqD (tIfD (tTestB (tOpD rdEq (tVarD 0) (tCD (.int 7))))
    (tRaiseD AA.c_BadPaper (fl1 "part") (tConsD (tVarD 1) tNilD))
    tNextD)
  (tSeqD (tIfD (tTestB (tOpD rdEq (tVarD 0) (tCD (.int 8))))
    (tRaiseD AA.c_Misfit (fl1 "part") (tConsD (tVarD 1) tNilD))
    tNextD)
  (tSeqD (tIfD (tTestB (tOpD rdEq (tVarD 0) (tCD (.int 9))))
    (tRaiseD AA.c_NoName (fl1 "value") (tConsD (tVarD 1) tNilD))
    tNextD)
  (tSeqD (tIfD (tTestB (tOpD rdEq (tVarD 0) (tCD (.int 10))))
    (tRaiseD AA.c_NoPiece (fl1 "value") (tConsD (tVarD 1) tNilD))
    tNextD)
  (tSeqD (tIfD (tTestB (tOpD rdEq (tVarD 0) (tCD (.int 11))))
    (tRaiseD AA.c_Twice (fl1 "value") (tConsD (tVarD 1) tNilD))
    tNextD)
  (tRaiseD AA.c_Refused (fl1 "why") (tConsD (tVarD 1) tNilD))))))))))))))
def t__law_last (AA : Ad) : TSD := (tSeqD (tIfD (tAndD (tTestB (tOpD rdEq (tVarD 0) (tCD (.int 13)))) (tTruD (tVarD 3)))
    (tRaiseD AA.c_TooMany (fun ds => fl2 "what" "most" (permL [1, 0] ds)) (tConsD (tVarD 2) (tConsD (tVarD 1) tNilD)))
    tNextD)
  (tSeqD (tIfD (tTestB (tOpD rdEq (tVarD 0) (tCD (.int 13))))
    (tRaiseD AA.c_TooMany (fl2 "what" "most") (tConsD (tVarD 1) (tConsD (tVarD 2) tNilD)))
    tNextD)
  (tSeqD (tIfD (tAndD (tTestB (tOpD rdEq (tVarD 0) (tCD (.int 14)))) (tTruD (tVarD 3)))
    (tRaiseD AA.c_BadText (fun ds => fl2 "line" "item" (permL [1, 0] ds)) (tConsD (tVarD 2) (tConsD (tVarD 1) tNilD)))
    tNextD)
  (tSeqD (tIfD (tTestB (tOpD rdEq (tVarD 0) (tCD (.int 14))))
    (tRaiseD AA.c_BadText (fl2 "line" "item") (tConsD (tVarD 1) (tConsD (tVarD 2) tNilD)))
    tNextD)
  (tSeqD (tIfD (tAndD (tTestB (tOpD rdEq (tVarD 0) (tCD (.int 15)))) (tTruD (tVarD 3)))
    (tRaiseD AA.c_BadLine (fun ds => fl2 "line" "error" (permL [1, 0] ds)) (tConsD (tVarD 2) (tConsD (tVarD 1) tNilD)))
    tNextD)
  (tSeqD (tIfD (tTestB (tOpD rdEq (tVarD 0) (tCD (.int 15))))
    (tRaiseD AA.c_BadLine (fl2 "line" "error") (tConsD (tVarD 1) (tConsD (tVarD 2) tNilD)))
    tNextD)
  (tRaiseD AA.c_Nothing (fun _ => []) tNilD)))))))
def t__law_kinds (AA : Ad) : TSD := (tSeqD (tSetD 1 (tLstD (tConsD (tIs (isE (subX AA.all AA.c_LaneError AA.c_BadNumber)) (tVarD 0)) (tConsD (tIs (isE (subX AA.all AA.c_LaneError AA.c_BadSpot)) (tVarD 0)) (tConsD (tIs (isE (subX AA.all AA.c_LaneError AA.c_BadPiece)) (tVarD 0)) (tConsD (tIs (isE (subX AA.all AA.c_LaneError AA.c_BadFront)) (tVarD 0)) tNilD))))))
  (tSeqD (tSetD 1 (tOpD rdCatL (tVarD 1) (tLstD (tConsD (tIs (isE (subX AA.all AA.c_LaneError AA.c_BadWorld)) (tVarD 0)) (tConsD (tIs (isE (subX AA.all AA.c_LaneError AA.c_BadLevel)) (tVarD 0)) (tConsD (tIs (isE (subX AA.all AA.c_LaneError AA.c_BadPlay)) (tVarD 0)) (tConsD (tIs (isE (subX AA.all AA.c_LaneError AA.c_BadPaper)) (tVarD 0)) tNilD)))))))
  (tSeqD (tSetD 1 (tOpD rdCatL (tVarD 1) (tLstD (tConsD (tIs (isE (subX AA.all AA.c_LaneError AA.c_Misfit)) (tVarD 0)) (tConsD (tIs (isE (subX AA.all AA.c_LaneError AA.c_NoName)) (tVarD 0)) (tConsD (tIs (isE (subX AA.all AA.c_LaneError AA.c_NoPiece)) (tVarD 0)) (tConsD (tIs (isE (subX AA.all AA.c_LaneError AA.c_Twice)) (tVarD 0)) tNilD)))))))
  (tSeqD (tSetD 1 (tOpD rdCatL (tVarD 1) (tLstD (tConsD (tIs (isE (subX AA.all AA.c_LaneError AA.c_Refused)) (tVarD 0)) (tConsD (tIs (isE (subX AA.all AA.c_LaneError AA.c_TooMany)) (tVarD 0)) (tConsD (tIs (isE (subX AA.all AA.c_LaneError AA.c_BadText)) (tVarD 0)) (tConsD (tIs (isE (subX AA.all AA.c_LaneError AA.c_BadLine)) (tVarD 0)) (tConsD (tIs (isE (subX AA.all AA.c_LaneError AA.c_Nothing)) (tVarD 0)) tNilD))))))))
  (tRetD (tLcD (iEnumD (tVarD 1)) (gTupT 2 (gConsD (gNameD 2) (gConsD (gNameD 3) gNilD))) (tTruD (tVarD 3)) (tVarD 2) [2, 3]))))))
def t__law_fields (AA : Ad) : TSD := (tSeqD (tIfD (tTestB (tOpD (rdB fun i j => decide (i < j)) (tVarD 0) (tCD (.int 9))))
    (tRetD (tLstD (tConsD (tFldA AA.all "part" (tVarD 1)) tNilD)))
    tNextD)
  (tSeqD (tIfD (tTestB (tOpD (rdB fun i j => decide (i < j)) (tVarD 0) (tCD (.int 12))))
    (tRetD (tLstD (tConsD (tFldA AA.all "value" (tVarD 1)) tNilD)))
    tNextD)
  (tSeqD (tIfD (tTestB (tOpD rdEq (tVarD 0) (tCD (.int 12))))
    (tRetD (tLstD (tConsD (tFldA AA.all "why" (tVarD 1)) tNilD)))
    tNextD)
  (tSeqD (tIfD (tTestB (tOpD rdEq (tVarD 0) (tCD (.int 13))))
    (tRetD (tLstD (tConsD (tFldA AA.all "what" (tVarD 1)) (tConsD (tFldA AA.all "most" (tVarD 1)) tNilD))))
    tNextD)
  (tSeqD (tIfD (tTestB (tOpD rdEq (tVarD 0) (tCD (.int 14))))
    (tRetD (tLstD (tConsD (tFldA AA.all "line" (tVarD 1)) (tConsD (tFldA AA.all "item" (tVarD 1)) tNilD))))
    tNextD)
  (tRetD (tIfE (tTestB (tOpD rdEq (tVarD 0) (tCD (.int 15)))) (tLstD (tConsD (tFldA AA.all "line" (tVarD 1)) (tConsD (tFldA AA.all "error" (tVarD 1)) tNilD))) (tLstD tNilD))))))))
def t__law_raises (AA : Ad) : TSD := (tSeqD (tIfD (tTestB (tOpD (rdB fun i j => decide (j < i)) (tVarD 0) (tCD (.int 12))))
    (tDropD (tCallD (sp__law_last AA) (tConsD (tVarD 0) (tConsD (tVarD 1) (tConsD (tVarD 2) (tConsD (tVarD 3) tNilD))))))
    tNextD)
  (tSeqD (tIfD (tTruD (tVarD 3))
    (tDropD (tCallD (sp__law_named AA) (tConsD (tVarD 0) (tConsD (tVarD 1) tNilD))))
    tNextD)
  (tDropD (tCallD (sp__law_first AA) (tConsD (tVarD 0) (tConsD (tVarD 1) tNilD))))))
def t__law_right (AA : Ad) : TSD := (tSeqD (tSetD 4 (tCD .non))
  (tSeqD (tTryK (subV AA.all) 5 4
    (tDropD (tCallD (sp__law_raises AA) (tConsD (tVarD 0) (tConsD (tVarD 1) (tConsD (tVarD 2) (tConsD (tVarD 3) tNilD)))))))
  (tSeqD (tIfD (tOrD (tTestB (tIsND (tVarD 4))) (tOrD (tNotD (tTruD (tIs (isE (subV AA.all)) (tVarD 4)))) (tTestB (tOpD rdNe (tCallD (sp__law_kinds AA) (tConsD (tVarD 4) tNilD)) (tLstD (tConsD (tVarD 0) tNilD))))))
    (tRetD (tCD (.bl false)))
    tNextD)
  (tSeqD (tSetD 6 (tIfE (tTestB (tOpD rdEq (tVarD 0) (tCD (.int 16)))) (tLstD tNilD) (tIfE (tTestB (tOpD (rdB fun i j => decide (j < i)) (tVarD 0) (tCD (.int 12)))) (tLstD (tConsD (tVarD 1) (tConsD (tVarD 2) tNilD))) (tLstD (tConsD (tVarD 1) tNilD)))))
  (tRetD (tOpD rdEq (tReprE (tCallD (sp__law_fields AA) (tConsD (tVarD 0) (tConsD (tVarD 4) tNilD)))) (tReprE (tVarD 6))))))))
def t_law (AA : Ad) : TSD := (tSeqD (tSetD 1 (tCallD spGrit (tConsD (tVarD 0) tNilD)))
  (tSeqD (tForD (iRngD (tConsD (tCD (.int 17)) tNilD)) (gNameD 2)
    (tSeqD (tParD 3 4 (tConsD (tCallD (sp__law_value AA) (tConsD (tVarD 1) tNilD)) (tConsD (tCallD (sp__law_value AA) (tConsD (tVarD 1) tNilD)) tNilD)))
  (tIfD (tOrD (tNotD (tTruD (tCallD (sp__law_right AA) (tConsD (tVarD 2) (tConsD (tVarD 3) (tConsD (tVarD 4) (tConsD (tCD (.bl false)) tNilD))))))) (tNotD (tTruD (tCallD (sp__law_right AA) (tConsD (tVarD 2) (tConsD (tVarD 3) (tConsD (tVarD 4) (tConsD (tCD (.bl true)) tNilD))))))))
    (tRetD (tCD (.bl false)))
    tNextD)))
  (tRetD (tCD (.bl true)))))

theorem len__law_first (AA : Ad) : ∀ ds M F E, sp__law_first AA ds M F E → ds.length = 2 := fun ds M F E ⟨_, _, _, e, _⟩ => by rw [e]; rfl
theorem len__law_named (AA : Ad) : ∀ ds M F E, sp__law_named AA ds M F E → ds.length = 2 := fun ds M F E ⟨_, _, _, e, _⟩ => by rw [e]; rfl
theorem len__law_last (AA : Ad) : ∀ ds M F E, sp__law_last AA ds M F E → ds.length = 4 := fun ds M F E ⟨_, _, _, _, e, _⟩ => by rw [e]; rfl
theorem len__law_raises (AA : Ad) : ∀ ds M F E, sp__law_raises AA ds M F E → ds.length = 4 := fun ds M F E ⟨_, _, _, _, e, _⟩ => by rw [e]; rfl
theorem len__law_right (AA : Ad) : ∀ ds M F E, sp__law_right AA ds M F E → ds.length = 4 := fun ds M F E ⟨_, _, _, _, e, _⟩ => by rw [e]; rfl
theorem len__law_kinds (AA : Ad) : ∀ ds M F E, sp__law_kinds AA ds M F E → ds.length = 1 := fun ds M F E ⟨_, _, e, _⟩ => by rw [e]; rfl
theorem len__law_fields (AA : Ad) : ∀ ds M F E, sp__law_fields AA ds M F E → ds.length = 2 := fun ds M F E ⟨_, _, _, e, _⟩ => by rw [e]; rfl
theorem len__law_value (AA : Ad) : ∀ ds M F E, sp__law_value AA ds M F E → ds.length = 1 := fun ds M F E ⟨_, _, _, e, e2, _⟩ => by rw [e, e2]; rfl
theorem len__law_crack (AA : Ad) : ∀ ds M F E, spSieve ds M F E → ds.length = 2 := fun ds M F E ⟨_, _, _, e, ⟨_, e2, _⟩, _⟩ => by rw [e, e2]; rfl
theorem len__law_pick (AA : Ad) : ∀ ds M F E, spPick ds M F E → ds.length = 2 := fun ds M F E ⟨_, _, _, e, ⟨_, e2, _⟩, _⟩ => by rw [e, e2]; rfl
theorem len__law_nut (AA : Ad) : ∀ ds M F E, spGrit ds M F E → ds.length = 1 := fun ds M F E ⟨_, e, _⟩ => by rw [e]; rfl
theorem len_law (AA : Ad) : ∀ ds M F E, spLaw ds M F E → ds.length = 1 := fun ds M F E ⟨_, e, _⟩ => by rw [e]; rfl
theorem wp__law_first (AA : Ad) : ∀ ds M F FE, sp__law_first AA ds M F FE → t__law_first AA (fun C fs _ M => FE C fs M) { nx := fun _ M => F .non M, rt := F } (startD ["_law_at", "_law_one"] ds) M := by
  rintro ds M F FE ⟨n, one, other, rfl, hn, k⟩
  unfold t__law_first
  walk_at "z"
  refine w_eq rfl ?_
  refine w_dec (fun c => ?_) (fun c => ?_)
  · obtain rfl : n = 0 := by omega
    walk_at "z"
    refine w_raise ?_
    walk_at "z"
    exact k
  walk_at "z"
  refine w_eq rfl ?_
  refine w_dec (fun c => ?_) (fun c => ?_)
  · obtain rfl : n = 1 := by omega
    walk_at "z"
    refine w_raise ?_
    walk_at "z"
    exact k
  walk_at "z"
  refine w_eq rfl ?_
  refine w_dec (fun c => ?_) (fun c => ?_)
  · obtain rfl : n = 2 := by omega
    walk_at "z"
    refine w_raise ?_
    walk_at "z"
    exact k
  walk_at "z"
  refine w_eq rfl ?_
  refine w_dec (fun c => ?_) (fun c => ?_)
  · obtain rfl : n = 3 := by omega
    walk_at "z"
    refine w_raise ?_
    walk_at "z"
    exact k
  walk_at "z"
  refine w_eq rfl ?_
  refine w_dec (fun c => ?_) (fun c => ?_)
  · obtain rfl : n = 4 := by omega
    walk_at "z"
    refine w_raise ?_
    walk_at "z"
    exact k
  walk_at "z"
  refine w_eq rfl ?_
  refine w_dec (fun c => ?_) (fun c => ?_)
  · obtain rfl : n = 5 := by omega
    walk_at "z"
    refine w_raise ?_
    walk_at "z"
    exact k
  walk_at "z"
  refine w_eq rfl ?_
  refine w_dec (fun c => ?_) (fun c => ?_)
  · obtain rfl : n = 6 := by omega
    walk_at "z"
    refine w_raise ?_
    walk_at "z"
    exact k
  walk_at "z"
  refine w_eq rfl ?_
  refine w_dec (fun c => ?_) (fun c => ?_)
  · obtain rfl : n = 7 := by omega
    walk_at "z"
    refine w_raise ?_
    walk_at "z"
    exact k
  walk_at "z"
  refine w_eq rfl ?_
  refine w_dec (fun c => ?_) (fun c => ?_)
  · obtain rfl : n = 8 := by omega
    walk_at "z"
    refine w_raise ?_
    walk_at "z"
    exact k
  walk_at "z"
  refine w_eq rfl ?_
  refine w_dec (fun c => ?_) (fun c => ?_)
  · obtain rfl : n = 9 := by omega
    walk_at "z"
    refine w_raise ?_
    walk_at "z"
    exact k
  walk_at "z"
  refine w_eq rfl ?_
  refine w_dec (fun c => ?_) (fun c => ?_)
  · obtain rfl : n = 10 := by omega
    walk_at "z"
    refine w_raise ?_
    walk_at "z"
    exact k
  walk_at "z"
  refine w_eq rfl ?_
  refine w_dec (fun c => ?_) (fun c => ?_)
  · obtain rfl : n = 11 := by omega
    walk_at "z"
    refine w_raise ?_
    walk_at "z"
    exact k
  walk_at "z"
  obtain rfl : n = 12 := by omega
  refine w_raise ?_
  walk_at "z"
  exact k
theorem wp__law_named (AA : Ad) : ∀ ds M F FE, sp__law_named AA ds M F FE → t__law_named AA (fun C fs _ M => FE C fs M) { nx := fun _ M => F .non M, rt := F } (startD ["_law_at", "_law_one"] ds) M := by
  rintro ds M F FE ⟨n, one, other, rfl, hn, k⟩
  unfold t__law_named
  walk_at "z"
  refine w_eq rfl ?_
  refine w_dec (fun c => ?_) (fun c => ?_)
  · obtain rfl : n = 0 := by omega
    walk_at "z"
    refine w_raise ?_
    walk_at "z"
    exact k
  walk_at "z"
  refine w_eq rfl ?_
  refine w_dec (fun c => ?_) (fun c => ?_)
  · obtain rfl : n = 1 := by omega
    walk_at "z"
    refine w_raise ?_
    walk_at "z"
    exact k
  walk_at "z"
  refine w_eq rfl ?_
  refine w_dec (fun c => ?_) (fun c => ?_)
  · obtain rfl : n = 2 := by omega
    walk_at "z"
    refine w_raise ?_
    walk_at "z"
    exact k
  walk_at "z"
  refine w_eq rfl ?_
  refine w_dec (fun c => ?_) (fun c => ?_)
  · obtain rfl : n = 3 := by omega
    walk_at "z"
    refine w_raise ?_
    walk_at "z"
    exact k
  walk_at "z"
  refine w_eq rfl ?_
  refine w_dec (fun c => ?_) (fun c => ?_)
  · obtain rfl : n = 4 := by omega
    walk_at "z"
    refine w_raise ?_
    walk_at "z"
    exact k
  walk_at "z"
  refine w_eq rfl ?_
  refine w_dec (fun c => ?_) (fun c => ?_)
  · obtain rfl : n = 5 := by omega
    walk_at "z"
    refine w_raise ?_
    walk_at "z"
    exact k
  walk_at "z"
  refine w_eq rfl ?_
  refine w_dec (fun c => ?_) (fun c => ?_)
  · obtain rfl : n = 6 := by omega
    walk_at "z"
    refine w_raise ?_
    walk_at "z"
    exact k
  walk_at "z"
  refine w_eq rfl ?_
  refine w_dec (fun c => ?_) (fun c => ?_)
  · obtain rfl : n = 7 := by omega
    walk_at "z"
    refine w_raise ?_
    walk_at "z"
    exact k
  walk_at "z"
  refine w_eq rfl ?_
  refine w_dec (fun c => ?_) (fun c => ?_)
  · obtain rfl : n = 8 := by omega
    walk_at "z"
    refine w_raise ?_
    walk_at "z"
    exact k
  walk_at "z"
  refine w_eq rfl ?_
  refine w_dec (fun c => ?_) (fun c => ?_)
  · obtain rfl : n = 9 := by omega
    walk_at "z"
    refine w_raise ?_
    walk_at "z"
    exact k
  walk_at "z"
  refine w_eq rfl ?_
  refine w_dec (fun c => ?_) (fun c => ?_)
  · obtain rfl : n = 10 := by omega
    walk_at "z"
    refine w_raise ?_
    walk_at "z"
    exact k
  walk_at "z"
  refine w_eq rfl ?_
  refine w_dec (fun c => ?_) (fun c => ?_)
  · obtain rfl : n = 11 := by omega
    walk_at "z"
    refine w_raise ?_
    walk_at "z"
    exact k
  walk_at "z"
  obtain rfl : n = 12 := by omega
  refine w_raise ?_
  walk_at "z"
  exact k
theorem wp__law_last (AA : Ad) : ∀ ds M F FE, sp__law_last AA ds M F FE → t__law_last AA (fun C fs _ M => FE C fs M) { nx := fun _ M => F .non M, rt := F } (startD ["_law_at", "_law_one", "_law_other", "_law_by_name"] ds) M := by
  rintro ds M F FE ⟨n, one, other, b, rfl, h0, hn, k⟩
  unfold t__law_last
  have hc : n = 13 ∨ n = 14 ∨ n = 15 ∨ n = 16 := by omega
  rcases hc with rfl | rfl | rfl | rfl <;> cases b <;>
    ((repeat first | walk_at "z1" | with_reducible refine w_raise ?_ | refine w_eq (b := true) rfl ?_ | refine w_eq (b := false) rfl ?_); exact k)
theorem wp__law_fields (AA : Ad) : ∀ ds M F FE, sp__law_fields AA ds M F FE → t__law_fields AA (fun C fs _ M => FE C fs M) { nx := fun _ M => F .non M, rt := F } (startD ["_law_at", "_law_error"] ds) M := by
  rintro ds M F FE ⟨n, one, other, rfl, hn, k⟩
  have hC := clsAt_mem (AA := AA) hn
  unfold t__law_fields
  walk_at "z"
  refine w_dec (fun c => ?_) (fun c => ?_)
  · have e1 : exFs n one other = ([("part", one)] : List (Str × D)) := by unfold exFs; rw [if_pos (by omega)]
    have e2 : dueD n one other = [one] := by unfold dueD; rw [if_neg (by omega), if_neg (by omega)]
    rw [e2] at k
    rw [e1]
    walk_at "z"
    refine w_fldA ?_
    walk_at "z"
    refine ⟨hC, ?_⟩
    rw [show List.lookup ("part" : Str) ([("part", one)] : List (Str × D)) = some one from rfl]
    walk_at "z"
    refine w_small (by show 1 ≤ 16777216; decide) ?_
    exact k
  walk_at "z"
  refine w_dec (fun c => ?_) (fun c => ?_)
  · have e1 : exFs n one other = ([("value", one)] : List (Str × D)) := by unfold exFs; rw [if_neg (by omega), if_pos (by omega)]
    have e2 : dueD n one other = [one] := by unfold dueD; rw [if_neg (by omega), if_neg (by omega)]
    rw [e2] at k
    rw [e1]
    walk_at "z"
    refine w_fldA ?_
    walk_at "z"
    refine ⟨hC, ?_⟩
    rw [show List.lookup ("value" : Str) ([("value", one)] : List (Str × D)) = some one from rfl]
    walk_at "z"
    refine w_small (by show 1 ≤ 16777216; decide) ?_
    exact k
  walk_at "z"
  refine w_eq rfl ?_
  refine w_dec (fun c => ?_) (fun c => ?_)
  · have e1 : exFs n one other = ([("why", one)] : List (Str × D)) := by unfold exFs; rw [if_neg (by omega), if_neg (by omega), if_pos (by omega)]
    have e2 : dueD n one other = [one] := by unfold dueD; rw [if_neg (by omega), if_neg (by omega)]
    rw [e2] at k
    rw [e1]
    walk_at "z"
    refine w_fldA ?_
    walk_at "z"
    refine ⟨hC, ?_⟩
    rw [show List.lookup ("why" : Str) ([("why", one)] : List (Str × D)) = some one from rfl]
    walk_at "z"
    refine w_small (by show 1 ≤ 16777216; decide) ?_
    exact k
  walk_at "z"
  refine w_eq rfl ?_
  refine w_dec (fun c => ?_) (fun c => ?_)
  · have e1 : exFs n one other = ([("most", other), ("what", one)] : List (Str × D)) := by unfold exFs; rw [if_neg (by omega), if_neg (by omega), if_neg (by omega), if_pos (by omega)]
    have e2 : dueD n one other = [one, other] := by unfold dueD; rw [if_neg (by omega), if_pos (by omega)]
    rw [e2] at k
    rw [e1]
    walk_at "z"
    refine w_fldA ?_
    walk_at "z"
    refine ⟨hC, ?_⟩
    rw [show List.lookup ("what" : Str) ([("most", other), ("what", one)] : List (Str × D)) = some one from rfl]
    walk_at "z"
    refine w_fldA ?_
    walk_at "z"
    refine ⟨hC, ?_⟩
    rw [show List.lookup ("most" : Str) ([("most", other), ("what", one)] : List (Str × D)) = some other from rfl]
    walk_at "z"
    refine w_small (by show 2 ≤ 16777216; decide) ?_
    exact k
  walk_at "z"
  refine w_eq rfl ?_
  refine w_dec (fun c => ?_) (fun c => ?_)
  · have e1 : exFs n one other = ([("item", other), ("line", one)] : List (Str × D)) := by unfold exFs; rw [if_neg (by omega), if_neg (by omega), if_neg (by omega), if_neg (by omega), if_pos (by omega)]
    have e2 : dueD n one other = [one, other] := by unfold dueD; rw [if_neg (by omega), if_pos (by omega)]
    rw [e2] at k
    rw [e1]
    walk_at "z"
    refine w_fldA ?_
    walk_at "z"
    refine ⟨hC, ?_⟩
    rw [show List.lookup ("line" : Str) ([("item", other), ("line", one)] : List (Str × D)) = some one from rfl]
    walk_at "z"
    refine w_fldA ?_
    walk_at "z"
    refine ⟨hC, ?_⟩
    rw [show List.lookup ("item" : Str) ([("item", other), ("line", one)] : List (Str × D)) = some other from rfl]
    walk_at "z"
    refine w_small (by show 2 ≤ 16777216; decide) ?_
    exact k
  walk_at "z"
  refine w_eq rfl ?_
  refine w_dec (fun c => ?_) (fun c => ?_)
  · have e1 : exFs n one other = ([("error", other), ("line", one)] : List (Str × D)) := by unfold exFs; rw [if_neg (by omega), if_neg (by omega), if_neg (by omega), if_neg (by omega), if_neg (by omega), if_pos (by omega)]
    have e2 : dueD n one other = [one, other] := by unfold dueD; rw [if_neg (by omega), if_pos (by omega)]
    rw [e2] at k
    rw [e1]
    walk_at "z"
    refine w_fldA ?_
    walk_at "z"
    refine ⟨hC, ?_⟩
    rw [show List.lookup ("line" : Str) ([("error", other), ("line", one)] : List (Str × D)) = some one from rfl]
    walk_at "z"
    refine w_fldA ?_
    walk_at "z"
    refine ⟨hC, ?_⟩
    rw [show List.lookup ("error" : Str) ([("error", other), ("line", one)] : List (Str × D)) = some other from rfl]
    walk_at "z"
    refine w_small (by show 2 ≤ 16777216; decide) ?_
    exact k
  · have e2 : dueD n one other = [] := by unfold dueD; rw [if_pos (by omega)]
    rw [e2] at k
    walk_at "z"
    refine w_small (by show 0 ≤ 16777216; decide) ?_
    exact k
theorem kinds_none {L C : Addr} {c : D → Bool} (hc : ∀ i b, c (.tup [i, .bl b]) = b) : ∀ (os : List Addr) (m : Nat), C ∉ os → L ∉ os → ((numL m (os.map fun D' => .bl (decide (C = D') || decide (D' = L)))).filter c) = []
  | [], _, _, _ => rfl
  | x :: os, m, h1, h2 => by
    simp only [List.mem_cons, not_or] at h1 h2
    have e : (decide (C = x) || decide (x = L)) = false := by simp [h1.1, Ne.symm h2.1]
    simp only [List.map_cons, numL, List.filter_cons, hc, e, Bool.false_eq_true, if_false]
    exact kinds_none hc os (m + 1) h1.2 h2.2
theorem kinds_one {L C : Addr} {f : D → D} {c : D → Bool} (hc : ∀ i b, c (.tup [i, .bl b]) = b) (hf : ∀ i x, f (.tup [i, x]) = i) : ∀ (os : List Addr) (m n : Nat), os.Nodup → L ∉ os → os[n]? = some C → ((numL m (os.map fun D' => .bl (decide (C = D') || decide (D' = L)))).filter c).map f = [.int ((m + n : Nat) : Int)]
  | [], _, _, _, _, e => by simp at e
  | x :: os, m, 0, hn, hL, e => by
    simp at e
    subst e
    have hx := List.nodup_cons.mp hn
    simp only [List.map_cons, numL, List.filter_cons, hc, decide_true, Bool.true_or, if_true]
    rw [kinds_none (L := L) hc os (m + 1) hx.1 fun h => hL (List.mem_cons_of_mem _ h), List.map_nil, hf]
    rfl
  | x :: os, m, n + 1, hn, hL, e => by
    have hx := List.nodup_cons.mp hn
    have e' : os[n]? = some C := by simpa using e
    have hm : C ∈ os := List.mem_of_getElem? e'
    have e1 : (decide (C = x) || decide (x = L)) = false := by
      have n1 : C ≠ x := fun z => hx.1 (z ▸ hm)
      have n2 : x ≠ L := fun z => hL (z ▸ List.mem_cons_self)
      simp [n1, n2]
    simp only [List.map_cons, numL, List.filter_cons, hc, e1, Bool.false_eq_true, if_false]
    have := kinds_one hc hf os (m + 1) n hx.2 (fun h => hL (List.mem_cons_of_mem _ h)) e'
    rw [show m + (n + 1) = m + 1 + n by omega]
    simpa using this
theorem isE_in {sub : Addr → Option Bool} {C : Addr} {fs : List (Str × D)} {b : Bool} (h : sub C = some b) : isE sub (.exn C fs) = some b := h
def flagC (x : D) : Bool := match x with | .tup [_, .bl b] => b | _ => false
def numF (x : D) : D := match x with | .tup [i, _] => i | _ => .non
theorem wp__law_kinds (AA : Ad) (nd : (AA.c_LaneError :: AA.all).Nodup) : ∀ ds M F FE, sp__law_kinds AA ds M F FE → t__law_kinds AA (fun C fs _ M => FE C fs M) { nx := fun _ M => F .non M, rt := F } (startD ["_law_error", "_law_first_here", "_law_at", "_law_is_kind"] ds) M := by
  rintro ds M F FE ⟨n, fs, rfl, hn, k⟩
  have hC := clsAt_mem (AA := AA) hn
  have hat : AA.all[n]? = some (clsAt AA n) := by
    have hl : n < AA.all.length := hn
    unfold clsAt
    rw [List.getD_eq_getElem?_getD, List.getElem?_eq_getElem hl]
    rfl
  generalize clsAt AA n = C at hC hat ⊢
  have hnd := List.nodup_cons.mp nd
  unfold t__law_kinds
  repeat first | walk_at "z1" | rw [isE_in (subX_in hC)]
  refine w_small (by show 4 ≤ 16777216; decide) ?_
  repeat first | walk_at "z1" | rw [isE_in (subX_in hC)]
  refine w_small (by show 4 ≤ 16777216; decide) ?_
  refine w_catL (by show 8 ≤ 16777216; decide) ?_
  repeat first | walk_at "z1" | rw [isE_in (subX_in hC)]
  refine w_small (by show 4 ≤ 16777216; decide) ?_
  refine w_catL (by show 12 ≤ 16777216; decide) ?_
  repeat first | walk_at "z1" | rw [isE_in (subX_in hC)]
  refine w_small (by show 5 ≤ 16777216; decide) ?_
  refine w_catL (by show 17 ≤ 16777216; decide) ?_
  walk_at "z"
  refine lc_pure (numL 0 (AA.all.map fun D' => .bl (decide (C = D') || decide (D' = AA.c_LaneError)))) numF flagC (by rw [numL_len, List.length_map]; show 17 ≤ 16777216; decide) M ?_ ?_ ?_
  · intro x hx M2 R hR
    obtain ⟨i, hi⟩ := List.getElem?_of_mem hx
    obtain ⟨y, hy, rfl⟩ := numL_get _ _ _ _ hi
    obtain ⟨z, hz, rfl⟩ := List.mem_map.mp (List.mem_of_getElem? hy)
    refine w_gtupT rfl ?_
    walk_at "z"
    refine hR _ (fun R2 h => ?_) (fun _ R3 h => ?_)
    · walk_at "z"
      exact h
    · walk_at "z"
      exact h
  · rw [kinds_one (fun _ _ => rfl) (fun _ _ => rfl) AA.all 0 n hnd.2 hnd.1 hat, Nat.zero_add]
    exact k
  · intro R h
    refine w_enum ?_
    walk_at "z"
    exact h
theorem wp__law_value (AA : Ad) : ∀ ds M F FE, sp__law_value AA ds M F FE → t__law_value AA (fun C fs _ M => FE C fs M) { nx := fun _ M => F .non M, rt := F } (startD ["_law_nut_here"] ds) M := by
  rintro ds M F FE ⟨a, t, rest, rfl, rfl, hN, ht, k⟩
  unfold t__law_value
  walk_at "z"
  refine w_small (by show 2 ≤ 16777216; decide) ?_
  walk_at "z"
  refine w_small (by show 1 ≤ 16777216; decide) ?_
  walk_at "z"
  refine w_small (by show 2 ≤ 16777216; decide) ?_
  walk_at "z"
  refine w_dict fun p hp => ?_
  walk_at "z"
  refine ⟨mput_same, ?_⟩
  rw [mdel_mput hp]
  walk_at "z"
  refine w_small (by show 0 ≤ 16777216; decide) ?_
  walk_at "z"
  refine w_rdIC (by show CPow 10 30; unfold CPow; omega) ?_
  walk_at "z"
  refine w_small (by show 11 ≤ 16777216; decide) ?_
  walk_at "z"
  exact pick_do hN ht (by show 0 < 11; decide) (by show 11 ≤ 1000; decide) fun d M2 hd n2 u2 => k d M2 n2 u2 hd
theorem wp__law_raises (AA : Ad) : ∀ ds M F FE, sp__law_raises AA ds M F FE → t__law_raises AA (fun C fs _ M => FE C fs M) { nx := fun _ M => F .non M, rt := F } (startD ["_law_at", "_law_one", "_law_other", "_law_by_name"] ds) M := by
  rintro ds M F FE ⟨n, one, other, b, rfl, hn, k⟩
  unfold t__law_raises
  walk_at "z"
  refine w_dec (fun c => ?_) (fun c => ?_)
  · walk_at "z"
    exact ⟨n, one, other, b, rfl, by omega, hn, k⟩
  walk_at "z"
  refine w_bool (fun c2 => ?_) (fun c2 => ?_)
  · walk_at "z"
    exact ⟨n, one, other, rfl, by omega, k⟩
  walk_at "z"
  exact ⟨n, one, other, rfl, by omega, k⟩
theorem w_reprE {te : TED} {W : WD} {τ : EnvD} {M : MH} {Q : QD} (h : te W τ M fun d M1 => match d with | .lst xs => (match toPyEs xs with | some ps => okRepr (.list ps) ∧ Q (.str (PyData.list ps).shown) M1 | none => False) | _ => False) : tReprE te W τ M Q := h
theorem eq_self_str (x : Str) : eqD (.str x) (.str x) = some true := by show some (decide (x = x)) = _; rw [decide_eq_true rfl]
theorem eq_ints (n : Nat) : eqD (.lst [.int n]) (.lst [.int n]) = some true := by show some _ = _; simp [PyData.eqv, PyData.eqvAll]
theorem right_end {AA : Ad} {n : Nat} {one other : D} {W : WD} {τ : EnvD} {M : MH} {Q : QD} {ps : List PyData} (hn : n < 17) (e : toPyEs (dueD n one other) = some ps) (ok : okRepr (.list ps)) (h0 : getN τ 0 = some (.int n)) (h4 : getN τ 4 = some (.exn (clsAt AA n) (exFs n one other)))
    (h6 : getN τ 6 = some (.lst (dueD n one other))) (k : Q (.bl true) M) : tReprE (tCallD (sp__law_fields AA) (tConsD (tVarD 0) (tConsD (tVarD 4) tNilD))) W τ M fun x M1 => tReprE (tVarD 6) W τ M1 fun y M2 => rdEq x y M2 Q := by
  refine w_reprE (w_call (w_cons (w_var h0 (w_cons (w_var h4 (w_nil ?_))))))
  refine ⟨n, one, other, rfl, hn, ?_⟩
  dsimp only
  rw [e]
  refine ⟨ok, ?_⟩
  refine w_reprE (w_var h6 ?_)
  dsimp only
  rw [e]
  refine ⟨ok, ?_⟩
  exact w_eq (eq_self_str _) k
theorem wp__law_right (AA : Ad) : ∀ ds M F FE, sp__law_right AA ds M F FE → t__law_right AA (fun C fs _ M => FE C fs M) { nx := fun _ M => F .non M, rt := F } (startD ["_law_at", "_law_one", "_law_other", "_law_by_name", "_law_caught", "_law_error", "_law_due"] ds) M := by
  rintro ds M F FE ⟨n, one, other, b, rfl, hn, h1, h2, k⟩
  obtain ⟨ps, ep, ok⟩ := due_ok (n := n) h1 h2
  have hC := clsAt_mem (AA := AA) hn
  unfold t__law_right
  walk_at "z"
  refine w_tryK ?_
  walk_at "z"
  refine ⟨n, one, other, b, rfl, hn, try_in hC ⟨by show 5 < 7; decide, ?_⟩⟩
  walk_at "z"
  rw [isE_in (subV_in hC)]
  walk_at "z"
  refine w_false ?_
  walk_at "z"
  refine ⟨n, _, rfl, hn, ?_⟩
  walk_at "z"
  refine w_small (by show 1 ≤ 16777216; decide) ?_
  refine w_ne (b := true) (eq_ints n) ?_
  walk_at "z"
  refine w_false ?_
  walk_at "z"
  refine w_eq rfl ?_
  refine w_dec (fun c => ?_) (fun c => ?_)
  · walk_at "z"
    refine w_small (by show 0 ≤ 16777216; decide) ?_
    walk_at "z"
    refine right_end hn ep ok rfl rfl ?_ k
    rw [show dueD n one other = [] by unfold dueD; rw [if_pos (by omega)]]
    rfl
  walk_at "z"
  refine w_dec (fun c => ?_) (fun c => ?_)
  · walk_at "z"
    refine w_small (by show 2 ≤ 16777216; decide) ?_
    walk_at "z"
    refine right_end hn ep ok rfl rfl ?_ k
    rw [show dueD n one other = [one, other] by unfold dueD; rw [if_neg (by omega), if_pos (by omega)]]
    rfl
  · walk_at "z"
    refine w_small (by show 1 ≤ 16777216; decide) ?_
    walk_at "z"
    refine right_end hn ep ok rfl rfl ?_ k
    rw [show dueD n one other = [one] by unfold dueD; rw [if_neg (by omega), if_neg (by omega)]]
    rfl
theorem wp_law (AA : Ad) : ∀ ds M F FE, spLaw ds M F FE → t_law AA (fun C fs _ M => FE C fs M) { nx := fun _ M => F .non M, rt := F } (startD ["_law_script", "_law_nut_here", "_law_at", "_law_one", "_law_other"] ds) M := by
  rintro ds M F FE ⟨ns, rfl, hl, rfl, k⟩
  unfold t_law
  walk_at "z"
  refine ⟨ns, rfl, hl, fun p M1 _ n1 u1 => ?_⟩
  walk_at "z"
  refine w_for ?_
  walk_at "z"
  refine ⟨⟨by omega, by omega⟩, ?_⟩
  refine ⟨fun i τ' M' => NutAt M' p (i * 2) ∧ ∃ x2 x3 x4, τ' = [some (.lst (ns.map D.int)), some (.ref p), x2, x3, x4], ⟨by simpa using n1, _, _, _, rfl⟩, ?_, ?_⟩
  · rintro i x τ' M' hx ⟨nn, x2, x3, x4, rfl⟩
    have hi : i < 17 := (upFrom_get hx).1
    obtain rfl : x = .int (i : Int) := by rw [(upFrom_get hx).2, Int.zero_add]
    walk_at "z"
    refine draw_do nn (by omega) rfl fun d M2 n2 u2 hd => ?_
    walk_at "z"
    refine draw_do n2 (by omega) rfl fun e M3 n3 u3 he => ?_
    walk_at "z"
    refine ⟨i, d, e, false, rfl, hi, hd, he, ?_⟩
    walk_at "z"
    refine w_false ?_
    walk_at "z"
    refine ⟨i, d, e, true, rfl, hi, hd, he, ?_⟩
    walk_at "z"
    refine w_false ?_
    walk_at "z"
    refine ⟨n3.mono ?_, _, _, _, rfl⟩
    omega
  · rintro τ' M' ⟨nn, x2, x3, x4, rfl⟩
    walk_at "z"
    exact k _
def t__law_nut (AA : Ad) : TSD := (tRetD (tLstM (tConsD (tLcD (iSeqD (tSlD (tVarD 0) tNoPartD (tPartD (tCD (.int 60))))) (gNameD 1) tYesD (tCBD rdInt (tConsD (tVarD 1) tNilD)) [1]) (tConsD (tCD (.int 0)) (tConsD (tCD (.int 0)) tNilD)))))
def t__law_crack (AA : Ad) : TSD := (tSeqD (tIfD (tTestB (tOpD (rdB fun i j => decide (j < i)) (tOpD rdIx (tVarD 0) (tCD (.int 2))) (tCD (.int 0))))
    (tSeqD (tSetD 2 (tCBD rdInt (tConsD (tOpD rdIx (tVarD 0) (tCD (.int 2))) tNilD)))
  (tSeqD (tSetIx (tOpD (rdIC DivOk fun i j => i.fdiv j) (tVarD 2) (tVarD 1)) (tVarD 0) (tCD (.int 2)))
  (tRetD (tOpD (rdIC (fun _ j => 0 < j) fun i j => i % j) (tCBD rdInt (tConsD (tVarD 2) tNilD)) (tVarD 1)))))
    tNextD)
  (tSeqD (tSetD 3 (tOpD rdIx (tVarD 0) (tCD (.int 1))))
  (tSeqD (tSetIx (tOpD rdAdd (tVarD 3) (tCD (.int 1))) (tVarD 0) (tCD (.int 1)))
  (tSeqD (tSetD 4 (tOpD rdAdd (tOpD rdMul (tCD (.int 108127)) (tVarD 3)) (tCD (.int 8111))))
  (tSeqD (tIfD (tTestB (tOpD rdNe (tOpD rdIx (tVarD 0) (tCD (.int 0))) (tLstD tNilD)))
    (tSetD 4 (tOpD rdIx (tOpD rdIx (tVarD 0) (tCD (.int 0))) (tOpD (rdIC (fun _ j => 0 < j) fun i j => i % j) (tCBD rdInt (tConsD (tVarD 3) tNilD)) (tCBD rdLen (tConsD (tOpD rdIx (tVarD 0) (tCD (.int 0))) tNilD)))))
    tNextD)
  (tSeqD (tIfD (tAndD (tTestB (tOpD (rdB fun i j => decide (i < j)) (tVarD 3) (tCBD rdLen (tConsD (tOpD rdIx (tVarD 0) (tCD (.int 0))) tNilD)))) (tTestB (tOpD (rdB fun i j => decide (j ≤ i)) (tCBD rdAbs (tConsD (tVarD 4) tNilD)) (tOpD (rdIC CPow fun i j => i ^ j.toNat) (tCD (.int 10)) (tCD (.int 18))))))
    (tSeqD (tSetD 2 (tOpD rdAdd (tOpD rdMul (tCD (.int 2)) (tOpD (rdI fun i j => i - j) (tCBD rdAbs (tConsD (tCBD rdInt (tConsD (tVarD 4) tNilD)) tNilD)) (tOpD (rdIC CPow fun i j => i ^ j.toNat) (tCD (.int 10)) (tCD (.int 18))))) (tCBD rdInt (tConsD (tOpD (rdB fun i j => decide (i < j)) (tVarD 4) (tCD (.int 0))) tNilD))))
  (tSeqD (tSetIx (tOpD (rdIC DivOk fun i j => i.fdiv j) (tVarD 2) (tVarD 1)) (tVarD 0) (tCD (.int 2)))
  (tRetD (tOpD (rdIC (fun _ j => 0 < j) fun i j => i % j) (tCBD rdInt (tConsD (tVarD 2) tNilD)) (tVarD 1)))))
    tNextD)
  (tSeqD (tSetD 5 (tOpD (rdIC (fun _ j => 0 < j) fun i j => i % j) (tCBD rdInt (tConsD (tOpD (rdIC CPow fun i j => i ^ j.toNat) (tOpD rdAdd (tOpD rdAdd (tOpD (rdIC (fun _ j => 0 < j) fun i j => i % j) (tCBD rdInt (tConsD (tVarD 4) tNilD)) (tCD (.int 2147483563))) (tOpD rdMul (tCD (.int 85103)) (tVarD 3))) (tCD (.int 8111))) (tCD (.int 5))) tNilD)) (tCD (.int 2147483579))))
  (tSeqD (tSetD 5 (tOpD (rdIC (fun _ j => 0 < j) fun i j => i % j) (tCBD rdInt (tConsD (tOpD (rdIC CPow fun i j => i ^ j.toNat) (tOpD rdAdd (tOpD rdAdd (tOpD rdMul (tVarD 5) (tOpD rdAdd (tOpD rdMul (tCD (.int 2)) (tVarD 3)) (tCD (.int 8111)))) (tOpD rdMul (tOpD rdMul (tCD (.int 108127)) (tVarD 3)) (tVarD 3))) (tCD (.int 85103))) (tCD (.int 3))) tNilD)) (tCD (.int 2147483549))))
  (tRetD (tOpD (rdIC (fun _ j => 0 < j) fun i j => i % j) (tCBD rdInt (tConsD (tOpD (rdIC DivOk fun i j => i.fdiv j) (tVarD 5) (tCD (.int 64))) tNilD)) (tVarD 1)))))))))))
def t__law_pick (AA : Ad) : TSD := (tRetD (tOpD rdIx (tVarD 1) (tCallD spSieve (tConsD (tVarD 0) (tConsD (tCBD rdLen (tConsD (tVarD 1) tNilD)) tNilD)))))
theorem wp__law_nut (AA : Ad) : ∀ ds M F FE, spGrit ds M F FE → t__law_nut AA (fun C fs _ M => FE C fs M) { nx := fun _ M => F .non M, rt := F } (startD ["_law_script", "_law_cell"] ds) M := fun ds M F FE h => wp_grit (n := 60) rfl _ ds M F FE h
theorem wp__law_pick (AA : Ad) : ∀ ds M F FE, spPick ds M F FE → t__law_pick AA (fun C fs _ M => FE C fs M) { nx := fun _ M => F .non M, rt := F } (startD ["_law_nut_here", "_law_some"] ds) M := fun ds M F FE h => wp_pick rfl _ ds M F FE h
theorem wp__law_crack (AA : Ad) : ∀ ds M F FE, spSieve ds M F FE → t__law_crack AA (fun C fs _ M => FE C fs M) { nx := fun _ M => F .non M, rt := F } (startD ["_law_nut_here", "_law_many", "_law_left", "_law_turn", "_law_cell", "_law_mixed"] ds) M :=
  fun ds M F FE h => wp_sieve (c1 := 108127) (c2 := 8111) (m1 := 2147483563) (c3 := 85103) (m2 := 2147483579) (m3 := 2147483549) rfl (by decide) _ ds M F FE h
section
open PySem.Spec
variable {P : Program} {w : World} {K : PySem.W.Frag} {mg : Str → Option Value} {base : Heap}
theorem ok__law_nut {AA : Ad} (T : Txt K mg AA) : FnZ P w K mg base 1 T.a__law_nut T.d__law_nut ["_law_script"] spGrit :=
  fnZ (k := 0) (t := (t__law_nut AA)) T.F__law_nut sc__law_nut (len__law_nut AA) (fun cdv A outer s H E hr hgd => by exact (pdb_one (pds_ret (pd_lstM (pda_cons (pd_lc (own := [("_law_cell", 1)]) (gd := (gNameD 1)) rfl sc__law_nut.nd (pdi_seq (pd_slice (pd_var 0) pdo_none (pdo_some pd_int))) (blkOk_by (N := ["_law_script", "_law_cell"]) (sc := defScope s__law_nut) (by decide +kernel)) (fun _ _ _ _ _ => pg_name (i := 1) sc__law_nut.nd rfl (Or.inl rfl)) (tgt_name (by decide)) (fun _ _ _ _ _ => pdts_nil) (fun _ _ _ _ _ => (pd_int1 T.n_int (pda_cons (pd_var 1) pda_nil)))) (pda_cons pd_int (pda_cons pd_int pda_nil))))))) (wp__law_nut AA)
theorem ok__law_crack {AA : Ad} (T : Txt K mg AA) : FnZ P w K mg base 1 T.a__law_crack T.d__law_crack ["_law_nut_here", "_law_many"] spSieve :=
  fnZ (k := 0) (t := (t__law_crack AA)) T.F__law_crack sc__law_crack (len__law_crack AA) (fun cdv A outer s H E hr hgd => by exact (pdb_cons (pds_if (pdt_gt (pd_ix (pd_var 0) pd_int) pd_int) (pdb_cons (pds_set (i := 2) (pd_int1 T.n_int (pda_cons (pd_ix (pd_var 0) pd_int) pda_nil)) sc__law_crack.nd) (pdb_cons (pds_setix (pd_fdiv (pd_var 2) (pd_var 1)) (pd_var 0) pd_int) (pdb_one (pds_ret (pd_mod (pd_int1 T.n_int (pda_cons (pd_var 2) pda_nil)) (pd_var 1)))))) pdb_nil) (pdb_cons (pds_set (i := 3) (pd_ix (pd_var 0) pd_int) sc__law_crack.nd) (pdb_cons (pds_setix (pd_addA (pd_var 3) pd_int) (pd_var 0) pd_int) (pdb_cons (pds_set (i := 4) (pd_addA (pd_mulA pd_int (pd_var 3)) pd_int) sc__law_crack.nd) (pdb_cons (pds_if (pdt_ne (hrU hr) (pd_ix (pd_var 0) pd_int) (pd_lst pda_nil)) (pdb_one (pds_set (i := 4) (pd_ix (pd_ix (pd_var 0) pd_int) (pd_mod (pd_int1 T.n_int (pda_cons (pd_var 3) pda_nil)) (pd_len T.n_len (pda_cons (pd_ix (pd_var 0) pd_int) pda_nil)))) sc__law_crack.nd)) pdb_nil) (pdb_cons (pds_if (pdt_w (pdw_and (pdt_lt (pd_var 3) (pd_len T.n_len (pda_cons (pd_ix (pd_var 0) pd_int) pda_nil))) (pdw_and1 (pdt_ge (pd_abs T.n_abs (pda_cons (pd_var 4) pda_nil)) (pd_pow pd_int pd_int))))) (pdb_cons (pds_set (i := 2) (pd_addA (pd_mulA pd_int (pd_sub (pd_abs T.n_abs (pda_cons (pd_int1 T.n_int (pda_cons (pd_var 4) pda_nil)) pda_nil)) (pd_pow pd_int pd_int))) (pd_int1 T.n_int (pda_cons (pd_lt (pd_var 4) pd_int) pda_nil))) sc__law_crack.nd) (pdb_cons (pds_setix (pd_fdiv (pd_var 2) (pd_var 1)) (pd_var 0) pd_int) (pdb_one (pds_ret (pd_mod (pd_int1 T.n_int (pda_cons (pd_var 2) pda_nil)) (pd_var 1)))))) pdb_nil) (pdb_cons (pds_set (i := 5) (pd_mod (pd_int1 T.n_int (pda_cons (pd_pow (pd_addA (pd_addA (pd_mod (pd_int1 T.n_int (pda_cons (pd_var 4) pda_nil)) pd_int) (pd_mulA pd_int (pd_var 3))) pd_int) pd_int) pda_nil)) pd_int) sc__law_crack.nd) (pdb_cons (pds_set (i := 5) (pd_mod (pd_int1 T.n_int (pda_cons (pd_pow (pd_addA (pd_addA (pd_mulA (pd_var 5) (pd_addA (pd_mulA pd_int (pd_var 3)) pd_int)) (pd_mulA (pd_mulA pd_int (pd_var 3)) (pd_var 3))) pd_int) pd_int) pda_nil)) pd_int) sc__law_crack.nd) (pdb_one (pds_ret (pd_mod (pd_int1 T.n_int (pda_cons (pd_fdiv (pd_var 5) pd_int) pda_nil)) (pd_var 1))))))))))))) (wp__law_crack AA)
theorem ok__law_pick {AA : Ad} (T : Txt K mg AA) : FnZ P w K mg base 2 T.a__law_pick T.d__law_pick ["_law_nut_here", "_law_some"] spPick :=
  fnZ (k := 1) (t := (t__law_pick AA)) T.F__law_pick sc__law_pick (len__law_pick AA) (fun cdv A outer s H E hr hgd => by exact (pdb_one (pds_ret (pd_ix (pd_var 1) (pd_callZ (ok__law_crack T) (hr.mono (by first | decide | omega)) hgd T.g__law_crack T.F__law_crack.kp (b__law_crack T) (pda_cons (pd_var 0) (pda_cons (pd_len T.n_len (pda_cons (pd_var 1) pda_nil)) pda_nil))))))) (wp__law_pick AA)
theorem ok__law_value {AA : Ad} (T : Txt K mg AA) : FnZ P w K mg base 3 T.a__law_value T.d__law_value ["_law_nut_here"] (sp__law_value AA) :=
  fnZ (k := 2) (t := (t__law_value AA)) T.F__law_value sc__law_value (len__law_value AA) (fun cdv A outer s H E hr hgd => by exact (pdb_one (pds_ret (pd_callZ (ok__law_pick T) (hr.mono (by first | decide | omega)) hgd T.g__law_pick T.F__law_pick.kp (b__law_pick T) (pda_cons (pd_var 0) (pda_cons (pd_lst (pda_cons pd_non (pda_cons pd_bl (pda_cons pd_int (pda_cons (pd_neg pd_int) (pda_cons (pd_tup (pda_cons pd_int (pda_cons pd_int pda_nil))) (pda_cons pd_str (pda_cons (pd_lst (pda_cons pd_int (pda_cons (pd_lst (pda_cons pd_int pda_nil)) pda_nil))) (pda_cons (pd_dict (pdps_cons (k := (Sum.inr "a")) (fun _ _ => pe_str) pd_int pdps_nil)) (pda_cons (pd_tup pda_nil) (pda_cons pd_str (pda_cons (pd_pow pd_int pd_int) pda_nil)))))))))))) pda_nil)))))) (wp__law_value AA)
theorem ok__law_first {AA : Ad} (T : Txt K mg AA) : FnZ P w K mg base 3 T.a__law_first T.d__law_first ["_law_at", "_law_one"] (sp__law_first AA) :=
  fnZ (k := 2) (t := (t__law_first AA)) T.F__law_first sc__law_first (len__law_first AA) (fun cdv A outer s H E hr hgd => by exact (pdb_cons (pds_if (pdt_eq (hrU hr) (pd_var 0) pd_int) (pdb_one (pds_raise1 rfl ⟨T.x_BadNumber.k, T.iC_BadNumber, T.tI_BadNumber⟩ (init_BadNumber T) (hr.mono (by first | decide | omega)) (bi_BadNumber T) T.gc_BadNumber (pdn_cons (pd_var 1) pdn_nil))) pdb_nil) (pdb_cons (pds_if (pdt_eq (hrU hr) (pd_var 0) pd_int) (pdb_one (pds_raise1 rfl ⟨T.x_BadSpot.k, T.iC_BadSpot, T.tI_BadSpot⟩ (init_BadSpot T) (hr.mono (by first | decide | omega)) (bi_BadSpot T) T.gc_BadSpot (pdn_cons (pd_var 1) pdn_nil))) pdb_nil) (pdb_cons (pds_if (pdt_eq (hrU hr) (pd_var 0) pd_int) (pdb_one (pds_raise1 rfl ⟨T.x_BadPiece.k, T.iC_BadPiece, T.tI_BadPiece⟩ (init_BadPiece T) (hr.mono (by first | decide | omega)) (bi_BadPiece T) T.gc_BadPiece (pdn_cons (pd_var 1) pdn_nil))) pdb_nil) (pdb_cons (pds_if (pdt_eq (hrU hr) (pd_var 0) pd_int) (pdb_one (pds_raise1 rfl ⟨T.x_BadFront.k, T.iC_BadFront, T.tI_BadFront⟩ (init_BadFront T) (hr.mono (by first | decide | omega)) (bi_BadFront T) T.gc_BadFront (pdn_cons (pd_var 1) pdn_nil))) pdb_nil) (pdb_cons (pds_if (pdt_eq (hrU hr) (pd_var 0) pd_int) (pdb_one (pds_raise1 rfl ⟨T.x_BadWorld.k, T.iC_BadWorld, T.tI_BadWorld⟩ (init_BadWorld T) (hr.mono (by first | decide | omega)) (bi_BadWorld T) T.gc_BadWorld (pdn_cons (pd_var 1) pdn_nil))) pdb_nil) (pdb_cons (pds_if (pdt_eq (hrU hr) (pd_var 0) pd_int) (pdb_one (pds_raise1 rfl ⟨T.x_BadLevel.k, T.iC_BadLevel, T.tI_BadLevel⟩ (init_BadLevel T) (hr.mono (by first | decide | omega)) (bi_BadLevel T) T.gc_BadLevel (pdn_cons (pd_var 1) pdn_nil))) pdb_nil) (pdb_cons (pds_if (pdt_eq (hrU hr) (pd_var 0) pd_int) (pdb_one (pds_raise1 rfl ⟨T.x_BadPlay.k, T.iC_BadPlay, T.tI_BadPlay⟩ (init_BadPlay T) (hr.mono (by first | decide | omega)) (bi_BadPlay T) T.gc_BadPlay (pdn_cons (pd_var 1) pdn_nil))) pdb_nil) (pdb_cons (pds_if (pdt_eq (hrU hr) (pd_var 0) pd_int) (pdb_one (pds_raise1 rfl ⟨T.x_BadPaper.k, T.iC_BadPaper, T.tI_BadPaper⟩ (init_BadPaper T) (hr.mono (by first | decide | omega)) (bi_BadPaper T) T.gc_BadPaper (pdn_cons (pd_var 1) pdn_nil))) pdb_nil) (pdb_cons (pds_if (pdt_eq (hrU hr) (pd_var 0) pd_int) (pdb_one (pds_raise1 rfl ⟨T.x_Misfit.k, T.iC_Misfit, T.tI_Misfit⟩ (init_Misfit T) (hr.mono (by first | decide | omega)) (bi_Misfit T) T.gc_Misfit (pdn_cons (pd_var 1) pdn_nil))) pdb_nil) (pdb_cons (pds_if (pdt_eq (hrU hr) (pd_var 0) pd_int) (pdb_one (pds_raise1 rfl ⟨T.x_NoName.k, T.iC_NoName, T.tI_NoName⟩ (init_NoName T) (hr.mono (by first | decide | omega)) (bi_NoName T) T.gc_NoName (pdn_cons (pd_var 1) pdn_nil))) pdb_nil) (pdb_cons (pds_if (pdt_eq (hrU hr) (pd_var 0) pd_int) (pdb_one (pds_raise1 rfl ⟨T.x_NoPiece.k, T.iC_NoPiece, T.tI_NoPiece⟩ (init_NoPiece T) (hr.mono (by first | decide | omega)) (bi_NoPiece T) T.gc_NoPiece (pdn_cons (pd_var 1) pdn_nil))) pdb_nil) (pdb_cons (pds_if (pdt_eq (hrU hr) (pd_var 0) pd_int) (pdb_one (pds_raise1 rfl ⟨T.x_Twice.k, T.iC_Twice, T.tI_Twice⟩ (init_Twice T) (hr.mono (by first | decide | omega)) (bi_Twice T) T.gc_Twice (pdn_cons (pd_var 1) pdn_nil))) pdb_nil) (pdb_one (pds_raise1 rfl ⟨T.x_Refused.k, T.iC_Refused, T.tI_Refused⟩ (init_Refused T) (hr.mono (by first | decide | omega)) (bi_Refused T) T.gc_Refused (pdn_cons (pd_var 1) pdn_nil)))))))))))))))) (wp__law_first AA)
theorem ok__law_named {AA : Ad} (T : Txt K mg AA) : FnZ P w K mg base 3 T.a__law_named T.d__law_named ["_law_at", "_law_one"] (sp__law_named AA) :=
  fnZ (k := 2) (t := (t__law_named AA)) T.F__law_named sc__law_named (len__law_named AA) (fun cdv A outer s H E hr hgd => by exact (pdb_cons (pds_if (pdt_eq (hrU hr) (pd_var 0) pd_int) (pdb_one (pds_raiseK1 rfl ⟨T.x_BadNumber.k, T.iC_BadNumber, T.tI_BadNumber⟩ (init_BadNumber T) (hr.mono (by first | decide | omega)) (bs_BadNumber_part T) rfl T.gc_BadNumber (pdkn_cons (pd_var 1) pdkn_nil) rfl (fun _ _ => rfl))) pdb_nil) (pdb_cons (pds_if (pdt_eq (hrU hr) (pd_var 0) pd_int) (pdb_one (pds_raiseK1 rfl ⟨T.x_BadSpot.k, T.iC_BadSpot, T.tI_BadSpot⟩ (init_BadSpot T) (hr.mono (by first | decide | omega)) (bs_BadSpot_part T) rfl T.gc_BadSpot (pdkn_cons (pd_var 1) pdkn_nil) rfl (fun _ _ => rfl))) pdb_nil) (pdb_cons (pds_if (pdt_eq (hrU hr) (pd_var 0) pd_int) (pdb_one (pds_raiseK1 rfl ⟨T.x_BadPiece.k, T.iC_BadPiece, T.tI_BadPiece⟩ (init_BadPiece T) (hr.mono (by first | decide | omega)) (bs_BadPiece_part T) rfl T.gc_BadPiece (pdkn_cons (pd_var 1) pdkn_nil) rfl (fun _ _ => rfl))) pdb_nil) (pdb_cons (pds_if (pdt_eq (hrU hr) (pd_var 0) pd_int) (pdb_one (pds_raiseK1 rfl ⟨T.x_BadFront.k, T.iC_BadFront, T.tI_BadFront⟩ (init_BadFront T) (hr.mono (by first | decide | omega)) (bs_BadFront_part T) rfl T.gc_BadFront (pdkn_cons (pd_var 1) pdkn_nil) rfl (fun _ _ => rfl))) pdb_nil) (pdb_cons (pds_if (pdt_eq (hrU hr) (pd_var 0) pd_int) (pdb_one (pds_raiseK1 rfl ⟨T.x_BadWorld.k, T.iC_BadWorld, T.tI_BadWorld⟩ (init_BadWorld T) (hr.mono (by first | decide | omega)) (bs_BadWorld_part T) rfl T.gc_BadWorld (pdkn_cons (pd_var 1) pdkn_nil) rfl (fun _ _ => rfl))) pdb_nil) (pdb_cons (pds_if (pdt_eq (hrU hr) (pd_var 0) pd_int) (pdb_one (pds_raiseK1 rfl ⟨T.x_BadLevel.k, T.iC_BadLevel, T.tI_BadLevel⟩ (init_BadLevel T) (hr.mono (by first | decide | omega)) (bs_BadLevel_part T) rfl T.gc_BadLevel (pdkn_cons (pd_var 1) pdkn_nil) rfl (fun _ _ => rfl))) pdb_nil) (pdb_cons (pds_if (pdt_eq (hrU hr) (pd_var 0) pd_int) (pdb_one (pds_raiseK1 rfl ⟨T.x_BadPlay.k, T.iC_BadPlay, T.tI_BadPlay⟩ (init_BadPlay T) (hr.mono (by first | decide | omega)) (bs_BadPlay_part T) rfl T.gc_BadPlay (pdkn_cons (pd_var 1) pdkn_nil) rfl (fun _ _ => rfl))) pdb_nil) (pdb_cons (pds_if (pdt_eq (hrU hr) (pd_var 0) pd_int) (pdb_one (pds_raiseK1 rfl ⟨T.x_BadPaper.k, T.iC_BadPaper, T.tI_BadPaper⟩ (init_BadPaper T) (hr.mono (by first | decide | omega)) (bs_BadPaper_part T) rfl T.gc_BadPaper (pdkn_cons (pd_var 1) pdkn_nil) rfl (fun _ _ => rfl))) pdb_nil) (pdb_cons (pds_if (pdt_eq (hrU hr) (pd_var 0) pd_int) (pdb_one (pds_raiseK1 rfl ⟨T.x_Misfit.k, T.iC_Misfit, T.tI_Misfit⟩ (init_Misfit T) (hr.mono (by first | decide | omega)) (bs_Misfit_part T) rfl T.gc_Misfit (pdkn_cons (pd_var 1) pdkn_nil) rfl (fun _ _ => rfl))) pdb_nil) (pdb_cons (pds_if (pdt_eq (hrU hr) (pd_var 0) pd_int) (pdb_one (pds_raiseK1 rfl ⟨T.x_NoName.k, T.iC_NoName, T.tI_NoName⟩ (init_NoName T) (hr.mono (by first | decide | omega)) (bs_NoName_value T) rfl T.gc_NoName (pdkn_cons (pd_var 1) pdkn_nil) rfl (fun _ _ => rfl))) pdb_nil) (pdb_cons (pds_if (pdt_eq (hrU hr) (pd_var 0) pd_int) (pdb_one (pds_raiseK1 rfl ⟨T.x_NoPiece.k, T.iC_NoPiece, T.tI_NoPiece⟩ (init_NoPiece T) (hr.mono (by first | decide | omega)) (bs_NoPiece_value T) rfl T.gc_NoPiece (pdkn_cons (pd_var 1) pdkn_nil) rfl (fun _ _ => rfl))) pdb_nil) (pdb_cons (pds_if (pdt_eq (hrU hr) (pd_var 0) pd_int) (pdb_one (pds_raiseK1 rfl ⟨T.x_Twice.k, T.iC_Twice, T.tI_Twice⟩ (init_Twice T) (hr.mono (by first | decide | omega)) (bs_Twice_value T) rfl T.gc_Twice (pdkn_cons (pd_var 1) pdkn_nil) rfl (fun _ _ => rfl))) pdb_nil) (pdb_one (pds_raiseK1 rfl ⟨T.x_Refused.k, T.iC_Refused, T.tI_Refused⟩ (init_Refused T) (hr.mono (by first | decide | omega)) (bs_Refused_why T) rfl T.gc_Refused (pdkn_cons (pd_var 1) pdkn_nil) rfl (fun _ _ => rfl)))))))))))))))) (wp__law_named AA)
theorem ok__law_last {AA : Ad} (T : Txt K mg AA) : FnZ P w K mg base 3 T.a__law_last T.d__law_last ["_law_at", "_law_one", "_law_other", "_law_by_name"] (sp__law_last AA) :=
  fnZ (k := 2) (t := (t__law_last AA)) T.F__law_last sc__law_last (len__law_last AA) (fun cdv A outer s H E hr hgd => by exact (pdb_cons (pds_if (pdt_w (pdw_and (pdt_eq (hrU hr) (pd_var 0) pd_int) (pdw_and1 (pdt_tru (pd_var 3))))) (pdb_one (pds_raiseK2 rfl ⟨T.x_TooMany.k, T.iC_TooMany, T.tI_TooMany⟩ (init_TooMany T) (hr.mono (by first | decide | omega)) (bs_TooMany_most_what T) rfl T.gc_TooMany (pdkn_cons (pd_var 2) (pdkn_cons (pd_var 1) pdkn_nil)) rfl)) pdb_nil) (pdb_cons (pds_if (pdt_eq (hrU hr) (pd_var 0) pd_int) (pdb_one (pds_raise2 rfl ⟨T.x_TooMany.k, T.iC_TooMany, T.tI_TooMany⟩ (init_TooMany T) (hr.mono (by first | decide | omega)) (bi_TooMany T) T.gc_TooMany (pdn_cons (pd_var 1) (pdn_cons (pd_var 2) pdn_nil)))) pdb_nil) (pdb_cons (pds_if (pdt_w (pdw_and (pdt_eq (hrU hr) (pd_var 0) pd_int) (pdw_and1 (pdt_tru (pd_var 3))))) (pdb_one (pds_raiseK2 rfl ⟨T.x_BadText.k, T.iC_BadText, T.tI_BadText⟩ (init_BadText T) (hr.mono (by first | decide | omega)) (bs_BadText_item_line T) rfl T.gc_BadText (pdkn_cons (pd_var 2) (pdkn_cons (pd_var 1) pdkn_nil)) rfl)) pdb_nil) (pdb_cons (pds_if (pdt_eq (hrU hr) (pd_var 0) pd_int) (pdb_one (pds_raise2 rfl ⟨T.x_BadText.k, T.iC_BadText, T.tI_BadText⟩ (init_BadText T) (hr.mono (by first | decide | omega)) (bi_BadText T) T.gc_BadText (pdn_cons (pd_var 1) (pdn_cons (pd_var 2) pdn_nil)))) pdb_nil) (pdb_cons (pds_if (pdt_w (pdw_and (pdt_eq (hrU hr) (pd_var 0) pd_int) (pdw_and1 (pdt_tru (pd_var 3))))) (pdb_one (pds_raiseK2 rfl ⟨T.x_BadLine.k, T.iC_BadLine, T.tI_BadLine⟩ (init_BadLine T) (hr.mono (by first | decide | omega)) (bs_BadLine_error_line T) rfl T.gc_BadLine (pdkn_cons (pd_var 2) (pdkn_cons (pd_var 1) pdkn_nil)) rfl)) pdb_nil) (pdb_cons (pds_if (pdt_eq (hrU hr) (pd_var 0) pd_int) (pdb_one (pds_raise2 rfl ⟨T.x_BadLine.k, T.iC_BadLine, T.tI_BadLine⟩ (init_BadLine T) (hr.mono (by first | decide | omega)) (bi_BadLine T) T.gc_BadLine (pdn_cons (pd_var 1) (pdn_cons (pd_var 2) pdn_nil)))) pdb_nil) (pdb_one (pds_raise0 rfl T.n0_Nothing T.x_Nothing.k T.gc_Nothing))))))))) (wp__law_last AA)
theorem ok__law_kinds {AA : Ad} (T : Txt K mg AA) : FnZ P w K mg base 1 T.a__law_kinds T.d__law_kinds ["_law_error"] (sp__law_kinds AA) :=
  fnZ (k := 0) (t := (t__law_kinds AA)) T.F__law_kinds sc__law_kinds (len__law_kinds AA) (fun cdv A outer s H E hr hgd => by exact (pdb_cons (pds_set (i := 1) (pd_lst (pda_cons (pd_isX (fl := FL) T.xs (in_BadNumber AA) T.n_isinstance T.gc_BadNumber (pd_var 0)) (pda_cons (pd_isX (fl := FL) T.xs (in_BadSpot AA) T.n_isinstance T.gc_BadSpot (pd_var 0)) (pda_cons (pd_isX (fl := FL) T.xs (in_BadPiece AA) T.n_isinstance T.gc_BadPiece (pd_var 0)) (pda_cons (pd_isX (fl := FL) T.xs (in_BadFront AA) T.n_isinstance T.gc_BadFront (pd_var 0)) pda_nil))))) sc__law_kinds.nd) (pdb_cons (pds_set (i := 1) (pd_cat (pd_var 1) (pd_lst (pda_cons (pd_isX (fl := FL) T.xs (in_BadWorld AA) T.n_isinstance T.gc_BadWorld (pd_var 0)) (pda_cons (pd_isX (fl := FL) T.xs (in_BadLevel AA) T.n_isinstance T.gc_BadLevel (pd_var 0)) (pda_cons (pd_isX (fl := FL) T.xs (in_BadPlay AA) T.n_isinstance T.gc_BadPlay (pd_var 0)) (pda_cons (pd_isX (fl := FL) T.xs (in_BadPaper AA) T.n_isinstance T.gc_BadPaper (pd_var 0)) pda_nil)))))) sc__law_kinds.nd) (pdb_cons (pds_set (i := 1) (pd_cat (pd_var 1) (pd_lst (pda_cons (pd_isX (fl := FL) T.xs (in_Misfit AA) T.n_isinstance T.gc_Misfit (pd_var 0)) (pda_cons (pd_isX (fl := FL) T.xs (in_NoName AA) T.n_isinstance T.gc_NoName (pd_var 0)) (pda_cons (pd_isX (fl := FL) T.xs (in_NoPiece AA) T.n_isinstance T.gc_NoPiece (pd_var 0)) (pda_cons (pd_isX (fl := FL) T.xs (in_Twice AA) T.n_isinstance T.gc_Twice (pd_var 0)) pda_nil)))))) sc__law_kinds.nd) (pdb_cons (pds_set (i := 1) (pd_cat (pd_var 1) (pd_lst (pda_cons (pd_isX (fl := FL) T.xs (in_Refused AA) T.n_isinstance T.gc_Refused (pd_var 0)) (pda_cons (pd_isX (fl := FL) T.xs (in_TooMany AA) T.n_isinstance T.gc_TooMany (pd_var 0)) (pda_cons (pd_isX (fl := FL) T.xs (in_BadText AA) T.n_isinstance T.gc_BadText (pd_var 0)) (pda_cons (pd_isX (fl := FL) T.xs (in_BadLine AA) T.n_isinstance T.gc_BadLine (pd_var 0)) (pda_cons (pd_isX (fl := FL) T.xs (in_Nothing AA) T.n_isinstance T.gc_Nothing (pd_var 0)) pda_nil))))))) sc__law_kinds.nd) (pdb_one (pds_ret (pd_lc (own := [("_law_at", 2), ("_law_is_kind", 3)]) (gd := (gTupT 2 (gConsD (gNameD 2) (gConsD (gNameD 3) gNilD)))) rfl sc__law_kinds.nd (pdi_enum T.n_enumerate (pd_var 1)) (blkOk_by (N := ["_law_error", "_law_first_here", "_law_at", "_law_is_kind"]) (sc := defScope s__law_kinds) (by decide +kernel)) (fun _ _ _ _ _ => pg_tup rfl (pgs_cons (pg_name (i := 2) sc__law_kinds.nd rfl (Or.inl rfl)) (pgs_cons (pg_name (i := 3) sc__law_kinds.nd rfl (Or.inl rfl)) pgs_nil))) (tgt_tup (tgts_cons (tgt_name (by decide)) (tgts_cons (tgt_name (by decide)) tgts_nil))) (fun _ _ _ _ _ => (pdts_one (pdt_tru (pd_var 3)))) (fun _ _ _ _ _ => (pd_var 2)))))))))) (wp__law_kinds AA T.nd)
theorem ok__law_fields {AA : Ad} (T : Txt K mg AA) : FnZ P w K mg base 1 T.a__law_fields T.d__law_fields ["_law_at", "_law_error"] (sp__law_fields AA) :=
  fnZ (k := 0) (t := (t__law_fields AA)) T.F__law_fields sc__law_fields (len__law_fields AA) (fun cdv A outer s H E hr hgd => by exact (pdb_cons (pds_if (pdt_lt (pd_var 0) pd_int) (pdb_one (pds_ret (pd_lst (pda_cons (pd_fldA (f := "part") (fl := FL) T.xs (by decide) (pd_var 1)) pda_nil)))) pdb_nil) (pdb_cons (pds_if (pdt_lt (pd_var 0) pd_int) (pdb_one (pds_ret (pd_lst (pda_cons (pd_fldA (f := "value") (fl := FL) T.xs (by decide) (pd_var 1)) pda_nil)))) pdb_nil) (pdb_cons (pds_if (pdt_eq (hrU hr) (pd_var 0) pd_int) (pdb_one (pds_ret (pd_lst (pda_cons (pd_fldA (f := "why") (fl := FL) T.xs (by decide) (pd_var 1)) pda_nil)))) pdb_nil) (pdb_cons (pds_if (pdt_eq (hrU hr) (pd_var 0) pd_int) (pdb_one (pds_ret (pd_lst (pda_cons (pd_fldA (f := "what") (fl := FL) T.xs (by decide) (pd_var 1)) (pda_cons (pd_fldA (f := "most") (fl := FL) T.xs (by decide) (pd_var 1)) pda_nil))))) pdb_nil) (pdb_cons (pds_if (pdt_eq (hrU hr) (pd_var 0) pd_int) (pdb_one (pds_ret (pd_lst (pda_cons (pd_fldA (f := "line") (fl := FL) T.xs (by decide) (pd_var 1)) (pda_cons (pd_fldA (f := "item") (fl := FL) T.xs (by decide) (pd_var 1)) pda_nil))))) pdb_nil) (pdb_one (pds_ret (pd_ifE (pdt_eq (hrU hr) (pd_var 0) pd_int) (pd_lst (pda_cons (pd_fldA (f := "line") (fl := FL) T.xs (by decide) (pd_var 1)) (pda_cons (pd_fldA (f := "error") (fl := FL) T.xs (by decide) (pd_var 1)) pda_nil))) (pd_lst pda_nil)))))))))) (wp__law_fields AA)
theorem ok__law_raises {AA : Ad} (T : Txt K mg AA) : FnZ P w K mg base 4 T.a__law_raises T.d__law_raises ["_law_at", "_law_one", "_law_other", "_law_by_name"] (sp__law_raises AA) :=
  fnZ (k := 3) (t := (t__law_raises AA)) T.F__law_raises sc__law_raises (len__law_raises AA) (fun cdv A outer s H E hr hgd => by exact (pdb_cons (pds_if (pdt_gt (pd_var 0) pd_int) (pdb_one (pds_expr (pd_callZ (ok__law_last T) (hr.mono (by first | decide | omega)) hgd T.g__law_last T.F__law_last.kp (b__law_last T) (pda_cons (pd_var 0) (pda_cons (pd_var 1) (pda_cons (pd_var 2) (pda_cons (pd_var 3) pda_nil))))))) pdb_nil) (pdb_cons (pds_if (pdt_tru (pd_var 3)) (pdb_one (pds_expr (pd_callZ (ok__law_named T) (hr.mono (by first | decide | omega)) hgd T.g__law_named T.F__law_named.kp (b__law_named T) (pda_cons (pd_var 0) (pda_cons (pd_var 1) pda_nil))))) pdb_nil) (pdb_one (pds_expr (pd_callZ (ok__law_first T) (hr.mono (by first | decide | omega)) hgd T.g__law_first T.F__law_first.kp (b__law_first T) (pda_cons (pd_var 0) (pda_cons (pd_var 1) pda_nil)))))))) (wp__law_raises AA)
theorem ok__law_right {AA : Ad} (T : Txt K mg AA) : FnZ P w K mg base 5 T.a__law_right T.d__law_right ["_law_at", "_law_one", "_law_other", "_law_by_name"] (sp__law_right AA) :=
  fnZ (k := 4) (t := (t__law_right AA)) T.F__law_right sc__law_right (len__law_right AA) (fun cdv A outer s H E hr hgd => by exact (pdb_cons (pds_set (i := 4) pd_non sc__law_right.nd) (pdb_cons (pds_try_keep (i := 5) (j := 4) (ex := subV AA.all) (c := .ref AA.c_LaneError) rfl rfl rfl sc__law_right.nd rfl rfl rfl rfl (by decide) ⟨rfl, by decide, .inl T.gc_LaneError⟩ (exm_all (fl := FL) T.xs T.b_LaneError T.h_LaneError T.t_LaneError) (pdb_one (pds_expr (pd_callZ (ok__law_raises T) (hr.mono (by first | decide | omega)) hgd T.g__law_raises T.F__law_raises.kp (b__law_raises T) (pda_cons (pd_var 0) (pda_cons (pd_var 1) (pda_cons (pd_var 2) (pda_cons (pd_var 3) pda_nil))))))) (by decide) (by decide) rfl) (pdb_cons (pds_if (pdt_w (pdw_or (pdt_isN (pd_var 4)) (pdw_or (pdt_not (pdt_tru (pd_isV (fl := FL) T.xs T.n_isinstance T.n_ValueError (pd_var 4)))) (pdw_or1 (pdt_ne (hrU hr) (pd_callZ (ok__law_kinds T) (hr.mono (by first | decide | omega)) hgd T.g__law_kinds T.F__law_kinds.kp (b__law_kinds T) (pda_cons (pd_var 4) pda_nil)) (pd_lst (pda_cons (pd_var 0) pda_nil))))))) (pdb_one (pds_ret pd_bl)) pdb_nil) (pdb_cons (pds_set (i := 6) (pd_ifE (pdt_eq (hrU hr) (pd_var 0) pd_int) (pd_lst pda_nil) (pd_ifE (pdt_gt (pd_var 0) pd_int) (pd_lst (pda_cons (pd_var 1) (pda_cons (pd_var 2) pda_nil))) (pd_lst (pda_cons (pd_var 1) pda_nil)))) sc__law_right.nd) (pdb_one (pds_ret (pd_eq (hrU hr) (pd_reprE hgd (hrV hr) T.n_repr (pd_callZ (ok__law_fields T) (hr.mono (by first | decide | omega)) hgd T.g__law_fields T.F__law_fields.kp (b__law_fields T) (pda_cons (pd_var 0) (pda_cons (pd_var 4) pda_nil)))) (pd_reprE hgd (hrV hr) T.n_repr (pd_var 6)))))))))) (wp__law_right AA)
theorem ok_law {AA : Ad} (T : Txt K mg AA) : FnZ P w K mg base 6 T.a_law T.d_law ["_law_script"] spLaw :=
  fnZ (k := 5) (t := (t_law AA)) T.F_law sc_law (len_law AA) (fun cdv A outer s H E hr hgd => by exact (pdb_cons (pds_set (i := 1) (pd_callZ (ok__law_nut T) (hr.mono (by first | decide | omega)) hgd T.g__law_nut T.F__law_nut.kp (b__law_nut T) (pda_cons (pd_var 0) pda_nil)) sc_law.nd) (pdb_cons (pds_for rfl (pdi_rng1 T.n_range (pdn_cons pd_int pdn_nil)) (pdg_name (i := 2) sc_law.nd) (pdb_cons (pds_par (i := 3) (j := 4) rfl sc_law.nd (pda_cons (pd_callZ (ok__law_value T) (hr.mono (by first | decide | omega)) hgd T.g__law_value T.F__law_value.kp (b__law_value T) (pda_cons (pd_var 1) pda_nil)) (pda_cons (pd_callZ (ok__law_value T) (hr.mono (by first | decide | omega)) hgd T.g__law_value T.F__law_value.kp (b__law_value T) (pda_cons (pd_var 1) pda_nil)) pda_nil))) (pdb_one (pds_if (pdt_w (pdw_or (pdt_not (pdt_tru (pd_callZ (ok__law_right T) (hr.mono (by first | decide | omega)) hgd T.g__law_right T.F__law_right.kp (b__law_right T) (pda_cons (pd_var 2) (pda_cons (pd_var 3) (pda_cons (pd_var 4) (pda_cons pd_bl pda_nil))))))) (pdw_or1 (pdt_not (pdt_tru (pd_callZ (ok__law_right T) (hr.mono (by first | decide | omega)) hgd T.g__law_right T.F__law_right.kp (b__law_right T) (pda_cons (pd_var 2) (pda_cons (pd_var 3) (pda_cons (pd_var 4) (pda_cons pd_bl pda_nil)))))))))) (pdb_one (pds_ret pd_bl)) pdb_nil)))) (pdb_one (pds_ret pd_bl))))) (wp_law AA)
end
theorem all_mk {P : Program} {w : World} {K : PySem.W.Frag} {h : Heap} {mg : Str → Option Value} (X : K.In h) (G : h.Ns mainGlobals mg)
    {c_LaneError c_BadNumber c_BadSpot c_BadPiece c_BadFront c_BadWorld c_BadLevel c_BadPlay c_BadPaper c_Misfit c_NoName c_NoPiece c_Twice c_TooMany c_Refused c_Nothing c_BadText c_BadLine i_BadNumber i_BadSpot i_BadPiece i_BadFront i_BadWorld i_BadLevel i_BadPlay i_BadPaper i_Misfit i_NoName i_NoPiece i_Twice i_TooMany i_Refused i_BadText i_BadLine : Addr} {iod_BadNumber ian_BadNumber iod_BadSpot ian_BadSpot iod_BadPiece ian_BadPiece iod_BadFront ian_BadFront iod_BadWorld ian_BadWorld iod_BadLevel ian_BadLevel iod_BadPlay ian_BadPlay iod_BadPaper ian_BadPaper iod_Misfit ian_Misfit iod_NoName ian_NoName iod_NoPiece ian_NoPiece iod_Twice ian_Twice iod_TooMany ian_TooMany iod_Refused ian_Refused iod_BadText ian_BadText iod_BadLine ian_BadLine : Option Addr} {isl_BadNumber isl_BadSpot isl_BadPiece isl_BadFront isl_BadWorld isl_BadLevel isl_BadPlay isl_BadPaper isl_Misfit isl_NoName isl_NoPiece isl_Twice isl_TooMany isl_Refused isl_BadText isl_BadLine : Array (Option Value)} {ioc_BadNumber ikV_BadNumber idc_BadNumber ipm_BadNumber icd_BadNumber ict_BadNumber ioc_BadSpot ikV_BadSpot idc_BadSpot ipm_BadSpot icd_BadSpot ict_BadSpot ioc_BadPiece ikV_BadPiece idc_BadPiece ipm_BadPiece icd_BadPiece ict_BadPiece ioc_BadFront ikV_BadFront idc_BadFront ipm_BadFront icd_BadFront ict_BadFront ioc_BadWorld ikV_BadWorld idc_BadWorld ipm_BadWorld icd_BadWorld ict_BadWorld ioc_BadLevel ikV_BadLevel idc_BadLevel ipm_BadLevel icd_BadLevel ict_BadLevel ioc_BadPlay ikV_BadPlay idc_BadPlay ipm_BadPlay icd_BadPlay ict_BadPlay ioc_BadPaper ikV_BadPaper idc_BadPaper ipm_BadPaper icd_BadPaper ict_BadPaper ioc_Misfit ikV_Misfit idc_Misfit ipm_Misfit icd_Misfit ict_Misfit ioc_NoName ikV_NoName idc_NoName ipm_NoName icd_NoName ict_NoName ioc_NoPiece ikV_NoPiece idc_NoPiece ipm_NoPiece icd_NoPiece ict_NoPiece ioc_Twice ikV_Twice idc_Twice ipm_Twice icd_Twice ict_Twice ioc_TooMany ikV_TooMany idc_TooMany ipm_TooMany icd_TooMany ict_TooMany ioc_Refused ikV_Refused idc_Refused ipm_Refused icd_Refused ict_Refused ioc_BadText ikV_BadText idc_BadText ipm_BadText icd_BadText ict_BadText ioc_BadLine ikV_BadLine idc_BadLine ipm_BadLine icd_BadLine ict_BadLine : Value} {fa a__law_nut a__law_crack a__law_pick a__law_value a__law_first a__law_named a__law_last a__law_kinds a__law_fields a__law_raises a__law_right a_law : Addr} {od__law_nut an__law_nut od__law_crack an__law_crack od__law_pick an__law_pick od__law_value an__law_value od__law_first an__law_first od__law_named an__law_named od__law_last an__law_last od__law_kinds an__law_kinds od__law_fields an__law_fields od__law_raises an__law_raises od__law_right an__law_right od_law an_law : Option Addr} {sl__law_nut sl__law_crack sl__law_pick sl__law_value sl__law_first sl__law_named sl__law_last sl__law_kinds sl__law_fields sl__law_raises sl__law_right sl_law : Array (Option Value)} {oc__law_nut kV__law_nut dc__law_nut pm__law_nut cd__law_nut ct__law_nut oc__law_crack kV__law_crack dc__law_crack pm__law_crack cd__law_crack ct__law_crack oc__law_pick kV__law_pick dc__law_pick pm__law_pick cd__law_pick ct__law_pick oc__law_value kV__law_value dc__law_value pm__law_value cd__law_value ct__law_value oc__law_first kV__law_first dc__law_first pm__law_first cd__law_first ct__law_first oc__law_named kV__law_named dc__law_named pm__law_named cd__law_named ct__law_named oc__law_last kV__law_last dc__law_last pm__law_last cd__law_last ct__law_last oc__law_kinds kV__law_kinds dc__law_kinds pm__law_kinds cd__law_kinds ct__law_kinds oc__law_fields kV__law_fields dc__law_fields pm__law_fields cd__law_fields ct__law_fields oc__law_raises kV__law_raises dc__law_raises pm__law_raises cd__law_raises ct__law_raises oc__law_right kV__law_right dc__law_right pm__law_right cd__law_right ct__law_right oc_law kV_law dc_law pm_law cd_law ct_law : Value} (hfa : mg "law" = some (.ref fa))
    (gc_LaneError : PySem.W.nsIn K mainGlobals "LaneError" = some (some (.ref c_LaneError)))
    (gc_BadNumber : PySem.W.nsIn K mainGlobals "BadNumber" = some (some (.ref c_BadNumber)))
    (iC_BadNumber : PySem.W.findIn K (.ref c_BadNumber) "__init__" = some (some (.ref i_BadNumber))) (li_BadNumber : K.lookup i_BadNumber = some ⟨ioc_BadNumber, iod_BadNumber, .func (PySem.W.fnOf "__init__" "BadNumber.__init__" (defArgs si_BadNumber) (defBody si_BadNumber) (defScope si_BadNumber) .none ikV_BadNumber idc_BadNumber ipm_BadNumber ian_BadNumber icd_BadNumber ict_BadNumber), isl_BadNumber⟩) (ci_BadNumber : PySem.W.codeIn K icd_BadNumber "BadNumber.__init__" = true) (ki_BadNumber : PySem.W.keepIn K (.ref i_BadNumber) = true) (tI_BadNumber : PySem.W.typeIn K (.ref i_BadNumber) = some (.type "function"))
    (gc_BadSpot : PySem.W.nsIn K mainGlobals "BadSpot" = some (some (.ref c_BadSpot)))
    (iC_BadSpot : PySem.W.findIn K (.ref c_BadSpot) "__init__" = some (some (.ref i_BadSpot))) (li_BadSpot : K.lookup i_BadSpot = some ⟨ioc_BadSpot, iod_BadSpot, .func (PySem.W.fnOf "__init__" "BadSpot.__init__" (defArgs si_BadSpot) (defBody si_BadSpot) (defScope si_BadSpot) .none ikV_BadSpot idc_BadSpot ipm_BadSpot ian_BadSpot icd_BadSpot ict_BadSpot), isl_BadSpot⟩) (ci_BadSpot : PySem.W.codeIn K icd_BadSpot "BadSpot.__init__" = true) (ki_BadSpot : PySem.W.keepIn K (.ref i_BadSpot) = true) (tI_BadSpot : PySem.W.typeIn K (.ref i_BadSpot) = some (.type "function"))
    (gc_BadPiece : PySem.W.nsIn K mainGlobals "BadPiece" = some (some (.ref c_BadPiece)))
    (iC_BadPiece : PySem.W.findIn K (.ref c_BadPiece) "__init__" = some (some (.ref i_BadPiece))) (li_BadPiece : K.lookup i_BadPiece = some ⟨ioc_BadPiece, iod_BadPiece, .func (PySem.W.fnOf "__init__" "BadPiece.__init__" (defArgs si_BadPiece) (defBody si_BadPiece) (defScope si_BadPiece) .none ikV_BadPiece idc_BadPiece ipm_BadPiece ian_BadPiece icd_BadPiece ict_BadPiece), isl_BadPiece⟩) (ci_BadPiece : PySem.W.codeIn K icd_BadPiece "BadPiece.__init__" = true) (ki_BadPiece : PySem.W.keepIn K (.ref i_BadPiece) = true) (tI_BadPiece : PySem.W.typeIn K (.ref i_BadPiece) = some (.type "function"))
    (gc_BadFront : PySem.W.nsIn K mainGlobals "BadFront" = some (some (.ref c_BadFront)))
    (iC_BadFront : PySem.W.findIn K (.ref c_BadFront) "__init__" = some (some (.ref i_BadFront))) (li_BadFront : K.lookup i_BadFront = some ⟨ioc_BadFront, iod_BadFront, .func (PySem.W.fnOf "__init__" "BadFront.__init__" (defArgs si_BadFront) (defBody si_BadFront) (defScope si_BadFront) .none ikV_BadFront idc_BadFront ipm_BadFront ian_BadFront icd_BadFront ict_BadFront), isl_BadFront⟩) (ci_BadFront : PySem.W.codeIn K icd_BadFront "BadFront.__init__" = true) (ki_BadFront : PySem.W.keepIn K (.ref i_BadFront) = true) (tI_BadFront : PySem.W.typeIn K (.ref i_BadFront) = some (.type "function"))
    (gc_BadWorld : PySem.W.nsIn K mainGlobals "BadWorld" = some (some (.ref c_BadWorld)))
    (iC_BadWorld : PySem.W.findIn K (.ref c_BadWorld) "__init__" = some (some (.ref i_BadWorld))) (li_BadWorld : K.lookup i_BadWorld = some ⟨ioc_BadWorld, iod_BadWorld, .func (PySem.W.fnOf "__init__" "BadWorld.__init__" (defArgs si_BadWorld) (defBody si_BadWorld) (defScope si_BadWorld) .none ikV_BadWorld idc_BadWorld ipm_BadWorld ian_BadWorld icd_BadWorld ict_BadWorld), isl_BadWorld⟩) (ci_BadWorld : PySem.W.codeIn K icd_BadWorld "BadWorld.__init__" = true) (ki_BadWorld : PySem.W.keepIn K (.ref i_BadWorld) = true) (tI_BadWorld : PySem.W.typeIn K (.ref i_BadWorld) = some (.type "function"))
    (gc_BadLevel : PySem.W.nsIn K mainGlobals "BadLevel" = some (some (.ref c_BadLevel)))
    (iC_BadLevel : PySem.W.findIn K (.ref c_BadLevel) "__init__" = some (some (.ref i_BadLevel))) (li_BadLevel : K.lookup i_BadLevel = some ⟨ioc_BadLevel, iod_BadLevel, .func (PySem.W.fnOf "__init__" "BadLevel.__init__" (defArgs si_BadLevel) (defBody si_BadLevel) (defScope si_BadLevel) .none ikV_BadLevel idc_BadLevel ipm_BadLevel ian_BadLevel icd_BadLevel ict_BadLevel), isl_BadLevel⟩) (ci_BadLevel : PySem.W.codeIn K icd_BadLevel "BadLevel.__init__" = true) (ki_BadLevel : PySem.W.keepIn K (.ref i_BadLevel) = true) (tI_BadLevel : PySem.W.typeIn K (.ref i_BadLevel) = some (.type "function"))
    (gc_BadPlay : PySem.W.nsIn K mainGlobals "BadPlay" = some (some (.ref c_BadPlay)))
    (iC_BadPlay : PySem.W.findIn K (.ref c_BadPlay) "__init__" = some (some (.ref i_BadPlay))) (li_BadPlay : K.lookup i_BadPlay = some ⟨ioc_BadPlay, iod_BadPlay, .func (PySem.W.fnOf "__init__" "BadPlay.__init__" (defArgs si_BadPlay) (defBody si_BadPlay) (defScope si_BadPlay) .none ikV_BadPlay idc_BadPlay ipm_BadPlay ian_BadPlay icd_BadPlay ict_BadPlay), isl_BadPlay⟩) (ci_BadPlay : PySem.W.codeIn K icd_BadPlay "BadPlay.__init__" = true) (ki_BadPlay : PySem.W.keepIn K (.ref i_BadPlay) = true) (tI_BadPlay : PySem.W.typeIn K (.ref i_BadPlay) = some (.type "function"))
    (gc_BadPaper : PySem.W.nsIn K mainGlobals "BadPaper" = some (some (.ref c_BadPaper)))
    (iC_BadPaper : PySem.W.findIn K (.ref c_BadPaper) "__init__" = some (some (.ref i_BadPaper))) (li_BadPaper : K.lookup i_BadPaper = some ⟨ioc_BadPaper, iod_BadPaper, .func (PySem.W.fnOf "__init__" "BadPaper.__init__" (defArgs si_BadPaper) (defBody si_BadPaper) (defScope si_BadPaper) .none ikV_BadPaper idc_BadPaper ipm_BadPaper ian_BadPaper icd_BadPaper ict_BadPaper), isl_BadPaper⟩) (ci_BadPaper : PySem.W.codeIn K icd_BadPaper "BadPaper.__init__" = true) (ki_BadPaper : PySem.W.keepIn K (.ref i_BadPaper) = true) (tI_BadPaper : PySem.W.typeIn K (.ref i_BadPaper) = some (.type "function"))
    (gc_Misfit : PySem.W.nsIn K mainGlobals "Misfit" = some (some (.ref c_Misfit)))
    (iC_Misfit : PySem.W.findIn K (.ref c_Misfit) "__init__" = some (some (.ref i_Misfit))) (li_Misfit : K.lookup i_Misfit = some ⟨ioc_Misfit, iod_Misfit, .func (PySem.W.fnOf "__init__" "Misfit.__init__" (defArgs si_Misfit) (defBody si_Misfit) (defScope si_Misfit) .none ikV_Misfit idc_Misfit ipm_Misfit ian_Misfit icd_Misfit ict_Misfit), isl_Misfit⟩) (ci_Misfit : PySem.W.codeIn K icd_Misfit "Misfit.__init__" = true) (ki_Misfit : PySem.W.keepIn K (.ref i_Misfit) = true) (tI_Misfit : PySem.W.typeIn K (.ref i_Misfit) = some (.type "function"))
    (gc_NoName : PySem.W.nsIn K mainGlobals "NoName" = some (some (.ref c_NoName)))
    (iC_NoName : PySem.W.findIn K (.ref c_NoName) "__init__" = some (some (.ref i_NoName))) (li_NoName : K.lookup i_NoName = some ⟨ioc_NoName, iod_NoName, .func (PySem.W.fnOf "__init__" "NoName.__init__" (defArgs si_NoName) (defBody si_NoName) (defScope si_NoName) .none ikV_NoName idc_NoName ipm_NoName ian_NoName icd_NoName ict_NoName), isl_NoName⟩) (ci_NoName : PySem.W.codeIn K icd_NoName "NoName.__init__" = true) (ki_NoName : PySem.W.keepIn K (.ref i_NoName) = true) (tI_NoName : PySem.W.typeIn K (.ref i_NoName) = some (.type "function"))
    (gc_NoPiece : PySem.W.nsIn K mainGlobals "NoPiece" = some (some (.ref c_NoPiece)))
    (iC_NoPiece : PySem.W.findIn K (.ref c_NoPiece) "__init__" = some (some (.ref i_NoPiece))) (li_NoPiece : K.lookup i_NoPiece = some ⟨ioc_NoPiece, iod_NoPiece, .func (PySem.W.fnOf "__init__" "NoPiece.__init__" (defArgs si_NoPiece) (defBody si_NoPiece) (defScope si_NoPiece) .none ikV_NoPiece idc_NoPiece ipm_NoPiece ian_NoPiece icd_NoPiece ict_NoPiece), isl_NoPiece⟩) (ci_NoPiece : PySem.W.codeIn K icd_NoPiece "NoPiece.__init__" = true) (ki_NoPiece : PySem.W.keepIn K (.ref i_NoPiece) = true) (tI_NoPiece : PySem.W.typeIn K (.ref i_NoPiece) = some (.type "function"))
    (gc_Twice : PySem.W.nsIn K mainGlobals "Twice" = some (some (.ref c_Twice)))
    (iC_Twice : PySem.W.findIn K (.ref c_Twice) "__init__" = some (some (.ref i_Twice))) (li_Twice : K.lookup i_Twice = some ⟨ioc_Twice, iod_Twice, .func (PySem.W.fnOf "__init__" "Twice.__init__" (defArgs si_Twice) (defBody si_Twice) (defScope si_Twice) .none ikV_Twice idc_Twice ipm_Twice ian_Twice icd_Twice ict_Twice), isl_Twice⟩) (ci_Twice : PySem.W.codeIn K icd_Twice "Twice.__init__" = true) (ki_Twice : PySem.W.keepIn K (.ref i_Twice) = true) (tI_Twice : PySem.W.typeIn K (.ref i_Twice) = some (.type "function"))
    (gc_TooMany : PySem.W.nsIn K mainGlobals "TooMany" = some (some (.ref c_TooMany)))
    (iC_TooMany : PySem.W.findIn K (.ref c_TooMany) "__init__" = some (some (.ref i_TooMany))) (li_TooMany : K.lookup i_TooMany = some ⟨ioc_TooMany, iod_TooMany, .func (PySem.W.fnOf "__init__" "TooMany.__init__" (defArgs si_TooMany) (defBody si_TooMany) (defScope si_TooMany) .none ikV_TooMany idc_TooMany ipm_TooMany ian_TooMany icd_TooMany ict_TooMany), isl_TooMany⟩) (ci_TooMany : PySem.W.codeIn K icd_TooMany "TooMany.__init__" = true) (ki_TooMany : PySem.W.keepIn K (.ref i_TooMany) = true) (tI_TooMany : PySem.W.typeIn K (.ref i_TooMany) = some (.type "function"))
    (gc_Refused : PySem.W.nsIn K mainGlobals "Refused" = some (some (.ref c_Refused)))
    (iC_Refused : PySem.W.findIn K (.ref c_Refused) "__init__" = some (some (.ref i_Refused))) (li_Refused : K.lookup i_Refused = some ⟨ioc_Refused, iod_Refused, .func (PySem.W.fnOf "__init__" "Refused.__init__" (defArgs si_Refused) (defBody si_Refused) (defScope si_Refused) .none ikV_Refused idc_Refused ipm_Refused ian_Refused icd_Refused ict_Refused), isl_Refused⟩) (ci_Refused : PySem.W.codeIn K icd_Refused "Refused.__init__" = true) (ki_Refused : PySem.W.keepIn K (.ref i_Refused) = true) (tI_Refused : PySem.W.typeIn K (.ref i_Refused) = some (.type "function"))
    (gc_Nothing : PySem.W.nsIn K mainGlobals "Nothing" = some (some (.ref c_Nothing)))
    (n0_Nothing : PySem.W.excIn K c_Nothing [.type "ValueError", .type "Exception", .type "BaseException", .type "object"] "ValueError.__new__" = true)
    (gc_BadText : PySem.W.nsIn K mainGlobals "BadText" = some (some (.ref c_BadText)))
    (iC_BadText : PySem.W.findIn K (.ref c_BadText) "__init__" = some (some (.ref i_BadText))) (li_BadText : K.lookup i_BadText = some ⟨ioc_BadText, iod_BadText, .func (PySem.W.fnOf "__init__" "BadText.__init__" (defArgs si_BadText) (defBody si_BadText) (defScope si_BadText) .none ikV_BadText idc_BadText ipm_BadText ian_BadText icd_BadText ict_BadText), isl_BadText⟩) (ci_BadText : PySem.W.codeIn K icd_BadText "BadText.__init__" = true) (ki_BadText : PySem.W.keepIn K (.ref i_BadText) = true) (tI_BadText : PySem.W.typeIn K (.ref i_BadText) = some (.type "function"))
    (gc_BadLine : PySem.W.nsIn K mainGlobals "BadLine" = some (some (.ref c_BadLine)))
    (iC_BadLine : PySem.W.findIn K (.ref c_BadLine) "__init__" = some (some (.ref i_BadLine))) (li_BadLine : K.lookup i_BadLine = some ⟨ioc_BadLine, iod_BadLine, .func (PySem.W.fnOf "__init__" "BadLine.__init__" (defArgs si_BadLine) (defBody si_BadLine) (defScope si_BadLine) .none ikV_BadLine idc_BadLine ipm_BadLine ian_BadLine icd_BadLine ict_BadLine), isl_BadLine⟩) (ci_BadLine : PySem.W.codeIn K icd_BadLine "BadLine.__init__" = true) (ki_BadLine : PySem.W.keepIn K (.ref i_BadLine) = true) (tI_BadLine : PySem.W.typeIn K (.ref i_BadLine) = some (.type "function"))
    (b_LaneError : PySem.W.subIn K (.ref c_LaneError) (.type "BaseException") = some true) (h_LaneError : PySem.W.hasDictIn K c_LaneError = true) (t_LaneError : PySem.W.typeIn K (.ref c_LaneError) = some (.type "type"))
    (x_BadNumber : exB K c_LaneError c_BadNumber FL = true)
    (x_BadSpot : exB K c_LaneError c_BadSpot FL = true)
    (x_BadPiece : exB K c_LaneError c_BadPiece FL = true)
    (x_BadFront : exB K c_LaneError c_BadFront FL = true)
    (x_BadWorld : exB K c_LaneError c_BadWorld FL = true)
    (x_BadLevel : exB K c_LaneError c_BadLevel FL = true)
    (x_BadPlay : exB K c_LaneError c_BadPlay FL = true)
    (x_BadPaper : exB K c_LaneError c_BadPaper FL = true)
    (x_Misfit : exB K c_LaneError c_Misfit FL = true)
    (x_NoName : exB K c_LaneError c_NoName FL = true)
    (x_NoPiece : exB K c_LaneError c_NoPiece FL = true)
    (x_Twice : exB K c_LaneError c_Twice FL = true)
    (x_TooMany : exB K c_LaneError c_TooMany FL = true)
    (x_Refused : exB K c_LaneError c_Refused FL = true)
    (x_Nothing : exB K c_LaneError c_Nothing FL = true)
    (x_BadText : exB K c_LaneError c_BadText FL = true)
    (x_BadLine : exB K c_LaneError c_BadLine FL = true)
    (nd : [c_LaneError, c_BadNumber, c_BadSpot, c_BadPiece, c_BadFront, c_BadWorld, c_BadLevel, c_BadPlay, c_BadPaper, c_Misfit, c_NoName, c_NoPiece, c_Twice, c_Refused, c_TooMany, c_BadText, c_BadLine, c_Nothing].Nodup)
    (g__law_nut : PySem.W.nsIn K mainGlobals "_law_nut" = some (some (.ref a__law_nut))) (l__law_nut : K.lookup a__law_nut = some ⟨oc__law_nut, od__law_nut, .func (PySem.W.fnOf "_law_nut" "_law_nut" (defArgs s__law_nut) (defBody s__law_nut) (defScope s__law_nut) .none kV__law_nut dc__law_nut pm__law_nut an__law_nut cd__law_nut ct__law_nut), sl__law_nut⟩) (c__law_nut : PySem.W.codeIn K cd__law_nut "_law_nut" = true) (k__law_nut : PySem.W.keepIn K (.ref a__law_nut) = true)
    (g__law_crack : PySem.W.nsIn K mainGlobals "_law_crack" = some (some (.ref a__law_crack))) (l__law_crack : K.lookup a__law_crack = some ⟨oc__law_crack, od__law_crack, .func (PySem.W.fnOf "_law_crack" "_law_crack" (defArgs s__law_crack) (defBody s__law_crack) (defScope s__law_crack) .none kV__law_crack dc__law_crack pm__law_crack an__law_crack cd__law_crack ct__law_crack), sl__law_crack⟩) (c__law_crack : PySem.W.codeIn K cd__law_crack "_law_crack" = true) (k__law_crack : PySem.W.keepIn K (.ref a__law_crack) = true)
    (g__law_pick : PySem.W.nsIn K mainGlobals "_law_pick" = some (some (.ref a__law_pick))) (l__law_pick : K.lookup a__law_pick = some ⟨oc__law_pick, od__law_pick, .func (PySem.W.fnOf "_law_pick" "_law_pick" (defArgs s__law_pick) (defBody s__law_pick) (defScope s__law_pick) .none kV__law_pick dc__law_pick pm__law_pick an__law_pick cd__law_pick ct__law_pick), sl__law_pick⟩) (c__law_pick : PySem.W.codeIn K cd__law_pick "_law_pick" = true) (k__law_pick : PySem.W.keepIn K (.ref a__law_pick) = true)
    (g__law_value : PySem.W.nsIn K mainGlobals "_law_value" = some (some (.ref a__law_value))) (l__law_value : K.lookup a__law_value = some ⟨oc__law_value, od__law_value, .func (PySem.W.fnOf "_law_value" "_law_value" (defArgs s__law_value) (defBody s__law_value) (defScope s__law_value) .none kV__law_value dc__law_value pm__law_value an__law_value cd__law_value ct__law_value), sl__law_value⟩) (c__law_value : PySem.W.codeIn K cd__law_value "_law_value" = true) (k__law_value : PySem.W.keepIn K (.ref a__law_value) = true)
    (g__law_first : PySem.W.nsIn K mainGlobals "_law_first" = some (some (.ref a__law_first))) (l__law_first : K.lookup a__law_first = some ⟨oc__law_first, od__law_first, .func (PySem.W.fnOf "_law_first" "_law_first" (defArgs s__law_first) (defBody s__law_first) (defScope s__law_first) .none kV__law_first dc__law_first pm__law_first an__law_first cd__law_first ct__law_first), sl__law_first⟩) (c__law_first : PySem.W.codeIn K cd__law_first "_law_first" = true) (k__law_first : PySem.W.keepIn K (.ref a__law_first) = true)
    (g__law_named : PySem.W.nsIn K mainGlobals "_law_named" = some (some (.ref a__law_named))) (l__law_named : K.lookup a__law_named = some ⟨oc__law_named, od__law_named, .func (PySem.W.fnOf "_law_named" "_law_named" (defArgs s__law_named) (defBody s__law_named) (defScope s__law_named) .none kV__law_named dc__law_named pm__law_named an__law_named cd__law_named ct__law_named), sl__law_named⟩) (c__law_named : PySem.W.codeIn K cd__law_named "_law_named" = true) (k__law_named : PySem.W.keepIn K (.ref a__law_named) = true)
    (g__law_last : PySem.W.nsIn K mainGlobals "_law_last" = some (some (.ref a__law_last))) (l__law_last : K.lookup a__law_last = some ⟨oc__law_last, od__law_last, .func (PySem.W.fnOf "_law_last" "_law_last" (defArgs s__law_last) (defBody s__law_last) (defScope s__law_last) .none kV__law_last dc__law_last pm__law_last an__law_last cd__law_last ct__law_last), sl__law_last⟩) (c__law_last : PySem.W.codeIn K cd__law_last "_law_last" = true) (k__law_last : PySem.W.keepIn K (.ref a__law_last) = true)
    (g__law_kinds : PySem.W.nsIn K mainGlobals "_law_kinds" = some (some (.ref a__law_kinds))) (l__law_kinds : K.lookup a__law_kinds = some ⟨oc__law_kinds, od__law_kinds, .func (PySem.W.fnOf "_law_kinds" "_law_kinds" (defArgs s__law_kinds) (defBody s__law_kinds) (defScope s__law_kinds) .none kV__law_kinds dc__law_kinds pm__law_kinds an__law_kinds cd__law_kinds ct__law_kinds), sl__law_kinds⟩) (c__law_kinds : PySem.W.codeIn K cd__law_kinds "_law_kinds" = true) (k__law_kinds : PySem.W.keepIn K (.ref a__law_kinds) = true)
    (g__law_fields : PySem.W.nsIn K mainGlobals "_law_fields" = some (some (.ref a__law_fields))) (l__law_fields : K.lookup a__law_fields = some ⟨oc__law_fields, od__law_fields, .func (PySem.W.fnOf "_law_fields" "_law_fields" (defArgs s__law_fields) (defBody s__law_fields) (defScope s__law_fields) .none kV__law_fields dc__law_fields pm__law_fields an__law_fields cd__law_fields ct__law_fields), sl__law_fields⟩) (c__law_fields : PySem.W.codeIn K cd__law_fields "_law_fields" = true) (k__law_fields : PySem.W.keepIn K (.ref a__law_fields) = true)
    (g__law_raises : PySem.W.nsIn K mainGlobals "_law_raises" = some (some (.ref a__law_raises))) (l__law_raises : K.lookup a__law_raises = some ⟨oc__law_raises, od__law_raises, .func (PySem.W.fnOf "_law_raises" "_law_raises" (defArgs s__law_raises) (defBody s__law_raises) (defScope s__law_raises) .none kV__law_raises dc__law_raises pm__law_raises an__law_raises cd__law_raises ct__law_raises), sl__law_raises⟩) (c__law_raises : PySem.W.codeIn K cd__law_raises "_law_raises" = true) (k__law_raises : PySem.W.keepIn K (.ref a__law_raises) = true)
    (g__law_right : PySem.W.nsIn K mainGlobals "_law_right" = some (some (.ref a__law_right))) (l__law_right : K.lookup a__law_right = some ⟨oc__law_right, od__law_right, .func (PySem.W.fnOf "_law_right" "_law_right" (defArgs s__law_right) (defBody s__law_right) (defScope s__law_right) .none kV__law_right dc__law_right pm__law_right an__law_right cd__law_right ct__law_right), sl__law_right⟩) (c__law_right : PySem.W.codeIn K cd__law_right "_law_right" = true) (k__law_right : PySem.W.keepIn K (.ref a__law_right) = true)
    (g_law : PySem.W.nsIn K mainGlobals "law" = some (some (.ref a_law))) (l_law : K.lookup a_law = some ⟨oc_law, od_law, .func (PySem.W.fnOf "law" "law" (defArgs s_law) (defBody s_law) (defScope s_law) .none kV_law dc_law pm_law an_law cd_law ct_law), sl_law⟩) (c_law : PySem.W.codeIn K cd_law "law" = true) (k_law : PySem.W.keepIn K (.ref a_law) = true)
    (n_ValueError : PySem.W.nsIn K mainGlobals "ValueError" = some none)
    (n_abs : PySem.W.nsIn K mainGlobals "abs" = some none)
    (n_enumerate : PySem.W.nsIn K mainGlobals "enumerate" = some none)
    (n_int : PySem.W.nsIn K mainGlobals "int" = some none)
    (n_isinstance : PySem.W.nsIn K mainGlobals "isinstance" = some none)
    (n_len : PySem.W.nsIn K mainGlobals "len" = some none)
    (n_range : PySem.W.nsIn K mainGlobals "range" = some none)
    (n_repr : PySem.W.nsIn K mainGlobals "repr" = some none) :
    ∃ fd : FuncData, (∀ (s : Shared) (v : Value), BindsTo s fd ⟨[v], []⟩ [("_law_script", v)]) ∧ ∀ base : Heap, K.In base → base.Ns mainGlobals mg → FnZ P w K mg base 6 fa fd ["_law_script"] spLaw := by
  have e := hfa.symm.trans (PySem.W.mg_of X G g_law)
  cases e
  let T : Txt K mg ⟨c_LaneError, c_BadNumber, c_BadSpot, c_BadPiece, c_BadFront, c_BadWorld, c_BadLevel, c_BadPlay, c_BadPaper, c_Misfit, c_NoName, c_NoPiece, c_Twice, c_TooMany, c_Refused, c_Nothing, c_BadText, c_BadLine⟩ := { gc_LaneError := PySem.W.mg_of X G gc_LaneError, gc_BadNumber := PySem.W.mg_of X G gc_BadNumber, i_BadNumber := i_BadNumber, e_BadNumber := _, F_BadNumber := fun_mk (st := si_BadNumber) li_BadNumber ci_BadNumber ki_BadNumber, iC_BadNumber := iC_BadNumber, tI_BadNumber := tI_BadNumber, gc_BadSpot := PySem.W.mg_of X G gc_BadSpot, i_BadSpot := i_BadSpot, e_BadSpot := _, F_BadSpot := fun_mk (st := si_BadSpot) li_BadSpot ci_BadSpot ki_BadSpot, iC_BadSpot := iC_BadSpot, tI_BadSpot := tI_BadSpot, gc_BadPiece := PySem.W.mg_of X G gc_BadPiece, i_BadPiece := i_BadPiece, e_BadPiece := _, F_BadPiece := fun_mk (st := si_BadPiece) li_BadPiece ci_BadPiece ki_BadPiece, iC_BadPiece := iC_BadPiece, tI_BadPiece := tI_BadPiece, gc_BadFront := PySem.W.mg_of X G gc_BadFront, i_BadFront := i_BadFront, e_BadFront := _, F_BadFront := fun_mk (st := si_BadFront) li_BadFront ci_BadFront ki_BadFront, iC_BadFront := iC_BadFront, tI_BadFront := tI_BadFront, gc_BadWorld := PySem.W.mg_of X G gc_BadWorld, i_BadWorld := i_BadWorld, e_BadWorld := _, F_BadWorld := fun_mk (st := si_BadWorld) li_BadWorld ci_BadWorld ki_BadWorld, iC_BadWorld := iC_BadWorld, tI_BadWorld := tI_BadWorld, gc_BadLevel := PySem.W.mg_of X G gc_BadLevel, i_BadLevel := i_BadLevel, e_BadLevel := _, F_BadLevel := fun_mk (st := si_BadLevel) li_BadLevel ci_BadLevel ki_BadLevel, iC_BadLevel := iC_BadLevel, tI_BadLevel := tI_BadLevel, gc_BadPlay := PySem.W.mg_of X G gc_BadPlay, i_BadPlay := i_BadPlay, e_BadPlay := _, F_BadPlay := fun_mk (st := si_BadPlay) li_BadPlay ci_BadPlay ki_BadPlay, iC_BadPlay := iC_BadPlay, tI_BadPlay := tI_BadPlay, gc_BadPaper := PySem.W.mg_of X G gc_BadPaper, i_BadPaper := i_BadPaper, e_BadPaper := _, F_BadPaper := fun_mk (st := si_BadPaper) li_BadPaper ci_BadPaper ki_BadPaper, iC_BadPaper := iC_BadPaper, tI_BadPaper := tI_BadPaper, gc_Misfit := PySem.W.mg_of X G gc_Misfit, i_Misfit := i_Misfit, e_Misfit := _, F_Misfit := fun_mk (st := si_Misfit) li_Misfit ci_Misfit ki_Misfit, iC_Misfit := iC_Misfit, tI_Misfit := tI_Misfit, gc_NoName := PySem.W.mg_of X G gc_NoName, i_NoName := i_NoName, e_NoName := _, F_NoName := fun_mk (st := si_NoName) li_NoName ci_NoName ki_NoName, iC_NoName := iC_NoName, tI_NoName := tI_NoName, gc_NoPiece := PySem.W.mg_of X G gc_NoPiece, i_NoPiece := i_NoPiece, e_NoPiece := _, F_NoPiece := fun_mk (st := si_NoPiece) li_NoPiece ci_NoPiece ki_NoPiece, iC_NoPiece := iC_NoPiece, tI_NoPiece := tI_NoPiece, gc_Twice := PySem.W.mg_of X G gc_Twice, i_Twice := i_Twice, e_Twice := _, F_Twice := fun_mk (st := si_Twice) li_Twice ci_Twice ki_Twice, iC_Twice := iC_Twice, tI_Twice := tI_Twice, gc_TooMany := PySem.W.mg_of X G gc_TooMany, i_TooMany := i_TooMany, e_TooMany := _, F_TooMany := fun_mk (st := si_TooMany) li_TooMany ci_TooMany ki_TooMany, iC_TooMany := iC_TooMany, tI_TooMany := tI_TooMany, gc_Refused := PySem.W.mg_of X G gc_Refused, i_Refused := i_Refused, e_Refused := _, F_Refused := fun_mk (st := si_Refused) li_Refused ci_Refused ki_Refused, iC_Refused := iC_Refused, tI_Refused := tI_Refused, gc_Nothing := PySem.W.mg_of X G gc_Nothing, n0_Nothing := n0_Nothing, gc_BadText := PySem.W.mg_of X G gc_BadText, i_BadText := i_BadText, e_BadText := _, F_BadText := fun_mk (st := si_BadText) li_BadText ci_BadText ki_BadText, iC_BadText := iC_BadText, tI_BadText := tI_BadText, gc_BadLine := PySem.W.mg_of X G gc_BadLine, i_BadLine := i_BadLine, e_BadLine := _, F_BadLine := fun_mk (st := si_BadLine) li_BadLine ci_BadLine ki_BadLine, iC_BadLine := iC_BadLine, tI_BadLine := tI_BadLine, b_LaneError := b_LaneError, h_LaneError := h_LaneError, t_LaneError := t_LaneError, x_BadNumber := exB_ok x_BadNumber, x_BadSpot := exB_ok x_BadSpot, x_BadPiece := exB_ok x_BadPiece, x_BadFront := exB_ok x_BadFront, x_BadWorld := exB_ok x_BadWorld, x_BadLevel := exB_ok x_BadLevel, x_BadPlay := exB_ok x_BadPlay, x_BadPaper := exB_ok x_BadPaper, x_Misfit := exB_ok x_Misfit, x_NoName := exB_ok x_NoName, x_NoPiece := exB_ok x_NoPiece, x_Twice := exB_ok x_Twice, x_TooMany := exB_ok x_TooMany, x_Refused := exB_ok x_Refused, x_Nothing := exB_ok x_Nothing, x_BadText := exB_ok x_BadText, x_BadLine := exB_ok x_BadLine, nd := nd, a__law_nut := a__law_nut, d__law_nut := _, F__law_nut := fun_mk (st := s__law_nut) l__law_nut c__law_nut k__law_nut, g__law_nut := PySem.W.mg_of X G g__law_nut, a__law_crack := a__law_crack, d__law_crack := _, F__law_crack := fun_mk (st := s__law_crack) l__law_crack c__law_crack k__law_crack, g__law_crack := PySem.W.mg_of X G g__law_crack, a__law_pick := a__law_pick, d__law_pick := _, F__law_pick := fun_mk (st := s__law_pick) l__law_pick c__law_pick k__law_pick, g__law_pick := PySem.W.mg_of X G g__law_pick, a__law_value := a__law_value, d__law_value := _, F__law_value := fun_mk (st := s__law_value) l__law_value c__law_value k__law_value, g__law_value := PySem.W.mg_of X G g__law_value, a__law_first := a__law_first, d__law_first := _, F__law_first := fun_mk (st := s__law_first) l__law_first c__law_first k__law_first, g__law_first := PySem.W.mg_of X G g__law_first, a__law_named := a__law_named, d__law_named := _, F__law_named := fun_mk (st := s__law_named) l__law_named c__law_named k__law_named, g__law_named := PySem.W.mg_of X G g__law_named, a__law_last := a__law_last, d__law_last := _, F__law_last := fun_mk (st := s__law_last) l__law_last c__law_last k__law_last, g__law_last := PySem.W.mg_of X G g__law_last, a__law_kinds := a__law_kinds, d__law_kinds := _, F__law_kinds := fun_mk (st := s__law_kinds) l__law_kinds c__law_kinds k__law_kinds, g__law_kinds := PySem.W.mg_of X G g__law_kinds, a__law_fields := a__law_fields, d__law_fields := _, F__law_fields := fun_mk (st := s__law_fields) l__law_fields c__law_fields k__law_fields, g__law_fields := PySem.W.mg_of X G g__law_fields, a__law_raises := a__law_raises, d__law_raises := _, F__law_raises := fun_mk (st := s__law_raises) l__law_raises c__law_raises k__law_raises, g__law_raises := PySem.W.mg_of X G g__law_raises, a__law_right := a__law_right, d__law_right := _, F__law_right := fun_mk (st := s__law_right) l__law_right c__law_right k__law_right, g__law_right := PySem.W.mg_of X G g__law_right, a_law := fa, d_law := _, F_law := fun_mk (st := s_law) l_law c_law k_law, g_law := PySem.W.mg_of X G g_law, n_ValueError := PySem.W.mg_none_of X G n_ValueError, n_abs := PySem.W.mg_none_of X G n_abs, n_enumerate := PySem.W.mg_none_of X G n_enumerate, n_int := PySem.W.mg_none_of X G n_int, n_isinstance := PySem.W.mg_none_of X G n_isinstance, n_len := PySem.W.mg_none_of X G n_len, n_range := PySem.W.mg_none_of X G n_range, n_repr := PySem.W.mg_none_of X G n_repr }
  exact ⟨T.d_law, fun s v => .of_eq rfl, fun base _ _ => ok_law T⟩
end Z
open PySem PySem.W PyProof.Rows in
set_option maxRecDepth 100000 in
set_option maxHeartbeats 0 in
theorem PySem.Challenge.cw_lanecross_k00_errors_and_their_fields_holds : PySem.Challenge.rw_lanecross_k00_errors_and_their_fields.Holds := by
  w_on; o_law; k_head; (case hw => w_witness2)
  k_fill
  refine Z.walkZ (l := PySem.Challenge.rw_lanecross_k00_errors_and_their_fields) (k := 6) (x := "_law_script") rfl rfl ⟨rfl, by decide, by decide⟩ (fun w h Y => PySem.W.kIn_of Y) ?F
  case F =>
    intro w mg fa h KX G hmg
    refine' Z.all_mk KX G hmg ?gc_LaneError ?gc_BadNumber ?iC_BadNumber ?li_BadNumber ?ci_BadNumber ?ki_BadNumber ?tI_BadNumber ?gc_BadSpot ?iC_BadSpot ?li_BadSpot ?ci_BadSpot ?ki_BadSpot ?tI_BadSpot ?gc_BadPiece ?iC_BadPiece ?li_BadPiece ?ci_BadPiece ?ki_BadPiece ?tI_BadPiece ?gc_BadFront ?iC_BadFront ?li_BadFront ?ci_BadFront ?ki_BadFront ?tI_BadFront ?gc_BadWorld ?iC_BadWorld ?li_BadWorld ?ci_BadWorld ?ki_BadWorld ?tI_BadWorld ?gc_BadLevel ?iC_BadLevel ?li_BadLevel ?ci_BadLevel ?ki_BadLevel ?tI_BadLevel ?gc_BadPlay ?iC_BadPlay ?li_BadPlay ?ci_BadPlay ?ki_BadPlay ?tI_BadPlay ?gc_BadPaper ?iC_BadPaper ?li_BadPaper ?ci_BadPaper ?ki_BadPaper ?tI_BadPaper ?gc_Misfit ?iC_Misfit ?li_Misfit ?ci_Misfit ?ki_Misfit ?tI_Misfit ?gc_NoName ?iC_NoName ?li_NoName ?ci_NoName ?ki_NoName ?tI_NoName ?gc_NoPiece ?iC_NoPiece ?li_NoPiece ?ci_NoPiece ?ki_NoPiece ?tI_NoPiece ?gc_Twice ?iC_Twice ?li_Twice ?ci_Twice ?ki_Twice ?tI_Twice ?gc_TooMany ?iC_TooMany ?li_TooMany ?ci_TooMany ?ki_TooMany ?tI_TooMany ?gc_Refused ?iC_Refused ?li_Refused ?ci_Refused ?ki_Refused ?tI_Refused ?gc_Nothing ?n0_Nothing ?gc_BadText ?iC_BadText ?li_BadText ?ci_BadText ?ki_BadText ?tI_BadText ?gc_BadLine ?iC_BadLine ?li_BadLine ?ci_BadLine ?ki_BadLine ?tI_BadLine ?b_LaneError ?h_LaneError ?t_LaneError ?x_BadNumber ?x_BadSpot ?x_BadPiece ?x_BadFront ?x_BadWorld ?x_BadLevel ?x_BadPlay ?x_BadPaper ?x_Misfit ?x_NoName ?x_NoPiece ?x_Twice ?x_TooMany ?x_Refused ?x_Nothing ?x_BadText ?x_BadLine ?nd ?g__law_nut ?l__law_nut ?c__law_nut ?k__law_nut ?g__law_crack ?l__law_crack ?c__law_crack ?k__law_crack ?g__law_pick ?l__law_pick ?c__law_pick ?k__law_pick ?g__law_value ?l__law_value ?c__law_value ?k__law_value ?g__law_first ?l__law_first ?c__law_first ?k__law_first ?g__law_named ?l__law_named ?c__law_named ?k__law_named ?g__law_last ?l__law_last ?c__law_last ?k__law_last ?g__law_kinds ?l__law_kinds ?c__law_kinds ?k__law_kinds ?g__law_fields ?l__law_fields ?c__law_fields ?k__law_fields ?g__law_raises ?l__law_raises ?c__law_raises ?k__law_raises ?g__law_right ?l__law_right ?c__law_right ?k__law_right ?g_law ?l_law ?c_law ?k_law ?n_ValueError ?n_abs ?n_enumerate ?n_int ?n_isinstance ?n_len ?n_range ?n_repr
    (case gc_LaneError => k_is)
    (case gc_BadNumber => k_is)
    (case iC_BadNumber => k_is)
    (case li_BadNumber => k_is)
    (case ci_BadNumber => k_is)
    (case ki_BadNumber => k_is)
    (case tI_BadNumber => k_is)
    (case gc_BadSpot => k_is)
    (case iC_BadSpot => k_is)
    (case li_BadSpot => k_is)
    (case ci_BadSpot => k_is)
    (case ki_BadSpot => k_is)
    (case tI_BadSpot => k_is)
    (case gc_BadPiece => k_is)
    (case iC_BadPiece => k_is)
    (case li_BadPiece => k_is)
    (case ci_BadPiece => k_is)
    (case ki_BadPiece => k_is)
    (case tI_BadPiece => k_is)
    (case gc_BadFront => k_is)
    (case iC_BadFront => k_is)
    (case li_BadFront => k_is)
    (case ci_BadFront => k_is)
    (case ki_BadFront => k_is)
    (case tI_BadFront => k_is)
    (case gc_BadWorld => k_is)
    (case iC_BadWorld => k_is)
    (case li_BadWorld => k_is)
    (case ci_BadWorld => k_is)
    (case ki_BadWorld => k_is)
    (case tI_BadWorld => k_is)
    (case gc_BadLevel => k_is)
    (case iC_BadLevel => k_is)
    (case li_BadLevel => k_is)
    (case ci_BadLevel => k_is)
    (case ki_BadLevel => k_is)
    (case tI_BadLevel => k_is)
    (case gc_BadPlay => k_is)
    (case iC_BadPlay => k_is)
    (case li_BadPlay => k_is)
    (case ci_BadPlay => k_is)
    (case ki_BadPlay => k_is)
    (case tI_BadPlay => k_is)
    (case gc_BadPaper => k_is)
    (case iC_BadPaper => k_is)
    (case li_BadPaper => k_is)
    (case ci_BadPaper => k_is)
    (case ki_BadPaper => k_is)
    (case tI_BadPaper => k_is)
    (case gc_Misfit => k_is)
    (case iC_Misfit => k_is)
    (case li_Misfit => k_is)
    (case ci_Misfit => k_is)
    (case ki_Misfit => k_is)
    (case tI_Misfit => k_is)
    (case gc_NoName => k_is)
    (case iC_NoName => k_is)
    (case li_NoName => k_is)
    (case ci_NoName => k_is)
    (case ki_NoName => k_is)
    (case tI_NoName => k_is)
    (case gc_NoPiece => k_is)
    (case iC_NoPiece => k_is)
    (case li_NoPiece => k_is)
    (case ci_NoPiece => k_is)
    (case ki_NoPiece => k_is)
    (case tI_NoPiece => k_is)
    (case gc_Twice => k_is)
    (case iC_Twice => k_is)
    (case li_Twice => k_is)
    (case ci_Twice => k_is)
    (case ki_Twice => k_is)
    (case tI_Twice => k_is)
    (case gc_TooMany => k_is)
    (case iC_TooMany => k_is)
    (case li_TooMany => k_is)
    (case ci_TooMany => k_is)
    (case ki_TooMany => k_is)
    (case tI_TooMany => k_is)
    (case gc_Refused => k_is)
    (case iC_Refused => k_is)
    (case li_Refused => k_is)
    (case ci_Refused => k_is)
    (case ki_Refused => k_is)
    (case tI_Refused => k_is)
    (case gc_Nothing => k_is)
    (case n0_Nothing => kernel_rfl)
    (case gc_BadText => k_is)
    (case iC_BadText => k_is)
    (case li_BadText => k_is)
    (case ci_BadText => k_is)
    (case ki_BadText => k_is)
    (case tI_BadText => k_is)
    (case gc_BadLine => k_is)
    (case iC_BadLine => k_is)
    (case li_BadLine => k_is)
    (case ci_BadLine => k_is)
    (case ki_BadLine => k_is)
    (case tI_BadLine => k_is)
    (case b_LaneError => k_is)
    (case h_LaneError => kernel_rfl)
    (case t_LaneError => k_is)
    (case x_BadNumber => kernel_rfl)
    (case x_BadSpot => kernel_rfl)
    (case x_BadPiece => kernel_rfl)
    (case x_BadFront => kernel_rfl)
    (case x_BadWorld => kernel_rfl)
    (case x_BadLevel => kernel_rfl)
    (case x_BadPlay => kernel_rfl)
    (case x_BadPaper => kernel_rfl)
    (case x_Misfit => kernel_rfl)
    (case x_NoName => kernel_rfl)
    (case x_NoPiece => kernel_rfl)
    (case x_Twice => kernel_rfl)
    (case x_TooMany => kernel_rfl)
    (case x_Refused => kernel_rfl)
    (case x_Nothing => kernel_rfl)
    (case x_BadText => kernel_rfl)
    (case x_BadLine => kernel_rfl)
    (case nd => decide)
    (case g__law_nut => k_is)
    (case l__law_nut => k_is)
    (case c__law_nut => k_is)
    (case k__law_nut => k_is)
    (case g__law_crack => k_is)
    (case l__law_crack => k_is)
    (case c__law_crack => k_is)
    (case k__law_crack => k_is)
    (case g__law_pick => k_is)
    (case l__law_pick => k_is)
    (case c__law_pick => k_is)
    (case k__law_pick => k_is)
    (case g__law_value => k_is)
    (case l__law_value => k_is)
    (case c__law_value => k_is)
    (case k__law_value => k_is)
    (case g__law_first => k_is)
    (case l__law_first => k_is)
    (case c__law_first => k_is)
    (case k__law_first => k_is)
    (case g__law_named => k_is)
    (case l__law_named => k_is)
    (case c__law_named => k_is)
    (case k__law_named => k_is)
    (case g__law_last => k_is)
    (case l__law_last => k_is)
    (case c__law_last => k_is)
    (case k__law_last => k_is)
    (case g__law_kinds => k_is)
    (case l__law_kinds => k_is)
    (case c__law_kinds => k_is)
    (case k__law_kinds => k_is)
    (case g__law_fields => k_is)
    (case l__law_fields => k_is)
    (case c__law_fields => k_is)
    (case k__law_fields => k_is)
    (case g__law_raises => k_is)
    (case l__law_raises => k_is)
    (case c__law_raises => k_is)
    (case k__law_raises => k_is)
    (case g__law_right => k_is)
    (case l__law_right => k_is)
    (case c__law_right => k_is)
    (case k__law_right => k_is)
    (case g_law => k_is)
    (case l_law => k_is)
    (case c_law => k_is)
    (case k_law => k_is)
    (case n_ValueError => k_is)
    (case n_abs => k_is)
    (case n_enumerate => k_is)
    (case n_int => k_is)
    (case n_isinstance => k_is)
    (case n_len => k_is)
    (case n_range => k_is)
    (case n_repr => k_is)


