import PyProof.Rows.All
import Wide.All
import OpenK.AllK
import Wide.FinOn
import HandS.ForMost
import HandS.ForExc
import HandS.ExcInit
import HandS.IsInst
import HandS.Wide
import HandS.Conv
import HandS.Flow
import HandS.Gcd
import HandS.TryOnly
import PyProof.ReprRoads
import HandS.WordsExc
import PySem.Challenge.RW_lanecross_k02_integers_numbers_spots_jud
set_option Elab.async false
set_option linter.all false
set_option maxRecDepth 100000
set_option maxHeartbeats 4000000
/-! Values as trees over the hand layer: what is never changed is a tree, what is changed has an address. -/
namespace Z
open PySem L2 PySem.Spec PyProof.Rows

inductive D where
  | non | bl (b : Bool) | int (i : Int) | str (x : Str) | flt (b : UInt64) | ref (a : Addr) | ty (n : String)
  | lst (xs : List D) | tup (xs : List D) | dct (kvs : List (Key × D)) | obj (C : Addr) (fs : List (Str × D)) | exn (C : Addr) (fs : List (Str × D))
inductive MO where
  | lst (xs : List D) | dct (kvs : List (Key × D)) | ins (C : Addr) (fs : List (Str × D))
abbrev MH := Addr → Option MO
abbrev EnvD := List (Option D)
def mput (M : MH) (a : Addr) (o : MO) : MH := fun b => if b = a then some o else M b
theorem mput_same {M : MH} {a : Addr} {o : MO} : mput M a o a = some o := by unfold mput; rw [if_pos rfl]
theorem mput_ne {M : MH} {a b : Addr} {o : MO} (h : b ≠ a) : mput M a o b = M b := by unfold mput; rw [if_neg h]
def mdel (M : MH) (a : Addr) : MH := fun b => if b = a then none else M b
theorem mdel_same {M : MH} {a : Addr} : mdel M a a = none := by unfold mdel; rw [if_pos rfl]
theorem mdel_ne {M : MH} {a b : Addr} (h : b ≠ a) : mdel M a b = M b := by unfold mdel; rw [if_neg h]

def WrL (K : PySem.W.Frag) (a : Addr) (xs : List V) : Prop :=
  ∃ (o : Obj) (its : Array Value) (n : Nat), K.lookup a = some o ∧ o.cls = .type "list" ∧ o.dict = none ∧ o.data = .seq its n ∧ its.size ≤ sizeLine ∧ Vals xs its.toList
def WrT (K : PySem.W.Frag) (a : Addr) (xs : List V) : Prop :=
  ∃ (o : Obj) (its : Array Value) (n : Nat), K.lookup a = some o ∧ o.cls = .type "tuple" ∧ o.data = .seq its n ∧ its.size ≤ sizeLine ∧ Vals xs its.toList
def ReL (K : PySem.W.Frag) (H : Hp) (M : MH) (a : Addr) (xs : List V) : Prop := (M a = none ∧ Rd H a (.lst xs)) ∨ WrL K a xs
def ReT (K : PySem.W.Frag) (H : Hp) (M : MH) (a : Addr) (xs : List V) : Prop := (M a = none ∧ Rd H a (.tup xs)) ∨ WrT K a xs
theorem ReL.sq {K : PySem.W.Frag} {H : Hp} {M : MH} {a : Addr} {xs : List V} (h : ReL K H M a xs) : SqL K H a xs := h.elim (fun h => .inl h.2) .inr
theorem ReT.sq {K : PySem.W.Frag} {H : Hp} {M : MH} {a : Addr} {xs : List V} (h : ReT K H M a xs) : SqT K H a xs := h.elim (fun h => .inl h.2) .inr

/-- an exception that was caught: of the class at C, its own dict at dx -/
def ExcAt (a C : Addr) (dx : Option Addr) : Heap → Prop := fun h => ∃ oe vs, h.get? a = some oe ∧ oe.cls = .ref C ∧ oe.dict = dx ∧ oe.data = .fields vs

mutual
inductive Rep (K : PySem.W.Frag) (H : Hp) (M : MH) : V → D → Prop
  | non : Rep K H M .non .non
  | bl (b) : Rep K H M (.bl b) (.bl b)
  | int (i) : Rep K H M (.int i) (.int i)
  | str (x) : Rep K H M (.str x) (.str x)
  | flt (x) : Rep K H M (.flt x) (.flt x)
  | ref (a) : Rep K H M (.ref a) (.ref a)
  | ty (n) : Rep K H M (.ty n) (.ty n)
  | lst {a vs xs} : ReL K H M a vs → Reps K H M vs xs → Rep K H M (.ref a) (.lst xs)
  | tup {a vs xs} : ReT K H M a vs → Reps K H M vs xs → Rep K H M (.ref a) (.tup xs)
  | dct {a kvs kds} : M a = none → H a = some (.dK kvs) → RepK K H M kvs kds → Rep K H M (.ref a) (.dct kds)
  | obj {a C dx fs ds} : M a = none → H a = some (.ins C dx fs) → RepF K H M fs ds → Rep K H M (.ref a) (.obj C ds)
  | exn {a C dx fs ds} : M a = none → M dx = none → H a = some (.ext (ExcAt a C (some dx))) → H dx = some (.xd fs) → RepF K H M fs ds → Rep K H M (.ref a) (.exn C ds)
  | exn0 {a C} : M a = none → H a = some (.ext (ExcAt a C none)) → Rep K H M (.ref a) (.exn C [])
inductive Reps (K : PySem.W.Frag) (H : Hp) (M : MH) : List V → List D → Prop
  | nil : Reps K H M [] []
  | cons {v d vs ds} : Rep K H M v d → Reps K H M vs ds → Reps K H M (v :: vs) (d :: ds)
inductive RepK (K : PySem.W.Frag) (H : Hp) (M : MH) : List (Key × V) → List (Key × D) → Prop
  | nil : RepK K H M [] []
  | cons {k v d vs ds} : Rep K H M v d → RepK K H M vs ds → RepK K H M ((k, v) :: vs) ((k, d) :: ds)
inductive RepF (K : PySem.W.Frag) (H : Hp) (M : MH) : List (Str × V) → List (Str × D) → Prop
  | nil : RepF K H M [] []
  | cons {k v d vs ds} : Rep K H M v d → RepF K H M vs ds → RepF K H M ((k, v) :: vs) ((k, d) :: ds)
end

/-- what is a tree stays -/
def Good (H : Hp) (M : MH) (H' : Hp) (M' : MH) : Prop := ∀ a o, H a = some o → M a = none → H' a = some o ∧ M' a = none
theorem Good.refl {H : Hp} {M : MH} : Good H M H M := fun _ _ h m => ⟨h, m⟩
theorem Good.trans {H H1 H2 : Hp} {M M1 M2 : MH} (a : Good H M H1 M1) (b : Good H1 M1 H2 M2) : Good H M H2 M2 := fun c o h m => let ⟨h1, m1⟩ := a c o h m; b c o h1 m1

section
variable {K : PySem.W.Frag} {H H' : Hp} {M M' : MH}
theorem Rd.good {a : Addr} {u : HO} (g : Good H M H' M') (m : M a = none) (r : Rd H a u) : Rd H' a u ∧ M' a = none := by
  rcases r with r | ⟨o, r⟩
  · exact ⟨.inl (g a _ r m).1, (g a _ r m).2⟩
  · exact ⟨.inr ⟨o, (g a _ r m).1⟩, (g a _ r m).2⟩
theorem ReL.good {a : Addr} {xs : List V} (g : Good H M H' M') (h : ReL K H M a xs) : ReL K H' M' a xs := by
  rcases h with ⟨m, r⟩ | h
  · exact .inl ⟨(Rd.good g m r).2, (Rd.good g m r).1⟩
  · exact .inr h
theorem ReT.good {a : Addr} {xs : List V} (g : Good H M H' M') (h : ReT K H M a xs) : ReT K H' M' a xs := by
  rcases h with ⟨m, r⟩ | h
  · exact .inl ⟨(Rd.good g m r).2, (Rd.good g m r).1⟩
  · exact .inr h
mutual
theorem Rep.good (g : Good H M H' M') : ∀ {v : V} {d : D}, Rep K H M v d → Rep K H' M' v d
  | _, _, .non => .non
  | _, _, .bl b => .bl b
  | _, _, .int i => .int i
  | _, _, .str x => .str x
  | _, _, .flt x => .flt x
  | _, _, .ref a => .ref a
  | _, _, .ty n => .ty n
  | _, _, .lst h r => .lst (h.good g) (Reps.good g r)
  | _, _, .tup h r => .tup (h.good g) (Reps.good g r)
  | _, _, .dct m h r => .dct (g _ _ h m).2 (g _ _ h m).1 (RepK.good g r)
  | _, _, .obj m h r => .obj (g _ _ h m).2 (g _ _ h m).1 (RepF.good g r)
  | _, _, .exn0 m h => .exn0 (g _ _ h m).2 (g _ _ h m).1
  | _, _, .exn m m2 h h2 r => .exn (g _ _ h m).2 (g _ _ h2 m2).2 (g _ _ h m).1 (g _ _ h2 m2).1 (RepF.good g r)
theorem Reps.good (g : Good H M H' M') : ∀ {vs : List V} {ds : List D}, Reps K H M vs ds → Reps K H' M' vs ds
  | _, _, .nil => .nil
  | _, _, .cons r t => .cons (Rep.good g r) (Reps.good g t)
theorem RepK.good (g : Good H M H' M') : ∀ {vs : List (Key × V)} {ds : List (Key × D)}, RepK K H M vs ds → RepK K H' M' vs ds
  | _, _, .nil => .nil
  | _, _, .cons r t => .cons (Rep.good g r) (RepK.good g t)
theorem RepF.good (g : Good H M H' M') : ∀ {vs : List (Str × V)} {ds : List (Str × D)}, RepF K H M vs ds → RepF K H' M' vs ds
  | _, _, .nil => .nil
  | _, _, .cons r t => .cons (Rep.good g r) (RepF.good g t)
end
theorem Reps.length : ∀ {vs : List V} {ds : List D}, Reps K H M vs ds → vs.length = ds.length
  | _, _, .nil => rfl
  | _, _, .cons _ t => by simp [Reps.length t]
theorem Reps.get : ∀ {vs : List V} {ds : List D} {i : Nat} {d : D}, Reps K H M vs ds → ds[i]? = some d → ∃ v, vs[i]? = some v ∧ Rep K H M v d
  | _, _, _, _, .nil, e => by simp at e
  | _, _, 0, _, .cons r _, e => by simp at e; subst e; exact ⟨_, rfl, r⟩
  | _, _, i + 1, d, .cons _ t, e => by
    obtain ⟨v, h1, h2⟩ := Reps.get (i := i) t (by simpa using e)
    exact ⟨v, by simpa using h1, h2⟩
theorem Reps.get' : ∀ {vs : List V} {ds : List D} {i : Nat} {v : V}, Reps K H M vs ds → vs[i]? = some v → ∃ d, ds[i]? = some d ∧ Rep K H M v d
  | _, _, _, _, .nil, e => by simp at e
  | _, _, 0, _, .cons r _, e => by simp at e; subst e; exact ⟨_, rfl, r⟩
  | _, _, i + 1, d, .cons _ t, e => by
    obtain ⟨v, h1, h2⟩ := Reps.get' (i := i) t (by simpa using e)
    exact ⟨v, by simpa using h1, h2⟩
theorem Reps.append : ∀ {vs ws : List V} {ds es : List D}, Reps K H M vs ds → Reps K H M ws es → Reps K H M (vs ++ ws) (ds ++ es)
  | _, _, _, _, .nil, s => s
  | _, _, _, _, .cons r t, s => .cons r (Reps.append t s)
theorem Reps.set {v : V} {d : D} (r : Rep K H M v d) : ∀ {vs : List V} {ds : List D} (i : Nat), Reps K H M vs ds → Reps K H M (vs.set i v) (ds.set i d)
  | _, _, _, .nil => .nil
  | _, _, 0, .cons _ t => .cons r t
  | _, _, i + 1, .cons q t => .cons q (Reps.set r i t)
theorem Reps.take : ∀ {vs : List V} {ds : List D} (n : Nat), Reps K H M vs ds → Reps K H M (vs.take n) (ds.take n)
  | _, _, 0, _ => .nil
  | _, _, _ + 1, .nil => .nil
  | _, _, n + 1, .cons r t => .cons r (Reps.take n t)
theorem Reps.drop : ∀ {vs : List V} {ds : List D} (n : Nat), Reps K H M vs ds → Reps K H M (vs.drop n) (ds.drop n)
  | _, _, 0, r => r
  | _, _, _ + 1, .nil => .nil
  | _, _, n + 1, .cons _ t => Reps.drop n t
theorem RepF.lookup {f : Str} : ∀ {vs : List (Str × V)} {ds : List (Str × D)} {d : D}, RepF K H M vs ds → ds.lookup f = some d → ∃ v, vs.lookup f = some v ∧ Rep K H M v d
  | _, _, _, .nil, e => by simp at e
  | _, _, d, .cons (k := k) r t, e => by
    rw [List.lookup_cons] at e ⊢
    cases h : f == k with
    | true => rw [h] at e; cases e; exact ⟨_, rfl, r⟩
    | false => rw [h] at e; exact RepF.lookup t e
theorem RepF.length : ∀ {vs : List (Str × V)} {ds : List (Str × D)}, RepF K H M vs ds → vs.length = ds.length
  | _, _, .nil => rfl
  | _, _, .cons _ t => by simp [RepF.length t]
theorem RepF.lookup_none {f : Str} : ∀ {vs : List (Str × V)} {ds : List (Str × D)}, RepF K H M vs ds → ds.lookup f = none → vs.lookup f = none
  | _, _, .nil, _ => rfl
  | _, _, .cons (k := k) r t, e => by
    rw [List.lookup_cons] at e ⊢
    cases h : f == k with
    | true => rw [h] at e; cases e
    | false => rw [h] at e; exact RepF.lookup_none t e
end

/-- what has an address -/
inductive RepM (K : PySem.W.Frag) (H : Hp) (M : MH) : HO → MO → Prop
  | lst {vs xs} : Reps K H M vs xs → RepM K H M (.lst vs) (.lst xs)
  | dct {kvs kds} : RepK K H M kvs kds → RepM K H M (.dK kvs) (.dct kds)
  | ins {C dx fs ds o} : M dx = none → H dx = some o → RepF K H M fs ds → RepM K H M (.ins C dx fs) (.ins C ds)
def Mut (K : PySem.W.Frag) (H : Hp) (M : MH) : Prop := ∀ a mo, M a = some mo → ∃ ho, H a = some ho ∧ RepM K H M ho mo
def Slots (K : PySem.W.Frag) (H : Hp) (M : MH) (σ : L2.St) (τ : EnvD) : Prop := σ.length = τ.length ∧ ∀ (i : Nat) (d : D), τ[i]? = some (some d) → ∃ v, σ[i]? = some (some v) ∧ Rep K H M v d
section
variable {K : PySem.W.Frag} {H H' : Hp} {M M' : MH} {σ : L2.St} {τ : EnvD}
theorem RepM.good (g : Good H M H' M') {ho : HO} {mo : MO} (h : RepM K H M ho mo) : RepM K H' M' ho mo := by
  cases h with
  | lst r => exact .lst (r.good g)
  | dct r => exact .dct (r.good g)
  | ins m e r => exact .ins (g _ _ e m).2 (g _ _ e m).1 (r.good g)
theorem Slots.good (g : Good H M H' M') (h : Slots K H M σ τ) : Slots K H' M' σ τ := ⟨h.1, fun i d e => let ⟨v, e1, r⟩ := h.2 i d e; ⟨v, e1, r.good g⟩⟩
theorem Slots.set {i : Nat} {v : V} {d : D} (h : Slots K H M σ τ) (r : Rep K H M v d) : Slots K H M (σ.set i (some v)) (τ.set i (some d)) := by
  refine ⟨by simp [h.1], fun j e q => ?_⟩
  by_cases hj : i = j
  · subst hj
    by_cases hl : i < τ.length
    · rw [List.getElem?_set_self hl] at q
      cases q
      exact ⟨v, List.getElem?_set_self (by rw [h.1]; exact hl), r⟩
    · rw [List.getElem?_eq_none (by simpa using hl)] at q
      cases q
  · rw [List.getElem?_set_ne hj] at q ⊢
    exact h.2 j e q
theorem Slots.unset {i : Nat} (h : Slots K H M σ τ) : Slots K H M (σ.set i none) (τ.set i none) := by
  refine ⟨by simp [h.1], fun j e q => ?_⟩
  by_cases hj : i = j
  · subst hj
    by_cases hl : i < τ.length
    · rw [List.getElem?_set_self hl] at q
      cases q
    · rw [List.getElem?_eq_none (by simpa using hl)] at q
      cases q
  · rw [List.getElem?_set_ne hj] at q ⊢
    exact h.2 j e q
end

/-! ### readings over trees -/
abbrev WD := Addr → List (Str × D) → EnvD → MH → Prop
abbrev QD := D → MH → Prop
abbrev TED := WD → EnvD → MH → QD → Prop
abbrev TTD := WD → EnvD → MH → (Bool → MH → Prop) → Prop
abbrev TAD := WD → EnvD → MH → (List D → MH → Prop) → Prop
structure EndsD where
  nx : EnvD → MH → Prop
  rt : QD
  bk : EnvD → MH → Prop := fun _ _ => False
  ct : EnvD → MH → Prop := fun _ _ => False
abbrev TSD := WD → EndsD → EnvD → MH → Prop

/-- an exception's own dict -/
def ExD (K : PySem.W.Frag) (H : Hp) (M : MH) (d : Option Addr) (fs : List (Str × D)) : Prop :=
  (∃ dx ws, d = some dx ∧ M dx = none ∧ H dx = some (.xd ws) ∧ RepF K H M ws fs) ∨ (d = none ∧ fs = [])
/-- the wish for exceptions, over trees -/
def liftW (K : PySem.W.Frag) (H0 : Hp) (M0 : MH) (W : WD) : WX := fun cls d σ H => ∃ C ds τ M, cls = .ref C ∧ ExD K H M d ds ∧ Good H0 M0 H M ∧ Slots K H M σ τ ∧ Mut K H M ∧ W C ds τ M
def upE (K : PySem.W.Frag) (H0 : Hp) (M0 : MH) (W : WD) (t : TED) : TE := fun σ H Q => ∃ τ M F, Good H0 M0 H M ∧ Slots K H M σ τ ∧ Mut K H M ∧ t W τ M F ∧
  ∀ v H' d M', Good H M H' M' → Mut K H' M' → Rep K H' M' v d → F d M' → Q v H'
def upT (K : PySem.W.Frag) (H0 : Hp) (M0 : MH) (W : WD) (t : TTD) : TT := fun σ H Q => ∃ τ M F, Good H0 M0 H M ∧ Slots K H M σ τ ∧ Mut K H M ∧ t W τ M F ∧
  ∀ b H' M', Good H M H' M' → Mut K H' M' → F b M' → Q b H'
def upA (K : PySem.W.Frag) (H0 : Hp) (M0 : MH) (W : WD) (t : TAD) : TA := fun σ H Q => ∃ τ M F, Good H0 M0 H M ∧ Slots K H M σ τ ∧ Mut K H M ∧ t W τ M F ∧
  ∀ vs H' ds M', Good H M H' M' → Mut K H' M' → Reps K H' M' vs ds → F ds M' → Q vs H'
def liftN (K : PySem.W.Frag) (H0 : Hp) (M0 : MH) (N : EnvD → MH → Prop) : L2.St → Hp → Prop := fun σ H => ∃ τ M, Good H0 M0 H M ∧ Slots K H M σ τ ∧ Mut K H M ∧ N τ M
def liftR (K : PySem.W.Frag) (H0 : Hp) (M0 : MH) (R : QD) : VK := fun v H => ∃ d M, Good H0 M0 H M ∧ Mut K H M ∧ Rep K H M v d ∧ R d M
def upS (K : PySem.W.Frag) (H0 : Hp) (M0 : MH) (W : WD) (t : TSD) : TS := fun D σ H => ∃ τ M F, Good H0 M0 H M ∧ Slots K H M σ τ ∧ Mut K H M ∧ t W F τ M ∧
  (∀ σ' H', liftN K H M F.nx σ' H' → D.nx σ' H') ∧ (∀ v H', liftR K H M F.rt v H' → D.rt v H') ∧ (∀ σ' H', liftN K H M F.bk σ' H' → D.bk σ' H') ∧ (∀ σ' H', liftN K H M F.ct σ' H' → D.ct σ' H')
theorem liftN.tr {K : PySem.W.Frag} {H H1 H2 : Hp} {M M1 : MH} {N : EnvD → MH → Prop} {σ : L2.St} (g : Good H M H1 M1) (h : liftN K H1 M1 N σ H2) : liftN K H M N σ H2 := let ⟨τ, M2, g2, sl, mu, q⟩ := h; ⟨τ, M2, g.trans g2, sl, mu, q⟩
theorem liftR.tr {K : PySem.W.Frag} {H H1 H2 : Hp} {M M1 : MH} {R : QD} {v : V} (g : Good H M H1 M1) (h : liftR K H1 M1 R v H2) : liftR K H M R v H2 := let ⟨d, M2, g2, mu, r, q⟩ := h; ⟨d, M2, g.trans g2, mu, r, q⟩

/-- a place where code runs: X up to what is wished of exceptions -/
structure At (X : Cx) (pn : List (Addr × Obj)) (xe : Value → Shared → Prop) (H0 : Hp) (M0 : MH) (W : WD) : Prop where
  tk : Takes (X.tr pn xe) (liftW X.K H0 M0 W)
  po : PassesOwn (model X.prog X.w) X.A X.env xe
def PD (X : Cx) (e : Expr) (t : TED) : Prop := ∀ pn xe H0 M0 W, At X pn xe H0 M0 W → PE (X.tr pn xe) e (upE X.K H0 M0 W t)
def PDT (X : Cx) (e : Expr) (t : TTD) : Prop := ∀ pn xe H0 M0 W, At X pn xe H0 M0 W → PT (X.tr pn xe) e (upT X.K H0 M0 W t)
def PDW (X : Cx) (e : Expr) (t : TTD) : Prop := ∀ pn xe H0 M0 W, At X pn xe H0 M0 W → PW (X.tr pn xe) e (upT X.K H0 M0 W t)
def PDA (X : Cx) (es : List Expr) (t : TAD) : Prop := ∀ pn xe H0 M0 W, At X pn xe H0 M0 W → PA (X.tr pn xe) es (upA X.K H0 M0 W t)
def PDS (X : Cx) (s : Stmt) (t : TSD) : Prop := ∀ pn xe H0 M0 W, At X pn xe H0 M0 W → PS (X.tr pn xe) s (upS X.K H0 M0 W t)
def PDB (X : Cx) (s : List Stmt) (t : TSD) : Prop := ∀ pn xe H0 M0 W, At X pn xe H0 M0 W → PSs (X.tr pn xe) s (upS X.K H0 M0 W t)
end Z

set_option Elab.async false
set_option linter.all false
set_option maxRecDepth 100000
set_option maxHeartbeats 4000000
namespace Z
open PySem L2 PySem.Spec PyProof.Rows

theorem imE {X : Cx} {e : Expr} {t t' : TE} (h : PE X e t) (i : ∀ σ H Q, t' σ H Q → t σ H Q) : PE X e t' := ⟨fun pins s σ H Q I q => h.run pins s σ H Q I (i σ H Q q)⟩
theorem imT {X : Cx} {e : Expr} {t t' : TT} (h : PT X e t) (i : ∀ σ H Q, t' σ H Q → t σ H Q) : PT X e t' := ⟨fun pins s σ H Q I q => h.run pins s σ H Q I (i σ H Q q)⟩
theorem imW {X : Cx} {e : Expr} {t t' : TT} (h : PW X e t) (i : ∀ σ H Q, t' σ H Q → t σ H Q) : PW X e t' := ⟨fun w pins s σ H Q I q => h.run w pins s σ H Q I (i σ H Q q)⟩
theorem imA {X : Cx} {e : List Expr} {t t' : TA} (h : PA X e t) (i : ∀ σ H Q, t' σ H Q → t σ H Q) : PA X e t' := ⟨fun pos pins s σ H Q I q => h.run pos pins s σ H Q I (i σ H Q q)⟩
theorem imS {X : Cx} {e : Stmt} {t t' : TS} (h : PS X e t) (i : ∀ D σ H, t' D σ H → t D σ H) : PS X e t' := ⟨fun pins s σ H D I q => h.run pins s σ H D I (i D σ H q)⟩
theorem imB {X : Cx} {e : List Stmt} {t t' : TS} (h : PSs X e t) (i : ∀ D σ H, t' D σ H → t D σ H) : PSs X e t' := ⟨fun pins s σ H D I q => h.run pins s σ H D I (i D σ H q)⟩

/-! ### slots by their places -/
def getN : EnvD → Nat → Option D
  | [], _ => none
  | x :: _, 0 => x
  | _ :: r, n + 1 => getN r n
def setN : EnvD → Nat → Option D → EnvD
  | [], _, _ => []
  | _ :: r, 0, d => d :: r
  | x :: r, n + 1, d => x :: setN r n d
theorem getN_some : ∀ {τ : EnvD} {i : Nat} {d : D}, getN τ i = some d → τ[i]? = some (some d)
  | [], _, _, h => by cases h
  | x :: _, 0, d, h => by simp [getN] at h; subst h; rfl
  | _ :: r, n + 1, d, h => by simpa using getN_some (τ := r) (i := n) h
theorem setN_eq : ∀ (τ : EnvD) (i : Nat) (d : Option D), setN τ i d = τ.set i d
  | [], _, _ => rfl
  | _ :: _, 0, _ => rfl
  | x :: r, n + 1, d => by show x :: setN r n d = x :: r.set n d; rw [setN_eq r n d]

/-! ### relations between operations on values and on trees -/
abbrev R2D := D → D → MH → QD → Prop
abbrev RCD := List D → MH → QD → Prop
/-- behind an operation -/
abbrev Fin (K : PySem.W.Frag) (H : Hp) (M : MH) (F : QD) (Q : VK) : Prop := ∀ v H' d M', Good H M H' M' → Mut K H' M' → Rep K H' M' v d → F d M' → Q v H'
def SimOp (K : PySem.W.Frag) (r : R2) (rd : R2D) : Prop := ∀ x y d e H M F Q, Rep K H M x d → Rep K H M y e → Mut K H M → rd d e M F → Fin K H M F Q → r x y H Q
def SimU (K : PySem.W.Frag) (r : V → Hp → VK → Prop) (rd : D → MH → QD → Prop) : Prop := ∀ x d H M F Q, Rep K H M x d → Mut K H M → rd d M F → Fin K H M F Q → r x H Q
def SimC (K : PySem.W.Frag) (r : List V → Hp → VK → Prop) (rd : RCD) : Prop := ∀ xs ds H M F Q, Reps K H M xs ds → Mut K H M → rd ds M F → Fin K H M F Q → r xs H Q

/-! ### expressions -/
def tVarD (i : Nat) : TED := fun _ τ M Q => match getN τ i with | some d => Q d M | none => False
def tCD (d : D) : TED := fun _ _ M Q => Q d M
def tOpD (r : R2D) (ta tb : TED) : TED := fun W τ M Q => ta W τ M fun x M1 => tb W τ M1 fun y M2 => r x y M2 Q
def tUnD (r : D → MH → QD → Prop) (ta : TED) : TED := fun W τ M Q => ta W τ M fun x M1 => r x M1 Q
def tNilD : TAD := fun _ _ M Q => Q [] M
def tConsD (ta : TED) (tr : TAD) : TAD := fun W τ M Q => ta W τ M fun x M1 => tr W τ M1 fun xs M2 => Q (x :: xs) M2
def tCBD (r : RCD) (t : TAD) : TED := fun W τ M Q => t W τ M fun ds M1 => r ds M1 Q
section
variable {X : Cx} {e a b c : Expr} {es : List Expr} {t ta tb tc : TED} {ts : TAD} {pos p : Pos}

theorem upE_fin {K : PySem.W.Frag} {H0 : Hp} {M0 : MH} {W : WD} {σ : L2.St} {H : Hp} {M : MH} {τ : EnvD} {t : TED} {F : QD} {Q : VK} (g0 : Good H0 M0 H M) (sl : Slots K H M σ τ) (mu : Mut K H M) (h : t W τ M F) (k : Fin K H M F Q) : upE K H0 M0 W t σ H Q :=
  ⟨τ, M, F, g0, sl, mu, h, k⟩

theorem pd_var (i : Nat) {x : Str} (hN : X.N[i]? = some x := by rfl) (hv : Vis X.env.scope x := by first | exact Or.inl rfl | exact Or.inr (Or.inl rfl) | exact Or.inr (Or.inr rfl)) (hd : (x == ("__debug__" : Str)) = false := by decide)
    (hcd : (x == ("__classdict__" : Str)) = false := by decide) : PD X (.Name x pos) (tVarD i) := fun pn xe H0 M0 W at_ =>
  imE (pe_var (X := X.tr pn xe) hN hv hd hcd) fun σ H Q ⟨τ, M, F, g0, sl, mu, h, k⟩ => by
    unfold tVarD at h
    cases q : getN τ i with
    | none => rw [q] at h; exact h.elim
    | some d =>
      rw [q] at h
      obtain ⟨v, e1, r⟩ := sl.2 i d (getN_some q)
      exact ⟨v, e1, k v H d M .refl mu r h⟩
theorem pd_c {v : V} {d : D} (h : ∀ pn xe, PE (X.tr pn xe) e (tC v)) (r : ∀ K H M, Rep K H M v d) : PD X e (tCD d) := fun pn xe H0 M0 W at_ =>
  imE (h pn xe) fun σ H Q ⟨τ, M, F, g0, sl, mu, h, k⟩ => k v H d M .refl mu (r _ _ _) h
theorem pd_int {i j} : PD X (.Constant (.int i) j pos) (tCD (.int i)) := pd_c (fun _ _ => pe_int) fun _ _ _ => .int i
theorem pd_bl {i j} : PD X (.Constant (.bool i) j pos) (tCD (.bl i)) := pd_c (fun _ _ => pe_bl) fun _ _ _ => .bl i
theorem pd_non {j} : PD X (.Constant .none j pos) (tCD .non) := pd_c (fun _ _ => pe_non) fun _ _ _ => .non
theorem pd_str {i j} : PD X (.Constant (.str i) j pos) (tCD (.str i)) := pd_c (fun _ _ => pe_str) fun _ _ _ => .str i
/-- a def, a class -/
theorem pd_glob {x : Str} {f : Addr} (hm : X.mg x = some (.ref f)) (hg : Gl X x := by rfl) (hd : (x == ("__debug__" : Str)) = false := by decide) : PD X (.Name x pos) (tCD (.ref f)) :=
  pd_c (fun pn xe => pe_glob (X := X.tr pn xe) (v := .ref f) hg hm rfl hd) fun _ _ _ => .ref f
/-- a built-in type -/
theorem pd_ty {x : Str} {n : String} (hm : X.mg x = none) (hv : bootBuiltins x = some (.type n) := by decide +kernel) (hg : Gl X x := by rfl) (hn : x ≠ "__name__" := by decide) (hd : (x == ("__debug__" : Str)) = false := by decide) : PD X (.Name x pos) (tCD (.ty n)) :=
  pd_c (fun pn xe => pe_bltn (X := X.tr pn xe) (v := .ty n) hg hm hv rfl hn hd) fun _ _ _ => .ty n

theorem pd_op {op : Operator} {r : R2} {rd : R2D} (ho : ∀ pn xe, OpR (X.tr pn xe) (binaryOp op) r) (hs : SimOp X.K r rd) (ha : PD X a ta) (hb : PD X b tb) : PD X (.BinOp a op b pos) (tOpD rd ta tb) := fun pn xe H0 M0 W at_ =>
  imE (pe_op (ho pn xe) (ha pn xe H0 M0 W at_) (hb pn xe H0 M0 W at_)) fun σ H Q ⟨τ, M, F, g0, sl, mu, h, k⟩ =>
    upE_fin g0 sl mu h fun x H1 d M1 g1 mu1 r1 h1 => upE_fin (g0.trans g1) (sl.good g1) mu1 h1 fun y H2 e M2 g2 mu2 r2 h2 =>
      hs x y d e H2 M2 F Q (r1.good g2) r2 mu2 h2 fun v H' d' M' g' mu' r' f' => k v H' d' M' ((g1.trans g2).trans g') mu' r' f'
theorem pd_cmp {op : CmpOp} {r : R2} {rd : R2D} (ho : ∀ pn xe, OpR (X.tr pn xe) (compareOp op) r) (hs : SimOp X.K r rd) (ha : PD X a ta) (hb : PD X b tb) (hm : behindInMarks op b = false := by first | exact nomark _ | rfl) : PD X (.Compare a [op] [b] pos) (tOpD rd ta tb) := fun pn xe H0 M0 W at_ =>
  imE (pe_cmpR (ho pn xe) (ha pn xe H0 M0 W at_) (hb pn xe H0 M0 W at_) hm) fun σ H Q ⟨τ, M, F, g0, sl, mu, h, k⟩ =>
    upE_fin g0 sl mu h fun x H1 d M1 g1 mu1 r1 h1 => upE_fin (g0.trans g1) (sl.good g1) mu1 h1 fun y H2 e M2 g2 mu2 r2 h2 =>
      hs x y d e H2 M2 F Q (r1.good g2) r2 mu2 h2 fun v H' d' M' g' mu' r' f' => k v H' d' M' ((g1.trans g2).trans g') mu' r' f'
theorem pd_un {op : UnaryOp} {r : V → Hp → VK → Prop} {rd : D → MH → QD → Prop} (ho : ∀ pn xe, UnR (X.tr pn xe) (unaryOp op) r) (hs : SimU X.K r rd) (ha : PD X a ta) : PD X (.UnaryOp op a pos) (tUnD rd ta) := fun pn xe H0 M0 W at_ =>
  imE (pe_un (ho pn xe) (ha pn xe H0 M0 W at_)) fun σ H Q ⟨τ, M, F, g0, sl, mu, h, k⟩ =>
    upE_fin g0 sl mu h fun x H1 d M1 g1 mu1 r1 h1 => hs x d H1 M1 F Q r1 mu1 h1 fun v H' d' M' g' mu' r' f' => k v H' d' M' (g1.trans g') mu' r' f'

/-! ### arguments, displays -/
theorem pda_nil : PDA X [] tNilD := fun pn xe H0 M0 W at_ => imA pa_nil fun σ H Q ⟨τ, M, F, g0, sl, mu, h, k⟩ => k [] H [] M .refl mu .nil h
theorem pda_cons (ha : PD X e t) (hr : PDA X es ts) (hs : starEach (e :: es) X.env = (false, eval e X.env) :: starEach es X.env := by rfl) : PDA X (e :: es) (tConsD t ts) := fun pn xe H0 M0 W at_ =>
  imA (pa_cons (X := X.tr pn xe) (ha pn xe H0 M0 W at_) (hr pn xe H0 M0 W at_) hs) fun σ H Q ⟨τ, M, F, g0, sl, mu, h, k⟩ =>
    upE_fin g0 sl mu h fun x H1 d M1 g1 mu1 r1 h1 => ⟨τ, M1, _, g0.trans g1, sl.good g1, mu1, h1, fun xs H2 ds M2 g2 mu2 r2 h2 => k (x :: xs) H2 (d :: ds) M2 (g1.trans g2) mu2 (.cons (r1.good g2) r2) h2⟩

theorem good_new {H : Hp} {M : MH} {p : Addr} {o : HO} (hp : H p = none) : Good H M (upd H p o) M := fun a u h m => ⟨by rw [upd_ne (ne_of_none h hp)]; exact h, m⟩
theorem good_put {H : Hp} {M : MH} {p : Addr} {o : HO} {mo : MO} (hp : H p = none) : Good H M (upd H p o) (mput M p mo) := fun a u h m => ⟨by rw [upd_ne (ne_of_none h hp)]; exact h, by rw [mput_ne (ne_of_none h hp)]; exact m⟩
theorem mut_none {K : PySem.W.Frag} {H : Hp} {M : MH} {p : Addr} (mu : Mut K H M) (hp : H p = none) : M p = none := by
  cases q : M p with
  | none => rfl
  | some mo => obtain ⟨ho, e, _⟩ := mu p mo q; rw [hp] at e; cases e
theorem mut_new {K : PySem.W.Frag} {H : Hp} {M : MH} {p : Addr} {o : HO} (mu : Mut K H M) (hp : H p = none) : Mut K (upd H p o) M := fun a mo e => by
  obtain ⟨ho, e1, r⟩ := mu a mo e
  exact ⟨ho, by rw [upd_ne (ne_of_none e1 hp)]; exact e1, r.good (good_new hp)⟩
theorem mut_put {K : PySem.W.Frag} {H : Hp} {M : MH} {p : Addr} {o : HO} {mo : MO} (mu : Mut K H M) (hp : H p = none) (r : RepM K H M o mo) : Mut K (upd H p o) (mput M p mo) := fun a mo' e => by
  by_cases h : a = p
  · subst h
    rw [mput_same] at e
    cases e
    exact ⟨o, upd_same, r.good (good_put hp)⟩
  · rw [mput_ne h] at e
    obtain ⟨ho, e1, r⟩ := mu a mo' e
    exact ⟨ho, by rw [upd_ne h]; exact e1, r.good (good_put hp)⟩
theorem good_write {H : Hp} {M : MH} {p : Addr} {o : HO} {mo mo' : MO} (hp : M p = some mo') : Good H M (upd H p o) (mput M p mo) := fun a u h m => by
  have n : a ≠ p := fun e => by rw [e, hp] at m; cases m
  exact ⟨by rw [upd_ne n]; exact h, by rw [mput_ne n]; exact m⟩
theorem mut_write {K : PySem.W.Frag} {H : Hp} {M : MH} {p : Addr} {o : HO} {mo mo' : MO} (mu : Mut K H M) (hp : M p = some mo') (r : RepM K H M o mo) : Mut K (upd H p o) (mput M p mo) := fun a m e => by
  by_cases h : a = p
  · subst h
    rw [mput_same] at e
    cases e
    exact ⟨o, upd_same, r.good (good_write hp)⟩
  · rw [mput_ne h] at e
    obtain ⟨ho, e1, r⟩ := mu a m e
    exact ⟨ho, by rw [upd_ne h]; exact e1, r.good (good_write hp)⟩
theorem good_del {H : Hp} {M : MH} {p : Addr} : Good H M H (mdel M p) := fun a u h m => ⟨h, by unfold mdel; split <;> first | rfl | exact m⟩
theorem mut_del {K : PySem.W.Frag} {H : Hp} {M : MH} {p : Addr} (mu : Mut K H M) : Mut K H (mdel M p) := fun a mo e => by
  by_cases h : a = p
  · subst h; rw [mdel_same] at e; cases e
  · rw [mdel_ne h] at e
    obtain ⟨ho, e1, r⟩ := mu a mo e
    exact ⟨ho, e1, r.good good_del⟩

def tTupD (t : TAD) : TED := fun W τ M Q => t W τ M fun ds M1 => decide (ds.length ≤ 16777216) = true ∧ Q (.tup ds) M1
def tLstD (t : TAD) : TED := fun W τ M Q => t W τ M fun ds M1 => decide (ds.length ≤ 16777216) = true ∧ Q (.lst ds) M1
/-- a list that is going to be changed -/
def tLstM (t : TAD) : TED := fun W τ M Q => t W τ M fun ds M1 => decide (ds.length ≤ 16777216) = true ∧ ∀ p, M1 p = none → Q (.ref p) (mput M1 p (.lst ds))
theorem szl {n : Nat} (h : decide (n ≤ 16777216) = true) : n ≤ sizeLine := by rw [sizeLine_eq]; exact of_decide_eq_true h
theorem rep_tup {K : PySem.W.Frag} {H : Hp} {M : MH} {p : Addr} {vs : List V} {ds : List D} (mu : Mut K H M) (hp : H p = none) (r : Reps K H M vs ds) : Rep K (upd H p (.tup vs)) M (.ref p) (.tup ds) :=
  .tup (.inl ⟨mut_none mu hp, .inl upd_same⟩) (r.good (good_new hp))
theorem rep_lst {K : PySem.W.Frag} {H : Hp} {M : MH} {p : Addr} {vs : List V} {ds : List D} (mu : Mut K H M) (hp : H p = none) (r : Reps K H M vs ds) : Rep K (upd H p (.lst vs)) M (.ref p) (.lst ds) :=
  .lst (.inl ⟨mut_none mu hp, .inl upd_same⟩) (r.good (good_new hp))
theorem pd_tup {x1} (h : PDA X es ts) : PD X (.Tuple es x1 pos) (tTupD ts) := fun pn xe H0 M0 W at_ =>
  imE (pe_tup (h pn xe H0 M0 W at_)) fun σ H Q ⟨τ, M, F, g0, sl, mu, h, k⟩ => ⟨τ, M, _, g0, sl, mu, h, fun vs H1 ds M1 g1 mu1 r ⟨z, q⟩ =>
    ⟨by rw [r.length]; exact szl z, fun p hp => k _ _ _ M1 (g1.trans (good_new hp)) (mut_new mu1 hp) (rep_tup mu1 hp r) q⟩⟩
theorem pd_lst (h : PDA X es ts) : PD X (.List es pos) (tLstD ts) := fun pn xe H0 M0 W at_ =>
  imE (pe_lst (h pn xe H0 M0 W at_)) fun σ H Q ⟨τ, M, F, g0, sl, mu, h, k⟩ => ⟨τ, M, _, g0, sl, mu, h, fun vs H1 ds M1 g1 mu1 r ⟨z, q⟩ =>
    ⟨by rw [r.length]; exact szl z, fun p hp => k _ _ _ M1 (g1.trans (good_new hp)) (mut_new mu1 hp) (rep_lst mu1 hp r) q⟩⟩
theorem pd_lstM (h : PDA X es ts) : PD X (.List es pos) (tLstM ts) := fun pn xe H0 M0 W at_ =>
  imE (pe_lst (h pn xe H0 M0 W at_)) fun σ H Q ⟨τ, M, F, g0, sl, mu, h, k⟩ => ⟨τ, M, _, g0, sl, mu, h, fun vs H1 ds M1 g1 mu1 r ⟨z, q⟩ =>
    ⟨by rw [r.length]; exact szl z, fun p hp => k _ _ _ _ (g1.trans (good_put hp)) (mut_put mu1 hp (.lst r)) (.ref p) (q p (mut_none mu1 hp))⟩⟩

/-! ### and, or, not, if -/
def tTestB (t : TED) : TTD := fun W τ M Q => t W τ M fun d M1 => match d with | .bl b => Q b M1 | _ => False
def tAndD (t u : TTD) : TTD := fun W τ M Q => t W τ M fun c M1 => (c = true → u W τ M1 Q) ∧ (c = false → Q false M1)
def tOrD (t u : TTD) : TTD := fun W τ M Q => t W τ M fun c M1 => (c = true → Q true M1) ∧ (c = false → u W τ M1 Q)
def tNotD (t : TTD) : TTD := fun W τ M Q => t W τ M fun c M1 => Q (!c) M1
def tAndE (t u : TED) : TED := fun W τ M Q => t W τ M fun d M1 => match d with | .bl c => (c = true → u W τ M1 Q) ∧ (c = false → Q (.bl false) M1) | _ => False
def tOrE (t u : TED) : TED := fun W τ M Q => t W τ M fun d M1 => match d with | .bl c => (c = true → Q (.bl true) M1) ∧ (c = false → u W τ M1 Q) | _ => False
def tNotE (t : TED) : TED := fun W τ M Q => t W τ M fun d M1 => match d with | .bl c => Q (.bl (!c)) M1 | _ => False
def tIfE (t : TTD) (ta tb : TED) : TED := fun W τ M Q => t W τ M fun c M1 => (c = true → ta W τ M1 Q) ∧ (c = false → tb W τ M1 Q)
variable {u u' : TTD} {rest : List Expr} {op : BoolOp}
theorem pd_one (h : PD X a ta) : PD X (.BoolOp op [a] pos) ta := fun pn xe H0 M0 W at_ => pe_one (h pn xe H0 M0 W at_)
theorem pd_and (ha : PD X a ta) (hb : PD X (.BoolOp .And (b :: rest) pos) tb) : PD X (.BoolOp .And (a :: b :: rest) pos) (tAndE ta tb) := fun pn xe H0 M0 W at_ =>
  imE (pe_and (ha pn xe H0 M0 W at_) (hb pn xe H0 M0 W at_)) fun σ H Q ⟨τ, M, F, g0, sl, mu, h, k⟩ => upE_fin g0 sl mu h fun x H1 d M1 g1 mu1 r1 h1 => by
    cases r1 with
    | bl c =>
      refine ⟨c, rfl, ?_⟩
      cases c with
      | true =>
        rw [if_pos rfl]
        exact upE_fin (g0.trans g1) (sl.good g1) mu1 (h1.1 rfl) fun y H2 e M2 g2 => k y H2 e M2 (g1.trans g2)
      | false =>
        rw [if_neg Bool.false_ne_true]
        exact k _ _ _ _ g1 mu1 (.bl _) (h1.2 rfl)
    | _ => exact h1.elim
theorem pd_or (ha : PD X a ta) (hb : PD X (.BoolOp .Or (b :: rest) pos) tb) : PD X (.BoolOp .Or (a :: b :: rest) pos) (tOrE ta tb) := fun pn xe H0 M0 W at_ =>
  imE (pe_or (ha pn xe H0 M0 W at_) (hb pn xe H0 M0 W at_)) fun σ H Q ⟨τ, M, F, g0, sl, mu, h, k⟩ => upE_fin g0 sl mu h fun x H1 d M1 g1 mu1 r1 h1 => by
    cases r1 with
    | bl c =>
      refine ⟨c, rfl, ?_⟩
      cases c with
      | true =>
        rw [if_pos rfl]
        exact k _ _ _ _ g1 mu1 (.bl _) (h1.1 rfl)
      | false =>
        rw [if_neg Bool.false_ne_true]
        exact upE_fin (g0.trans g1) (sl.good g1) mu1 (h1.2 rfl) fun y H2 e M2 g2 => k y H2 e M2 (g1.trans g2)
    | _ => exact h1.elim
theorem pd_not (ha : PD X a ta) : PD X (.UnaryOp .Not a pos) (tNotE ta) := fun pn xe H0 M0 W at_ =>
  imE (pe_not (ha pn xe H0 M0 W at_)) fun σ H Q ⟨τ, M, F, g0, sl, mu, h, k⟩ => upE_fin g0 sl mu h fun x H1 d M1 g1 mu1 r1 h1 => by
    cases r1 with
    | bl c => exact ⟨c, rfl, k _ _ _ _ g1 mu1 (.bl _) h1⟩
    | _ => exact h1.elim
/-- behind a test -/
abbrev FinT (K : PySem.W.Frag) (H : Hp) (M : MH) (F : Bool → MH → Prop) (Q : Bool → Hp → Prop) : Prop := ∀ b H' M', Good H M H' M' → Mut K H' M' → F b M' → Q b H'
theorem upT_fin {K : PySem.W.Frag} {H0 : Hp} {M0 : MH} {W : WD} {σ : L2.St} {H : Hp} {M : MH} {τ : EnvD} {t : TTD} {F : Bool → MH → Prop} {Q : Bool → Hp → Prop} (g0 : Good H0 M0 H M) (sl : Slots K H M σ τ) (mu : Mut K H M) (h : t W τ M F) (k : FinT K H M F Q) : upT K H0 M0 W t σ H Q :=
  ⟨τ, M, F, g0, sl, mu, h, k⟩
theorem pd_ifE (hc : PDT X c u) (ha : PD X a ta) (hb : PD X b tb) : PD X (.IfExp c a b pos) (tIfE u ta tb) := fun pn xe H0 M0 W at_ =>
  imE (pe_ifExp (hc pn xe H0 M0 W at_) (ha pn xe H0 M0 W at_) (hb pn xe H0 M0 W at_)) fun σ H Q ⟨τ, M, F, g0, sl, mu, h, k⟩ => upT_fin g0 sl mu h fun c H1 M1 g1 mu1 h1 => by
    cases c with
    | true =>
      rw [if_pos rfl]
      exact upE_fin (g0.trans g1) (sl.good g1) mu1 (h1.1 rfl) fun y H2 e M2 g2 => k y H2 e M2 (g1.trans g2)
    | false =>
      rw [if_neg Bool.false_ne_true]
      exact upE_fin (g0.trans g1) (sl.good g1) mu1 (h1.2 rfl) fun y H2 e M2 g2 => k y H2 e M2 (g1.trans g2)
theorem pdt_w (h : PDW X a u) : PDT X a u := fun pn xe H0 M0 W at_ => (h pn xe H0 M0 W at_).pt
theorem pdt_cmp {op : CmpOp} {r : R2} {rd : R2D} (ho : ∀ pn xe, OpR (X.tr pn xe) (compareOp op) r) (hs : SimOp X.K r rd) (ha : PD X a ta) (hb : PD X b tb) (hm : behindInMarks op b = false := by first | exact nomark _ | rfl) : PDT X (.Compare a [op] [b] pos) (tTestB (tOpD rd ta tb)) := fun pn xe H0 M0 W at_ =>
  imT (pt_cmpR (ho pn xe) (ha pn xe H0 M0 W at_) (hb pn xe H0 M0 W at_) hm) fun σ H Q ⟨τ, M, F, g0, sl, mu, h, k⟩ =>
    upE_fin g0 sl mu h fun x H1 d M1 g1 mu1 r1 h1 => upE_fin (g0.trans g1) (sl.good g1) mu1 h1 fun y H2 e M2 g2 mu2 r2 h2 =>
      hs x y d e H2 M2 _ _ (r1.good g2) r2 mu2 h2 fun v H' d' M' g' mu' r' f' => by
        cases r' with
        | bl c => exact ⟨c, rfl, k c H' M' ((g1.trans g2).trans g') mu' f'⟩
        | _ => exact f'.elim
theorem pdw_and1 (ha : PDT X a u) : PDW X (.BoolOp .And [a] pos) u := fun pn xe H0 M0 W at_ => pw_and1 (ha pn xe H0 M0 W at_)
theorem pdw_or1 (ha : PDT X a u) : PDW X (.BoolOp .Or [a] pos) u := fun pn xe H0 M0 W at_ => pw_or1 (ha pn xe H0 M0 W at_)
theorem pdw_and (ha : PDT X a u) (hb : PDW X (.BoolOp .And (b :: rest) pos) u') : PDW X (.BoolOp .And (a :: b :: rest) pos) (tAndD u u') := fun pn xe H0 M0 W at_ =>
  imW (pw_and (ha pn xe H0 M0 W at_) (hb pn xe H0 M0 W at_)) fun σ H Q ⟨τ, M, F, g0, sl, mu, h, k⟩ => upT_fin g0 sl mu h fun c H1 M1 g1 mu1 h1 => by
    cases c with
    | true =>
      rw [if_pos rfl]
      exact upT_fin (g0.trans g1) (sl.good g1) mu1 (h1.1 rfl) fun b H2 M2 g2 => k b H2 M2 (g1.trans g2)
    | false =>
      rw [if_neg Bool.false_ne_true]
      exact k _ _ _ g1 mu1 (h1.2 rfl)
theorem pdw_or (ha : PDT X a u) (hb : PDW X (.BoolOp .Or (b :: rest) pos) u') : PDW X (.BoolOp .Or (a :: b :: rest) pos) (tOrD u u') := fun pn xe H0 M0 W at_ =>
  imW (pw_or (ha pn xe H0 M0 W at_) (hb pn xe H0 M0 W at_)) fun σ H Q ⟨τ, M, F, g0, sl, mu, h, k⟩ => upT_fin g0 sl mu h fun c H1 M1 g1 mu1 h1 => by
    cases c with
    | true =>
      rw [if_pos rfl]
      exact k _ _ _ g1 mu1 (h1.1 rfl)
    | false =>
      rw [if_neg Bool.false_ne_true]
      exact upT_fin (g0.trans g1) (sl.good g1) mu1 (h1.2 rfl) fun b H2 M2 g2 => k b H2 M2 (g1.trans g2)
theorem pdt_not (ha : PDT X a u) : PDT X (.UnaryOp .Not a pos) (tNotD u) := fun pn xe H0 M0 W at_ =>
  imT (pt_not (ha pn xe H0 M0 W at_)) fun σ H Q ⟨τ, M, F, g0, sl, mu, h, k⟩ => upT_fin g0 sl mu h fun c H1 M1 g1 mu1 h1 => k _ _ _ g1 mu1 h1

/-! ### truth of values -/
def truthD (d : D) (M : MH) : Option Bool := match d with
  | .non => some false
  | .bl b => some b
  | .int i => some (i != 0)
  | .lst xs => some (!xs.isEmpty)
  | .tup xs => some (!xs.isEmpty)
  | .dct xs => some (!xs.isEmpty)
  | .ref a => match M a with | some (.lst xs) => some (!xs.isEmpty) | some (.dct xs) => some (!xs.isEmpty) | _ => none
  | _ => none
def tTruD (t : TED) : TTD := fun W τ M Q => t W τ M fun d M1 => match truthD d M1 with | some b => Q b M1 | none => False
theorem reps_emp {K : PySem.W.Frag} {H : Hp} {M : MH} {vs : List V} {ds : List D} (r : Reps K H M vs ds) : ds.isEmpty = vs.isEmpty := by cases r <;> rfl
theorem repk_emp {K : PySem.W.Frag} {H : Hp} {M : MH} {vs : List (Key × V)} {ds : List (Key × D)} (r : RepK K H M vs ds) : ds.isEmpty = vs.isEmpty := by cases r <;> rfl
theorem tru_sim {K : PySem.W.Frag} {H : Hp} {M : MH} {x : V} {d : D} {b : Bool} (r : Rep K H M x d) (mu : Mut K H M) (h : truthD d M = some b) : TruV K x H b := by
  cases r with
  | non => cases h; exact rfl
  | bl c => cases h; exact rfl
  | int i => cases h; exact rfl
  | lst hr rs => cases h; exact .inl ⟨_, hr.sq, by rw [reps_emp rs]⟩
  | tup hr rs => cases h; exact .inr (.inl ⟨_, hr.sq, by rw [reps_emp rs]⟩)
  | dct m e rs => cases h; exact .inr (.inr ⟨_, e, by rw [repk_emp rs]⟩)
  | ref a =>
    unfold truthD at h
    dsimp only at h
    cases q : M a with
    | none => rw [q] at h; cases h
    | some mo =>
      rw [q] at h
      obtain ⟨ho, e, r⟩ := mu a mo q
      cases r with
      | lst rs => cases h; exact .inl ⟨_, .inl (.inl e), by rw [reps_emp rs]⟩
      | dct rs => cases h; exact .inr (.inr ⟨_, e, by rw [repk_emp rs]⟩)
      | ins _ _ _ => cases h
  | _ => cases h
theorem pdt_tru (ha : PD X a ta) (he : ∀ whole, isTrue a X.env whole = (do let v ← whole; standAt a.pos; holding [v] (truthy v)) := by intro _; rfl) : PDT X a (tTruD ta) := fun pn xe H0 M0 W at_ =>
  imT (pt_truth (X := X.tr pn xe) (ha pn xe H0 M0 W at_) he) fun σ H Q ⟨τ, M, F, g0, sl, mu, h, k⟩ => upE_fin g0 sl mu h fun x H1 d M1 g1 mu1 r1 h1 => by
    cases q : truthD d M1 with
    | none => rw [q] at h1; exact h1.elim
    | some b =>
      rw [q] at h1
      exact ⟨b, tru_sim r1 mu1 q, k b H1 M1 g1 mu1 h1⟩
end
end Z

set_option Elab.async false
set_option linter.all false
set_option maxRecDepth 100000
set_option maxHeartbeats 4000000
namespace Z
open PySem L2 PySem.Spec PyProof.Rows

/-! ### what a def promises, over trees -/
abbrev ED := Addr → List (Str × D) → MH → Prop
abbrev SpD := List D → MH → QD → ED → Prop
def spOf (K : PySem.W.Frag) (sp : SpD) : Sp := fun vs H Q E => ∃ ds M F FE, Reps K H M vs ds ∧ Mut K H M ∧ sp ds M F FE ∧ Fin K H M F Q ∧
  ∀ C fs d H' M', Good H M H' M' → Mut K H' M' → ExD K H' M' d fs → FE C fs M' → E (.ref C) d H'
def startD (N : List Str) (ds : List D) : EnvD := ds.map some ++ List.replicate (N.length - ds.length) none
theorem slots_start {K : PySem.W.Frag} {H : Hp} {M : MH} {N : List Str} {vs : List V} {ds : List D} (r : Reps K H M vs ds) : Slots K H M (L2.start N vs) (startD N ds) := by
  unfold L2.start startD
  have hl := r.length
  refine ⟨by simp [hl], fun i d e => ?_⟩
  by_cases hi : i < ds.length
  · rw [List.getElem?_append_left (by simpa using hi), List.getElem?_map] at e
    cases q : ds[i]? with
    | none => rw [q] at e; cases e
    | some d' =>
      rw [q] at e
      cases e
      obtain ⟨v, e1, r1⟩ := r.get q
      exact ⟨v, by rw [List.getElem?_append_left (by simpa [hl] using hi), List.getElem?_map, e1]; rfl, r1⟩
  · rw [List.getElem?_append_right (by simpa using hi), List.getElem?_replicate] at e
    split at e <;> cases e

section
variable {P : Program} {w : World} {K : PySem.W.Frag} {mg : Str → Option Value} {base : Heap}
/-- THE RULE for a def: its body as a term of rules, and what that term asks of the promise -/
theorem fnD {x qual : Str} {st : Stmt} {f : Addr} {fd : FuncData} {N ps : List Str} {k : Nat} {sp : SpD} {t : TSD} (F : Fun K x qual st f fd) (S : FnScope N ps (defScope st)) (len : ∀ ds M F E, sp ds M F E → ds.length = ps.length)
    (hb : ∀ (cdv : Value) (A : Around) (outer : List Env) (s : Shared) (H : Hp) (E : XK), Room k (A.deeper (envOfC qual (defScope st) s.heap.objs.size f cdv)) → PDB (cxOf (L2.CX P w) P w K mg base N qual (defScope st) f cdv A outer s H E) (defBody st) t)
    (wp : ∀ ds M F FE, sp ds M F FE → t (fun C fs _ M => FE C fs M) { nx := fun _ M => F .non M, rt := F } (startD N ds) M) : FnOk P w K mg base (L2.CX P w) (k + 1) f fd ps (spOf K sp) := by
  obtain ⟨oc, od, kV, doc, pm, an, cdv, ct, osl, rfl, lk, hcd⟩ := F.ex
  refine fn_of lk hcd S (fun vs H Q E ⟨ds, M, G, FE, r, _, h, _⟩ => by rw [r.length]; exact len _ _ _ _ h) fun A outer s H vs Q E hr hsp => ?_
  obtain ⟨ds, M, G, FE, r, mu, h, k1, k2⟩ := hsp
  have at_ : At (cxOf (L2.CX P w) P w K mg base N qual (defScope st) f cdv A outer s H E) (cxOf (L2.CX P w) P w K mg base N qual (defScope st) f cdv A outer s H E).pn (cxOf (L2.CX P w) P w K mg base N qual (defScope st) f cdv A outer s H E).xe H M (fun C fs _ M => FE C fs M) := by
    refine ⟨?_, passes_of rfl⟩
    refine Takes.imp (takes_of rfl rfl rfl rfl) fun c d σ H' ⟨C, ds', τ, M', e, ex, g, sl, mu', q⟩ => ?_
    subst e
    exact k2 C ds' d H' M' g mu' ex q
  refine ⟨upS K H M (fun C fs _ M => FE C fs M) t, hb cdv A outer s H E hr _ _ H M _ at_, startD N ds, M, _, .refl, slots_start r, mu, wp ds M G FE h, ?_, ?_, ?_, ?_⟩
  · rintro σ' H' ⟨τ, M', g, sl, mu', q⟩
    exact k1 _ _ _ _ g mu' .non q
  · rintro v H' ⟨d, M', g, mu', r', q⟩
    exact k1 _ _ _ _ g mu' r' q
  · rintro σ' H' ⟨τ, M', g, sl, mu', q⟩
    exact q.elim
  · rintro σ' H' ⟨τ, M', g, sl, mu', q⟩
    exact q.elim
end

/-! ### calls of own defs -/
def tCallD (sp : SpD) (t : TAD) : TED := fun W τ M Q => t W τ M fun ds M1 => sp ds M1 Q (fun C fs M' => W C fs τ M')
def permL {α : Type} (ix : List Nat) (l : List α) : List α := ix.filterMap fun i => l[i]?
theorem Reps.perm {K : PySem.W.Frag} {H : Hp} {M : MH} {vs : List V} {ds : List D} (r : Reps K H M vs ds) : ∀ ix : List Nat, Reps K H M (permL ix vs) (permL ix ds)
  | [] => .nil
  | i :: ix => by
    unfold permL
    rw [List.filterMap_cons, List.filterMap_cons]
    cases e : ds[i]? with
    | none =>
      have hl := r.length
      have e2 : vs[i]? = none := by rw [List.getElem?_eq_none_iff] at e ⊢; omega
      rw [e2]
      exact Reps.perm r ix
    | some d =>
      obtain ⟨v, e1, r1⟩ := r.get e
      rw [e1]
      exact .cons r1 (Reps.perm r ix)
theorem vals_perm {vs : List V} {us : List Value} (r : Vals vs us) : ∀ ix : List Nat, Vals (permL ix vs) (permL ix us)
  | [] => .nil
  | i :: ix => by
    unfold permL
    rw [List.filterMap_cons, List.filterMap_cons]
    cases e : vs[i]? with
    | none =>
      rw [r.none_of e]
      exact vals_perm r ix
    | some d =>
      obtain ⟨u, e1, r1⟩ := r.get e
      rw [e1]
      exact .cons r1 (vals_perm r ix)
def tCallKD (sp : SpD) (ix : List Nat) (t : TAD) : TED := fun W τ M Q => t W τ M fun ds M1 => sp (permL ix ds) M1 Q (fun C fs M' => W C fs τ M')
/-- how a call by keywords alone binds -/
def KwB (K : PySem.W.Frag) (fd : FuncData) (ps ks : List Str) (ix : List Nat) : Prop := ∀ ws : List Value, ws.length = ks.length → bindArgs fd ⟨[], ks.zip ws⟩ = pure (ps.zip (permL ix ws))
theorem kwB {K : PySem.W.Frag} {x qual : Str} {st : Stmt} {f : Addr} {fd : FuncData} {ps ks : List Str} {ix : List Nat} (F : Fun K x qual st f fd)
    (h : ∀ (kV doc pm : Value) (an : Option Addr) (cdv ct : Value) (us : List Value), us.length = ks.length → bindArgs (PySem.W.fnOf x qual (defArgs st) (defBody st) (defScope st) .none kV doc pm an cdv ct) ⟨[], ks.zip us⟩ = pure (ps.zip (permL ix us))) : KwB K fd ps ks ix := by
  obtain ⟨oc, od, kV, doc, pm, an, cdv, ct, osl, rfl, lk, hcd⟩ := F.ex
  exact h kV doc pm an cdv ct

section
variable {X : Cx} {k : Nat} {f : Addr} {fd : FuncData} {ps ks : List Str} {sp : SpD} {x : Str} {e : Expr} {es : List Expr} {kws : List Keyword} {ta : TAD} {pos p : Pos} {ix : List Nat}
/-- the keywords' values -/
def PDK (X : Cx) (es : List Keyword) (t : TAD) : Prop := ∀ pn xe H0 M0 W, At X pn xe H0 M0 W → PK (X.tr pn xe) es (upA X.K H0 M0 W t)
theorem imK {X : Cx} {e : List Keyword} {t t' : TA} (h : PK X e t) (i : ∀ σ H Q, t' σ H Q → t σ H Q) : PK X e t' := ⟨fun pos pins s σ H Q I q => h.run pos pins s σ H Q I (i σ H Q q)⟩
theorem pdk_nil : PDK X [] tNilD := fun pn xe H0 M0 W at_ => imK pk_nil fun σ H Q ⟨τ, M, F, g0, sl, mu, h, k⟩ => k [] H [] M .refl mu .nil h
theorem pdk_cons {nm : Option Str} {kpos : Pos} {t : TED} {ts : TAD} (ha : PD X e t) (hr : PDK X kws ts) : PDK X (⟨nm, e, kpos⟩ :: kws) (tConsD t ts) := fun pn xe H0 M0 W at_ =>
  imK (pk_cons (ha pn xe H0 M0 W at_) (hr pn xe H0 M0 W at_)) fun σ H Q ⟨τ, M, F, g0, sl, mu, h, k⟩ =>
    upE_fin g0 sl mu h fun x H1 d M1 g1 mu1 r1 h1 => ⟨τ, M1, _, g0.trans g1, sl.good g1, mu1, h1, fun xs H2 ds M2 g2 mu2 r2 h2 => k (x :: xs) H2 (d :: ds) M2 (g1.trans g2) mu2 (.cons (r1.good g2) r2) h2⟩

theorem sp_of_call {H0 : Hp} {M0 : MH} {W : WD} {σ : L2.St} {τ : EnvD} {H H1 : Hp} {M M1 : MH} {F : QD} {Q : VK} {vs : List V} {ds : List D} (g0 : Good H0 M0 H M) (sl : Slots X.K H M σ τ) (k : Fin X.K H M F Q) (g1 : Good H M H1 M1) (mu1 : Mut X.K H1 M1) (r1 : Reps X.K H1 M1 vs ds)
    (h : sp ds M1 F (fun C fs M' => W C fs τ M')) : spOf X.K sp vs H1 Q (WE (liftW X.K H0 M0 W) σ) :=
  ⟨ds, M1, F, _, r1, mu1, h, fun v H' d M' g' mu' r' f' => k v H' d M' (g1.trans g') mu' r' f', fun C fs d H' M' g' mu' ex we => ⟨C, fs, τ, M', rfl, ex, (g0.trans g1).trans g', sl.good (g1.trans g'), mu', we⟩⟩
theorem pd_call (F : FnOk X.prog X.w X.K X.mg X.base (L2.CX X.prog X.w) k f fd ps (spOf X.K sp)) (hr : Room k X.A) (hm : X.mg x = some (.ref f)) (hk : PySem.W.keepIn X.K (.ref f) = true) (hb : Binds X.K fd ps [])
    (ha : PDA X (e :: es) ta) (hg : Gl X x := by rfl) (hdb : (x == ("__debug__" : Str)) = false := by decide) (he : starEach (e :: es) X.env = (false, eval e X.env) :: starEach es X.env := by rfl) (hpl : (backTo pos (starEach es X.env)).any (·.1) = false := by rfl) :
    PD X (.Call (.Name x p) (e :: es) [] pos) (tCallD sp ta) := fun pn xe H0 M0 W at_ =>
  imE (pe_callS (X := X.tr pn xe) F hr hg hm hk hb (fun σ => passAt at_.tk σ) (ha pn xe H0 M0 W at_) hdb he hpl) fun σ H Q ⟨τ, M, G, g0, sl, mu, h, k⟩ =>
    ⟨τ, M, _, g0, sl, mu, h, fun vs H1 ds M1 g1 mu1 r1 h1 => sp_of_call g0 sl k g1 mu1 r1 h1⟩
theorem pd_call0 (F : FnOk X.prog X.w X.K X.mg X.base (L2.CX X.prog X.w) k f fd ps (spOf X.K sp)) (hr : Room k X.A) (hm : X.mg x = some (.ref f)) (hk : PySem.W.keepIn X.K (.ref f) = true) (hb : Binds X.K fd ps [])
    (hg : Gl X x := by rfl) (hdb : (x == ("__debug__" : Str)) = false := by decide) : PD X (.Call (.Name x p) [] [] pos) (tCallD sp tNilD) := fun pn xe H0 M0 W at_ => by
  refine ⟨fun pins s σ H Q I ⟨τ, M, G, g0, sl, mu, h, k⟩ => ?_⟩
  refine wpAny_Call_Name_kw (ld_glob I hg hm ?_ hdb)
  exact PySem.W.callWith_K0 I.kIn hk (run_fnS (us := []) (X := X.tr pn xe) F hr hb (passAt at_.tk σ) I .nil (sp_of_call (X := X) g0 sl k .refl mu .nil h))
theorem pd_callK (F : FnOk X.prog X.w X.K X.mg X.base (L2.CX X.prog X.w) k f fd ps (spOf X.K sp)) (hr : Room k X.A) (hm : X.mg x = some (.ref f)) (hk : PySem.W.keepIn X.K (.ref f) = true) (hb : KwB X.K fd ps ks ix)
    (ha : PDK X kws ta) (hl : kws.length = ks.length) (hg : Gl X x := by rfl) (hdb : (x == ("__debug__" : Str)) = false := by decide) (hall : (backToKw pos (keywordEach kws X.env)).all (·.1.isSome) = true := by rfl)
    (hks : (backToKw pos (keywordEach kws X.env)).filterMap (·.1) = ks := by rfl) (hpl : ((backTo pos (starEach [] X.env)).any (·.1) || (backToKw pos (keywordEach kws X.env)).any (·.1.isNone)) = false := by rfl) (hlk : ∀ (W : WD) τ M (R : List D → MH → Prop), ta W τ M R → ta W τ M (fun ds M => R ds M ∧ ds.length = kws.length)) :
    PD X (.Call (.Name x p) [] kws pos) (tCallKD sp ix ta) := fun pn xe H0 M0 W at_ => by
  refine ⟨fun pins s σ H Q I ⟨τ, M, G, g0, sl, mu, h, k⟩ => ?_⟩
  refine wpAny_Call_Name_kw (ld_glob I hg hm ?_ hdb)
  refine PySem.W.callWith_KW0 (h₀ := X.base) I.ok.mod.kin hk hall (thn ((ha pn xe H0 M0 W at_).run pos pins s σ H (fun zs H1 => zs.length = kws.length ∧ spOf X.K sp (permL ix zs) H1 Q (WE (liftW X.K H0 M0 W) σ)) I ?_) fun ws s1 ⟨zs, H1, I1, r, hzl, q⟩ => ⟨I1.kIn, ?_⟩) hpl
  · exact ⟨τ, M, _, g0, sl, mu, hlk _ _ _ _ h, fun vs H1 ds M1 g1 mu1 r1 ⟨h1, h2⟩ => ⟨by rw [r1.length, h2], sp_of_call (X := X) g0 sl k g1 mu1 (r1.perm ix) h1⟩⟩
  · rw [hks]
    have hx := passAt at_.tk σ
    refine wpAny_call (codeAny_mono (F.run X.A X.stack s1 H1 ⟨[], ks.zip ws⟩ (permL ix ws) (permL ix zs) Q (WE (liftW X.K H0 M0 W) σ) hr I1.env0 (BindsTo.of_eq (hb ws (by rw [← r.length, hzl, hl]))) (vals_perm r ix) q) fun r s' hq => ?_)
    cases r with
    | error e => exact hx pins H1 s1 e s' I1 hq
    | ok fl =>
      cases fl with
      | ret u => exact I1.after hq
      | next => exact False.elim hq
      | brk => exact False.elim hq
      | cont => exact False.elim hq
theorem lk_nil {W : WD} {τ : EnvD} {M : MH} {R : List D → MH → Prop} (h : tNilD W τ M R) : tNilD W τ M (fun ds M => R ds M ∧ ds.length = 0) := ⟨h, rfl⟩
/-- a call of a built-in function, a built-in type -/
theorem pd_bf {id : String} {r : List V → Hp → VK → Prop} {rd : RCD} (hm : X.mg x = none) (hv : bootBuiltins x = some (.builtin id)) (hc : ∀ pn xe, CallR (X.tr pn xe) (.builtin id) r) (hs : SimC X.K r rd) (ha : PDA X (e :: es) ta) (hg : Gl X x := by rfl) (hn : x ≠ "__name__" := by decide) (hdb : (x == ("__debug__" : Str)) = false := by decide)
    (he : starEach (e :: es) X.env = (false, eval e X.env) :: starEach es X.env := by rfl) (hpl : (backTo pos (starEach es X.env)).any (·.1) = false := by rfl) : PD X (.Call (.Name x p) (e :: es) [] pos) (tCBD rd ta) := fun pn xe H0 M0 W at_ =>
  imE (pe_callB (X := X.tr pn xe) (hc pn xe) hg hm hv (ha pn xe H0 M0 W at_) hn hdb he hpl) fun σ H Q ⟨τ, M, G, g0, sl, mu, h, k⟩ =>
    ⟨τ, M, _, g0, sl, mu, h, fun vs H1 ds M1 g1 mu1 r1 h1 => hs vs ds H1 M1 G Q r1 mu1 h1 fun v H' d M' g' mu' r' f' => k v H' d M' (g1.trans g') mu' r' f'⟩
theorem pd_bt {T : String} {r : List V → Hp → VK → Prop} {rd : RCD} (hm : X.mg x = none) (hv : bootBuiltins x = some (.type T)) (hc : ∀ pn xe, CallR (X.tr pn xe) (.type T) r) (hs : SimC X.K r rd) (ha : PDA X (e :: es) ta) (hg : Gl X x := by rfl) (hn : x ≠ "__name__" := by decide) (hdb : (x == ("__debug__" : Str)) = false := by decide)
    (he : starEach (e :: es) X.env = (false, eval e X.env) :: starEach es X.env := by rfl) (hpl : (backTo pos (starEach es X.env)).any (·.1) = false := by rfl) : PD X (.Call (.Name x p) (e :: es) [] pos) (tCBD rd ta) := fun pn xe H0 M0 W at_ =>
  imE (pe_callTy (X := X.tr pn xe) (hc pn xe) hg hm hv (ha pn xe H0 M0 W at_) hn hdb he hpl) fun σ H Q ⟨τ, M, G, g0, sl, mu, h, k⟩ =>
    ⟨τ, M, _, g0, sl, mu, h, fun vs H1 ds M1 g1 mu1 r1 h1 => hs vs ds H1 M1 G Q r1 mu1 h1 fun v H' d M' g' mu' r' f' => k v H' d M' (g1.trans g') mu' r' f'⟩
end

/-! ### statements -/
def tNextD : TSD := fun _ F τ M => F.nx τ M
def tSeqD (t u : TSD) : TSD := fun W F τ M => t W { F with nx := fun τ' M' => u W F τ' M' } τ M
def tDropD (t : TED) : TSD := fun W F τ M => t W τ M fun _ M1 => F.nx τ M1
def tRetD (t : TED) : TSD := fun W F τ M => t W τ M F.rt
def tRetN : TSD := fun _ F _ M => F.rt .non M
def tIfD (c : TTD) (t u : TSD) : TSD := fun W F τ M => c W τ M fun b M1 => (b = true → t W F τ M1) ∧ (b = false → u W F τ M1)
def tSetD (i : Nat) (t : TED) : TSD := fun W F τ M => t W τ M fun d M1 => F.nx (setN τ i (some d)) M1
def tContD : TSD := fun _ F τ M => F.ct τ M
def tBrkD : TSD := fun _ F τ M => F.bk τ M
section
variable {X : Cx} {st : Stmt} {rest : List Stmt} {t u : TSD} {e c : Expr} {te : TED} {tt : TTD} {pos : Pos}
theorem upS_fin {K : PySem.W.Frag} {H0 : Hp} {M0 : MH} {W : WD} {σ : L2.St} {H H1 : Hp} {M M1 : MH} {τ : EnvD} {t : TSD} {F : EndsD} {D : Ends} (g0 : Good H0 M0 H M) (g1 : Good H M H1 M1) (sl : Slots K H1 M1 σ τ) (mu : Mut K H1 M1) (h : t W F τ M1)
    (k1 : ∀ σ' H', liftN K H M F.nx σ' H' → D.nx σ' H') (k2 : ∀ v H', liftR K H M F.rt v H' → D.rt v H') (k3 : ∀ σ' H', liftN K H M F.bk σ' H' → D.bk σ' H') (k4 : ∀ σ' H', liftN K H M F.ct σ' H' → D.ct σ' H') : upS K H0 M0 W t D σ H1 :=
  ⟨τ, M1, F, g0.trans g1, sl, mu, h, fun σ' H' q => k1 σ' H' (q.tr g1), fun σ' H' q => k2 σ' H' (q.tr g1), fun σ' H' q => k3 σ' H' (q.tr g1), fun σ' H' q => k4 σ' H' (q.tr g1)⟩
theorem pdb_nil : PDB X [] tNextD := fun pn xe H0 M0 W at_ => imB pss_nil fun D σ H ⟨τ, M, F, g0, sl, mu, h, k1, k2, k3, k4⟩ => k1 σ H ⟨τ, M, .refl, sl, mu, h⟩
theorem pdb_cons (h1 : PDS X st t) (h2 : PDB X rest u) : PDB X (st :: rest) (tSeqD t u) := fun pn xe H0 M0 W at_ =>
  imB (pss_cons (h1 pn xe H0 M0 W at_) (h2 pn xe H0 M0 W at_)) fun D σ H ⟨τ, M, F, g0, sl, mu, h, k1, k2, k3, k4⟩ =>
    ⟨τ, M, _, g0, sl, mu, h, (fun σ' H' ⟨τ', M', g', sl', mu', q⟩ => upS_fin g0 g' sl' mu' q k1 k2 k3 k4), k2, k3, k4⟩
theorem pdb_one (h1 : PDS X st t) : PDB X [st] t := fun pn xe H0 M0 W at_ => pss_one (h1 pn xe H0 M0 W at_)
theorem pds_pass : PDS X (.Pass pos) tNextD := fun pn xe H0 M0 W at_ => imS ps_pass fun D σ H ⟨τ, M, F, g0, sl, mu, h, k1, k2, k3, k4⟩ => k1 σ H ⟨τ, M, .refl, sl, mu, h⟩
theorem pds_cont : PDS X (.Continue pos) tContD := fun pn xe H0 M0 W at_ => imS ps_continue fun D σ H ⟨τ, M, F, g0, sl, mu, h, k1, k2, k3, k4⟩ => k4 σ H ⟨τ, M, .refl, sl, mu, h⟩
theorem pds_brk : PDS X (.Break pos) tBrkD := fun pn xe H0 M0 W at_ => imS ps_break fun D σ H ⟨τ, M, F, g0, sl, mu, h, k1, k2, k3, k4⟩ => k3 σ H ⟨τ, M, .refl, sl, mu, h⟩
theorem pds_expr (he : PD X e te) (hs : swapsWith e none pos.line X.env = pure false := by rfl) : PDS X (.Expr e pos) (tDropD te) := fun pn xe H0 M0 W at_ =>
  imS (ps_expr (X := X.tr pn xe) (he pn xe H0 M0 W at_) hs) fun D σ H ⟨τ, M, F, g0, sl, mu, h, k1, k2, k3, k4⟩ => upE_fin g0 sl mu h fun v H1 d M1 g1 mu1 r1 q => k1 σ H1 ⟨τ, M1, g1, sl.good g1, mu1, q⟩
theorem pds_ret (he : PD X e te) : PDS X (.Return (some e) pos) (tRetD te) := fun pn xe H0 M0 W at_ =>
  imS (ps_ret (he pn xe H0 M0 W at_)) fun D σ H ⟨τ, M, F, g0, sl, mu, h, k1, k2, k3, k4⟩ => upE_fin g0 sl mu h fun v H1 d M1 g1 mu1 r1 q => k2 v H1 ⟨d, M1, g1, mu1, r1, q⟩
theorem pds_retN : PDS X (.Return none pos) tRetN := fun pn xe H0 M0 W at_ => imS ps_retN fun D σ H ⟨τ, M, F, g0, sl, mu, h, k1, k2, k3, k4⟩ => k2 _ H ⟨_, M, .refl, mu, .non, h⟩
theorem pds_if {a b : List Stmt} (hc : PDT X c tt) (ha : PDB X a t) (hb : PDB X b u) : PDS X (.If c a b pos) (tIfD tt t u) := fun pn xe H0 M0 W at_ =>
  imS (ps_if (hc pn xe H0 M0 W at_) (ha pn xe H0 M0 W at_) (hb pn xe H0 M0 W at_)) fun D σ H ⟨τ, M, F, g0, sl, mu, h, k1, k2, k3, k4⟩ => upT_fin g0 sl mu h fun c H1 M1 g1 mu1 h1 => by
    cases c with
    | true =>
      rw [if_pos rfl]
      exact upS_fin g0 g1 (sl.good g1) mu1 (h1.1 rfl) k1 k2 k3 k4
    | false =>
      rw [if_neg Bool.false_ne_true]
      exact upS_fin g0 g1 (sl.good g1) mu1 (h1.2 rfl) k1 k2 k3 k4
theorem pds_set {i : Nat} {x : Str} {pos' : Pos} (he : PD X e te) (hN : X.N.Nodup) (hi : X.N[i]? = some x := by rfl) (hx : Loc X.env.scope x := by first | exact Or.inl rfl | exact Or.inr rfl) (hs : swapsWith e (some (.Name x pos')) pos.line X.env = pure false := by rfl)
    (hf : X.fn x = true ∨ X.env.scope.names.lookup x = some .local := by first | exact .inl rfl | exact .inr rfl) : PDS X (.Assign [.Name x pos'] e pos) (tSetD i te) := fun pn xe H0 M0 W at_ =>
  imS (ps_set (X := X.tr pn xe) hN hi hx (he pn xe H0 M0 W at_) hs hf) fun D σ H ⟨τ, M, F, g0, sl, mu, h, k1, k2, k3, k4⟩ => upE_fin g0 sl mu h fun v H1 d M1 g1 mu1 r1 q =>
    k1 _ H1 ⟨setN τ i (some d), M1, g1, by rw [setN_eq]; exact (sl.good g1).set r1, mu1, q⟩
end
end Z

set_option Elab.async false
set_option linter.all false
set_option maxRecDepth 100000
set_option maxHeartbeats 4000000
namespace Z
open PySem L2

/-! ### ints -/
def rdI (g : Int → Int → Int) : R2D := fun d e M F => match d, e with | .int i, .int j => F (.int (g i j)) M | _, _ => False
def rdIC (C : Int → Int → Prop) (g : Int → Int → Int) : R2D := fun d e M F => match d, e with | .int i, .int j => C i j ∧ F (.int (g i j)) M | _, _ => False
def rdB (g : Int → Int → Bool) : R2D := fun d e M F => match d, e with | .int i, .int j => F (.bl (g i j)) M | _, _ => False
theorem rdI_inv {g : Int → Int → Int} {d e : D} {M : MH} {F : QD} (h : rdI g d e M F) : ∃ i j, d = .int i ∧ e = .int j ∧ F (.int (g i j)) M := by
  unfold rdI at h
  split at h
  · exact ⟨_, _, rfl, rfl, h⟩
  · exact h.elim
theorem rdIC_inv {C : Int → Int → Prop} {g : Int → Int → Int} {d e : D} {M : MH} {F : QD} (h : rdIC C g d e M F) : ∃ i j, d = .int i ∧ e = .int j ∧ C i j ∧ F (.int (g i j)) M := by
  unfold rdIC at h
  split at h
  · exact ⟨_, _, rfl, rfl, h⟩
  · exact h.elim
theorem rdB_inv {g : Int → Int → Bool} {d e : D} {M : MH} {F : QD} (h : rdB g d e M F) : ∃ i j, d = .int i ∧ e = .int j ∧ F (.bl (g i j)) M := by
  unfold rdB at h
  split at h
  · exact ⟨_, _, rfl, rfl, h⟩
  · exact h.elim
section
variable {K : PySem.W.Frag}
theorem simI {g : Int → Int → Int} : SimOp K (rI0 fun i j => .int (g i j)) (rdI g) := fun x y d e H M F Q rx ry mu h k => by
  obtain ⟨i, j, rfl, rfl, q⟩ := rdI_inv h
  cases rx
  cases ry
  exact ⟨_, _, rfl, rfl, k _ _ _ _ .refl mu (.int _) q⟩
theorem simIC {C C' : Int → Int → Prop} {g : Int → Int → Int} (hc : ∀ i j, C' i j → C i j) : SimOp K (rI C fun i j => .int (g i j)) (rdIC C' g) := fun x y d e H M F Q rx ry mu h k => by
  obtain ⟨i, j, rfl, rfl, c, q⟩ := rdIC_inv h
  cases rx
  cases ry
  exact ⟨_, _, rfl, rfl, hc _ _ c, k _ _ _ _ .refl mu (.int _) q⟩
theorem simB {g : Int → Int → Bool} : SimOp K (rI0 fun i j => .bl (g i j)) (rdB g) := fun x y d e H M F Q rx ry mu h k => by
  obtain ⟨i, j, rfl, rfl, q⟩ := rdB_inv h
  cases rx
  cases ry
  exact ⟨_, _, rfl, rfl, k _ _ _ _ .refl mu (.bl _) q⟩
end
def MulOk (i j : Int) : Prop := CMul i j ∨ CMulW i j
def DivOk (_ j : Int) : Prop := j ≠ 0 ∧ j.natAbs.log2 < 9000
theorem op_mulZ {X : Cx} : OpR X (binaryOp .Mult) (rI MulOk fun i j => .int (i * j)) := fun pins s σ H x y v u Q I rx ry h => by
  obtain ⟨i, j, e1, e2, c, q⟩ := h
  rcases c with c | c
  · exact op_mul pins s σ H x y v u Q I rx ry ⟨i, j, e1, e2, c, q⟩
  · exact op_mulW pins s σ H x y v u Q I rx ry ⟨i, j, e1, e2, c, q⟩
theorem op_fdivZ {X : Cx} : OpR X (binaryOp .FloorDiv) (rI DivOk fun i j => .int (i.fdiv j)) := opI fun i j _ _ _ _ _ hc q =>
  PyProof.Rows.floordiv_int hc.1 q (.inl (PyProof.noPylong_of_log2 hc.2))
section
variable {X : Cx} {a b e : Expr} {ta tb : TED} {pos p : Pos}
theorem pd_add (ha : PD X a ta) (hb : PD X b tb) : PD X (.BinOp a .Add b pos) (tOpD (rdI fun i j => i + j) ta tb) := pd_op (fun _ _ => op_add) simI ha hb
theorem pd_sub (ha : PD X a ta) (hb : PD X b tb) : PD X (.BinOp a .Sub b pos) (tOpD (rdI fun i j => i - j) ta tb) := pd_op (fun _ _ => op_sub) simI ha hb
theorem pd_mul (ha : PD X a ta) (hb : PD X b tb) : PD X (.BinOp a .Mult b pos) (tOpD (rdIC MulOk fun i j => i * j) ta tb) := pd_op (fun _ _ => op_mulZ) (simIC fun _ _ h => h) ha hb
theorem pd_fdiv (ha : PD X a ta) (hb : PD X b tb) : PD X (.BinOp a .FloorDiv b pos) (tOpD (rdIC DivOk fun i j => i.fdiv j) ta tb) := pd_op (fun _ _ => op_fdivZ) (simIC fun _ _ h => h) ha hb
theorem pd_mod (ha : PD X a ta) (hb : PD X b tb) : PD X (.BinOp a .Mod b pos) (tOpD (rdIC (fun _ j => 0 < j) fun i j => i % j) ta tb) := pd_op (fun _ _ => op_mod) (simIC fun _ _ h => h) ha hb
theorem pd_pow (ha : PD X a ta) (hb : PD X b tb) : PD X (.BinOp a .Pow b pos) (tOpD (rdIC CPow fun i j => i ^ j.toNat) ta tb) := pd_op (fun _ _ => op_pow) (simIC fun _ _ h => h) ha hb
theorem pd_lt (ha : PD X a ta) (hb : PD X b tb) : PD X (.Compare a [.Lt] [b] pos) (tOpD (rdB fun i j => decide (i < j)) ta tb) := pd_cmp (fun _ _ => op_lt) simB ha hb
theorem pd_le (ha : PD X a ta) (hb : PD X b tb) : PD X (.Compare a [.LtE] [b] pos) (tOpD (rdB fun i j => decide (i ≤ j)) ta tb) := pd_cmp (fun _ _ => op_le) simB ha hb
theorem pd_gt (ha : PD X a ta) (hb : PD X b tb) : PD X (.Compare a [.Gt] [b] pos) (tOpD (rdB fun i j => decide (j < i)) ta tb) := pd_cmp (fun _ _ => op_gt) simB ha hb
theorem pd_ge (ha : PD X a ta) (hb : PD X b tb) : PD X (.Compare a [.GtE] [b] pos) (tOpD (rdB fun i j => decide (j ≤ i)) ta tb) := pd_cmp (fun _ _ => op_ge) simB ha hb
theorem pdt_lt (ha : PD X a ta) (hb : PD X b tb) : PDT X (.Compare a [.Lt] [b] pos) (tTestB (tOpD (rdB fun i j => decide (i < j)) ta tb)) := pdt_cmp (fun _ _ => op_lt) simB ha hb
theorem pdt_le (ha : PD X a ta) (hb : PD X b tb) : PDT X (.Compare a [.LtE] [b] pos) (tTestB (tOpD (rdB fun i j => decide (i ≤ j)) ta tb)) := pdt_cmp (fun _ _ => op_le) simB ha hb
theorem pdt_gt (ha : PD X a ta) (hb : PD X b tb) : PDT X (.Compare a [.Gt] [b] pos) (tTestB (tOpD (rdB fun i j => decide (j < i)) ta tb)) := pdt_cmp (fun _ _ => op_gt) simB ha hb
theorem pdt_ge (ha : PD X a ta) (hb : PD X b tb) : PDT X (.Compare a [.GtE] [b] pos) (tTestB (tOpD (rdB fun i j => decide (j ≤ i)) ta tb)) := pdt_cmp (fun _ _ => op_ge) simB ha hb
/-- -x -/
def rdNeg : D → MH → QD → Prop := fun d M F => match d with | .int i => F (.int (-i)) M | _ => False
theorem pd_neg (ha : PD X a ta) : PD X (.UnaryOp .USub a pos) (tUnD rdNeg ta) := pd_un (fun _ _ => un_neg) (fun x d H M F Q rx mu h k => by
  unfold rdNeg at h
  split at h
  · cases rx; exact ⟨_, rfl, k _ _ _ _ .refl mu (.int _) h⟩
  · exact h.elim) ha

/-! ### == and != -/
end
mutual
def toPy : D → Option PyData
  | .non => some .none
  | .bl b => some (.bool b)
  | .int i => some (.int i)
  | .str x => some (.str x)
  | .lst xs => (toPys xs).map .list
  | .tup xs => (toPys xs).map .tuple
  | _ => none
def toPys : List D → Option (List PyData)
  | [] => some []
  | x :: xs => match toPy x, toPys xs with | some p, some ps => some (p :: ps) | _, _ => none
end
section
variable {K : PySem.W.Frag} {H : Hp} {M : MH}
mutual
theorem toPy_dp : ∀ {v : V} {d : D} {p : PyData}, Rep K H M v d → toPy d = some p → Dp K H v p
  | _, _, _, .non, h => by simp only [toPy] at h; cases h; exact .non
  | _, _, _, .bl b, h => by simp only [toPy] at h; cases h; exact .bl b
  | _, _, _, .int i, h => by simp only [toPy] at h; cases h; exact .int i
  | _, _, _, .str x, h => by simp only [toPy] at h; cases h; exact .str x
  | _, _, _, .flt x, h => by simp [toPy] at h
  | _, _, _, .ref a, h => by simp [toPy] at h
  | _, _, _, .ty n, h => by simp [toPy] at h
  | _, _, _, .lst (xs := xs) r rs, h => by
    simp only [toPy] at h
    cases e : toPys xs with
    | none => rw [e] at h; cases h
    | some ps => rw [e] at h; cases h; exact .lst r.sq (toPys_dp rs e)
  | _, _, _, .tup (xs := xs) r rs, h => by
    simp only [toPy] at h
    cases e : toPys xs with
    | none => rw [e] at h; cases h
    | some ps => rw [e] at h; cases h; exact .tup r.sq (toPys_dp rs e)
  | _, _, _, .dct _ _ _, h => by simp [toPy] at h
  | _, _, _, .obj _ _ _, h => by simp [toPy] at h
  | _, _, _, .exn _ _ _ _ _, h => by simp [toPy] at h
  | _, _, _, .exn0 _ _, h => by simp [toPy] at h
theorem toPys_dp : ∀ {vs : List V} {ds : List D} {ps : List PyData}, Reps K H M vs ds → toPys ds = some ps → DpAll K H vs ps
  | _, _, _, .nil, h => by simp only [toPys] at h; cases h; exact .nil
  | _, _, _, .cons (d := d) (ds := ds) r rs, h => by
    simp only [toPys] at h
    cases e1 : toPy d with
    | none => rw [e1] at h; cases h
    | some p =>
      cases e2 : toPys ds with
      | none => rw [e1, e2] at h; cases h
      | some ps => rw [e1, e2] at h; cases h; exact .cons (toPy_dp r e1) (toPys_dp rs e2)
end
end
/-- == of trees of data; None where it is not told here -/
def eqD (d e : D) : Option Bool := match d, e with
  | .int i, .int j => some (decide (i = j))
  | .bl i, .bl j => some (decide (i = j))
  | .str i, .str j => some (decide (i = j))
  | .non, .non => some true
  | .non, .int _ | .int _, .non | .non, .bl _ | .bl _, .non | .non, .str _ | .str _, .non | .int _, .str _ | .str _, .int _ | .bl _, .str _ | .str _, .bl _ => some false
  | _, _ => match toPy d, toPy e with | some p, some q => if SeqAt.shaped p && SeqAt.shaped q then some (PyData.eqv p q) else none | _, _ => none
def rdEq : R2D := fun d e M F => match eqD d e with | some b => F (.bl b) M | none => False
def rdNe : R2D := fun d e M F => match eqD d e with | some b => F (.bl (!b)) M | none => False
theorem rdEq_inv {d e : D} {M : MH} {F : QD} (h : rdEq d e M F) : ∃ b, eqD d e = some b ∧ F (.bl b) M := by
  unfold rdEq at h
  split at h
  · exact ⟨_, by assumption, h⟩
  · exact h.elim
theorem rdNe_inv {d e : D} {M : MH} {F : QD} (h : rdNe d e M F) : ∃ b, eqD d e = some b ∧ F (.bl (!b)) M := by
  unfold rdNe at h
  split at h
  · exact ⟨_, by assumption, h⟩
  · exact h.elim
section
variable {K : PySem.W.Frag} {H : Hp} {M : MH}
theorem eqD_sim {x y : V} {d e : D} {b : Bool} (rx : Rep K H M x d) (ry : Rep K H M y e) (h : eqD d e = some b) : (scal x y = true ∧ decide (x = y) = b) ∨ ∃ p q, Dp K H x p ∧ Dp K H y q ∧ SeqAt.shaped p = true ∧ SeqAt.shaped q = true ∧ PyData.eqv p q = b := by
  unfold eqD at h
  split at h
  · cases rx; cases ry; cases h; exact .inl ⟨rfl, by simp⟩
  · cases rx; cases ry; cases h; exact .inl ⟨rfl, by simp⟩
  · cases rx; cases ry; cases h; exact .inl ⟨rfl, by simp⟩
  · cases rx; cases ry; cases h; exact .inl ⟨rfl, by simp⟩
  · cases rx; cases ry; cases h; exact .inl ⟨rfl, by simp⟩
  · cases rx; cases ry; cases h; exact .inl ⟨rfl, by simp⟩
  · cases rx; cases ry; cases h; exact .inl ⟨rfl, by simp⟩
  · cases rx; cases ry; cases h; exact .inl ⟨rfl, by simp⟩
  · cases rx; cases ry; cases h; exact .inl ⟨rfl, by simp⟩
  · cases rx; cases ry; cases h; exact .inl ⟨rfl, by simp⟩
  · cases rx; cases ry; cases h; exact .inl ⟨rfl, by simp⟩
  · cases rx; cases ry; cases h; exact .inl ⟨rfl, by simp⟩
  · cases rx; cases ry; cases h; exact .inl ⟨rfl, by simp⟩
  · cases rx; cases ry; cases h; exact .inl ⟨rfl, by simp⟩
  · split at h
    · rename_i p q e1 e2
      split at h
      · rename_i c
        rw [Bool.and_eq_true] at c
        cases h
        exact .inr ⟨p, q, toPy_dp rx e1, toPy_dp ry e2, c.1, c.2, rfl⟩
      · cases h
    · cases h
end
section
variable {X : Cx} {a b e : Expr} {ta tb : TED} {pos p : Pos}
theorem simEq {K : PySem.W.Frag} : SimOp K (fun x y H Q => rEq x y H Q ∨ rEqD K x y H Q) rdEq := fun x y d e H M F Q rx ry mu h k => by
  obtain ⟨c, e1, q⟩ := rdEq_inv h
  rcases eqD_sim rx ry e1 with ⟨h1, h2⟩ | ⟨p, q', h1, h2, h3, h4, h5⟩
  · exact .inl ⟨h1, by rw [h2]; exact k _ _ _ _ .refl mu (.bl _) q⟩
  · exact .inr ⟨p, q', h1, h2, h3, h4, by rw [h5]; exact k _ _ _ _ .refl mu (.bl _) q⟩
theorem simNe {K : PySem.W.Frag} : SimOp K (fun x y H Q => rNe x y H Q ∨ rNeD K x y H Q) rdNe := fun x y d e H M F Q rx ry mu h k => by
  obtain ⟨c, e1, q⟩ := rdNe_inv h
  rcases eqD_sim rx ry e1 with ⟨h1, h2⟩ | ⟨p, q', h1, h2, h3, h4, h5⟩
  · exact .inl ⟨h1, by rw [h2]; exact k _ _ _ _ .refl mu (.bl _) q⟩
  · exact .inr ⟨p, q', h1, h2, h3, h4, by rw [h5]; exact k _ _ _ _ .refl mu (.bl _) q⟩
theorem pd_eq (hu : X.A.units + 64 < cLine) (ha : PD X a ta) (hb : PD X b tb) : PD X (.Compare a [.Eq] [b] pos) (tOpD rdEq ta tb) := pd_cmp (fun pn xe => OpR.or op_eq (op_eqD (X := X.tr pn xe) hu)) simEq ha hb
theorem pd_ne (hu : X.A.units + 64 < cLine) (ha : PD X a ta) (hb : PD X b tb) : PD X (.Compare a [.NotEq] [b] pos) (tOpD rdNe ta tb) := pd_cmp (fun pn xe => OpR.or op_ne (op_neD (X := X.tr pn xe) hu)) simNe ha hb
theorem pdt_eq (hu : X.A.units + 64 < cLine) (ha : PD X a ta) (hb : PD X b tb) : PDT X (.Compare a [.Eq] [b] pos) (tTestB (tOpD rdEq ta tb)) := pdt_cmp (fun pn xe => OpR.or op_eq (op_eqD (X := X.tr pn xe) hu)) simEq ha hb
theorem pdt_ne (hu : X.A.units + 64 < cLine) (ha : PD X a ta) (hb : PD X b tb) : PDT X (.Compare a [.NotEq] [b] pos) (tTestB (tOpD rdNe ta tb)) := pdt_cmp (fun pn xe => OpR.or op_ne (op_neD (X := X.tr pn xe) hu)) simNe ha hb
/-- is None, is not None -/
def isNonD : D → Bool | .non => true | _ => false
def tIsND (t : TED) : TED := fun W τ M Q => t W τ M fun d M1 => Q (.bl (isNonD d)) M1
def tNotND (t : TED) : TED := fun W τ M Q => t W τ M fun d M1 => Q (.bl (!isNonD d)) M1
theorem isNon_sim {K : PySem.W.Frag} {H : Hp} {M : MH} {x : V} {d : D} (r : Rep K H M x d) : decide (x = .non) = isNonD d := by cases r <;> rfl
theorem pd_isN {j pos'} (ha : PD X a ta) : PD X (.Compare a [.Is] [.Constant .none j pos'] pos) (tIsND ta) := fun pn xe H0 M0 W at_ =>
  imE (pe_cmp (pc_isN (ha pn xe H0 M0 W at_))) fun σ H Q ⟨τ, M, F, g0, sl, mu, h, k⟩ => upE_fin g0 sl mu h fun x H1 d M1 g1 mu1 r1 h1 => by
    rw [isNon_sim r1]; exact k _ _ _ _ g1 mu1 (.bl _) h1
theorem pd_notN {j pos'} (ha : PD X a ta) : PD X (.Compare a [.IsNot] [.Constant .none j pos'] pos) (tNotND ta) := fun pn xe H0 M0 W at_ =>
  imE (pe_cmp (pc_notN (ha pn xe H0 M0 W at_))) fun σ H Q ⟨τ, M, F, g0, sl, mu, h, k⟩ => upE_fin g0 sl mu h fun x H1 d M1 g1 mu1 r1 h1 => by
    rw [isNon_sim r1]; exact k _ _ _ _ g1 mu1 (.bl _) h1
theorem pdt_isN {j pos'} (ha : PD X a ta) : PDT X (.Compare a [.Is] [.Constant .none j pos'] pos) (tTestB (tIsND ta)) := fun pn xe H0 M0 W at_ =>
  imT (pt_cmp (pc_isN (ha pn xe H0 M0 W at_))) fun σ H Q ⟨τ, M, F, g0, sl, mu, h, k⟩ => upE_fin g0 sl mu h fun x H1 d M1 g1 mu1 r1 h1 => by
    rw [isNon_sim r1]; exact ⟨_, rfl, k _ _ _ g1 mu1 h1⟩
theorem pdt_notN {j pos'} (ha : PD X a ta) : PDT X (.Compare a [.IsNot] [.Constant .none j pos'] pos) (tTestB (tNotND ta)) := fun pn xe H0 M0 W at_ =>
  imT (pt_cmp (pc_notN (ha pn xe H0 M0 W at_))) fun σ H Q ⟨τ, M, F, g0, sl, mu, h, k⟩ => upE_fin g0 sl mu h fun x H1 d M1 g1 mu1 r1 h1 => by
    rw [isNon_sim r1]; exact ⟨_, rfl, k _ _ _ g1 mu1 h1⟩

/-! ### subscripts, len, slices -/
def rdIx : R2D := fun d e M F => match d, e with
  | .lst xs, .int i => (match atI xs i with | some x => F x M | none => False)
  | .tup xs, .int i => (match atI xs i with | some x => F x M | none => False)
  | .ref a, .int i => (match M a with | some (.lst xs) => (match atI xs i with | some x => F x M | none => False) | _ => False)
  | _, _ => False
theorem Reps.at {K : PySem.W.Frag} {H : Hp} {M : MH} {vs : List V} {ds : List D} {i : Int} {d : D} (r : Reps K H M vs ds) (h : atI ds i = some d) : ∃ v, atI vs i = some v ∧ Rep K H M v d := by
  unfold atI at h ⊢
  rw [r.length]
  cases e : ixN ds.length i with
  | none => rw [e] at h; cases h
  | some j => rw [e] at h; exact r.get h
theorem simIx {K : PySem.W.Frag} : SimOp K (fun x y H Q => rIxL K x y H Q ∨ rIxT K x y H Q) rdIx := fun x y d e H M F Q rx ry mu h k => by
  unfold rdIx at h
  split at h
  · cases ry
    cases rx with
    | lst r rs =>
      split at h
      · rename_i q
        obtain ⟨v, e1, r1⟩ := rs.at q
        exact .inl ⟨_, _, _, _, rfl, rfl, r.sq, e1, k _ _ _ _ .refl mu r1 h⟩
      · exact h.elim
  · cases ry
    cases rx with
    | tup r rs =>
      split at h
      · rename_i q
        obtain ⟨v, e1, r1⟩ := rs.at q
        exact .inr ⟨_, _, _, _, rfl, rfl, r.sq, e1, k _ _ _ _ .refl mu r1 h⟩
      · exact h.elim
  · cases ry
    cases rx with
    | ref a =>
      split at h
      · rename_i q1
        obtain ⟨ho, e, r⟩ := mu _ _ q1
        cases r with
        | lst rs =>
          split at h
          · rename_i q
            obtain ⟨v, e1, r1⟩ := rs.at q
            exact .inl ⟨_, _, _, _, rfl, rfl, .inl (.inl e), e1, k _ _ _ _ .refl mu r1 h⟩
          · exact h.elim
      · exact h.elim
  · exact h.elim
theorem pd_ix (ha : PD X a ta) (hb : PD X b tb) (hs : PlainIx b := by exact fun _ _ => rfl) : PD X (.Subscript a b pos) (tOpD rdIx ta tb) := fun pn xe H0 M0 W at_ =>
  imE (pe_ix (IxR.or ix_list ix_tup) (ha pn xe H0 M0 W at_) (hb pn xe H0 M0 W at_) hs) fun σ H Q ⟨τ, M, F, g0, sl, mu, h, k⟩ =>
    upE_fin g0 sl mu h fun x H1 d M1 g1 mu1 r1 h1 => upE_fin (g0.trans g1) (sl.good g1) mu1 h1 fun y H2 e M2 g2 mu2 r2 h2 =>
      simIx x y d e H2 M2 F Q (r1.good g2) r2 mu2 h2 fun v H' d' M' g' mu' r' f' => k v H' d' M' ((g1.trans g2).trans g') mu' r' f'
def rdLen : RCD := fun ds M F => match ds with
  | [.lst xs] => F (.int xs.length) M
  | [.tup xs] => F (.int xs.length) M
  | [.ref a] => (match M a with | some (.lst xs) => F (.int xs.length) M | _ => False)
  | _ => False
theorem simLen {K : PySem.W.Frag} : SimC K (fun xs H Q => ∃ p ys, xs = [.ref p] ∧ (SqL K H p ys ∨ SqT K H p ys) ∧ Q (.int ys.length) H) rdLen := fun xs ds H M F Q r mu h k => by
  unfold rdLen at h
  split at h
  · cases r with
    | cons r t =>
      cases t
      cases r with
      | lst r rs => exact ⟨_, _, rfl, .inl r.sq, by rw [rs.length]; exact k _ _ _ _ .refl mu (.int _) h⟩
  · cases r with
    | cons r t =>
      cases t
      cases r with
      | tup r rs => exact ⟨_, _, rfl, .inr r.sq, by rw [rs.length]; exact k _ _ _ _ .refl mu (.int _) h⟩
  · cases r with
    | cons r t =>
      cases t
      cases r with
      | ref a =>
        split at h
        · rename_i q1
          obtain ⟨ho, e, r⟩ := mu _ _ q1
          cases r with
          | lst rs => exact ⟨_, _, rfl, .inl (.inl (.inl e)), by rw [rs.length]; exact k _ _ _ _ .refl mu (.int _) h⟩
        · exact h.elim
  · exact h.elim
variable {ts : TAD} {es : List Expr}
theorem pd_len (hm : X.mg "len" = none) (ha : PDA X (e :: es) ts) (hg : Gl X "len" := by rfl) (he : starEach (e :: es) X.env = (false, eval e X.env) :: starEach es X.env := by rfl) (hpl : (backTo pos (starEach es X.env)).any (·.1) = false := by rfl) :
    PD X (.Call (.Name "len" p) (e :: es) [] pos) (tCBD rdLen ts) := pd_bf hm PySem.boot_len (fun pn xe => call_len_seq (X := X.tr pn xe)) simLen ha hg (by decide) (by decide) he hpl
def rdAbs : RCD := fun ds M F => match ds with | [.int i] => F (.int (if i < 0 then -i else i)) M | _ => False
def rdInt : RCD := fun ds M F => match ds with | [.int i] => F (.int i) M | [.bl b] => F (.int (if b then 1 else 0)) M | _ => False
def rdGcd : RCD := fun ds M F => match ds with | [.int i, .int j] => F (.int ((Nat.gcd i.natAbs j.natAbs : Nat) : Int)) M | _ => False
theorem pd_abs (hm : X.mg "abs" = none) (ha : PDA X (e :: es) ts) (hg : Gl X "abs" := by rfl) (he : starEach (e :: es) X.env = (false, eval e X.env) :: starEach es X.env := by rfl) (hpl : (backTo pos (starEach es X.env)).any (·.1) = false := by rfl) :
    PD X (.Call (.Name "abs" p) (e :: es) [] pos) (tCBD rdAbs ts) := pd_bf hm (by decide +kernel) (fun pn xe => call_abs (X := X.tr pn xe)) (fun xs ds H M F Q r mu h k => by
      unfold rdAbs at h
      split at h
      · cases r with
        | cons r t => cases t; cases r; exact ⟨_, rfl, k _ _ _ _ .refl mu (.int _) h⟩
      · exact h.elim) ha hg (by decide) (by decide) he hpl
theorem pd_int1 (hm : X.mg "int" = none) (ha : PDA X (e :: es) ts) (hg : Gl X "int" := by rfl) (he : starEach (e :: es) X.env = (false, eval e X.env) :: starEach es X.env := by rfl) (hpl : (backTo pos (starEach es X.env)).any (·.1) = false := by rfl) :
    PD X (.Call (.Name "int" p) (e :: es) [] pos) (tCBD rdInt ts) := pd_bt hm (by decide +kernel) (fun pn xe => call_int1 (X := X.tr pn xe)) (fun xs ds H M F Q r mu h k => by
      unfold rdInt at h
      split at h
      · cases r with
        | cons r t => cases t; cases r; exact .inl ⟨_, rfl, k _ _ _ _ .refl mu (.int _) h⟩
      · cases r with
        | cons r t => cases t; cases r; exact .inr ⟨_, rfl, k _ _ _ _ .refl mu (.int _) h⟩
      · exact h.elim) ha hg (by decide) (by decide) he hpl
theorem pd_gcd {x : Str} (hm : X.mg x = some (.builtin "math.gcd")) (ha : PDA X (e :: es) ts) (hg : Gl X x := by rfl) (hdb : (x == ("__debug__" : Str)) = false := by decide) (he : starEach (e :: es) X.env = (false, eval e X.env) :: starEach es X.env := by rfl) (hpl : (backTo pos (starEach es X.env)).any (·.1) = false := by rfl) :
    PD X (.Call (.Name x p) (e :: es) [] pos) (tCBD rdGcd ts) := fun pn xe H0 M0 W at_ =>
  imE (pe_callBfun (X := X.tr pn xe) cr_gcd hg hm (ha pn xe H0 M0 W at_) hdb he hpl) fun σ H Q ⟨τ, M, F, g0, sl, mu, h, k⟩ => ⟨τ, M, _, g0, sl, mu, h, fun vs H1 ds M1 g1 mu1 r1 h1 => by
    unfold rdGcd at h1
    split at h1
    · cases r1 with
      | cons r t => cases t with
        | cons r' t' => cases t'; cases r; cases r'; exact ⟨_, _, rfl, k _ _ _ _ g1 mu1 (.int _) h1⟩
    · exact h1.elim⟩
end
end Z

set_option Elab.async false
set_option linter.all false
set_option maxRecDepth 100000
set_option maxHeartbeats 4000000
namespace Z
open PySem L2

/-! ### targets -/
abbrev TGD := D → EnvD → MH → (EnvD → MH → Prop) → Prop
abbrev TGsD := List D → EnvD → MH → (EnvD → MH → Prop) → Prop
def upG (K : PySem.W.Frag) (t : TGD) : TG := fun v σ H Q => ∃ d τ M N, Rep K H M v d ∧ Slots K H M σ τ ∧ Mut K H M ∧ t d τ M N ∧ ∀ σ' H' τ' M', Good H M H' M' → Slots K H' M' σ' τ' → Mut K H' M' → N τ' M' → Q σ' H'
def upGs (K : PySem.W.Frag) (t : TGsD) : TGs := fun vs σ H Q => ∃ ds τ M N, Reps K H M vs ds ∧ Slots K H M σ τ ∧ Mut K H M ∧ t ds τ M N ∧ ∀ σ' H' τ' M', Good H M H' M' → Slots K H' M' σ' τ' → Mut K H' M' → N τ' M' → Q σ' H'
/-- a target: it stores, and raises nothing -/
def PDG (X : Cx) (e : Expr) (t : TGD) : Prop := ∀ pn xe, PG (X.tr pn xe) e (upG X.K t)
def PDGs (X : Cx) (es : List Expr) (t : TGsD) : Prop := ∀ pn xe, PGs (X.tr pn xe) es (upGs X.K t)
def gNameD (i : Nat) : TGD := fun d τ M N => N (setN τ i (some d)) M
def gNilD : TGsD := fun ds τ M N => match ds with | [] => N τ M | _ => False
def gConsD (t : TGD) (u : TGsD) : TGsD := fun ds τ M N => match ds with | d :: r => t d τ M fun τ' M' => u r τ' M' N | [] => False
/-- a list or a tuple, by its items -/
def seqD : D → Option (List D) | .lst xs => some xs | .tup xs => some xs | _ => none
def gTupD (n : Nat) (t : TGsD) : TGD := fun d τ M N => match seqD d with | some xs => xs.length = n ∧ t xs τ M N | none => False
section
variable {X : Cx} {pos : Pos}
theorem imG {e : Expr} {t t' : TG} (h : PG X e t) (i : ∀ v σ H Q, t' v σ H Q → t v σ H Q) : PG X e t' := ⟨fun pins s σ H v u Q I r q => h.run pins s σ H v u Q I r (i v σ H Q q)⟩
theorem imGs {e : List Expr} {t t' : TGs} (h : PGs X e t) (i : ∀ v σ H Q, t' v σ H Q → t v σ H Q) : PGs X e t' := ⟨fun pins s σ H v u Q I r q => h.run pins s σ H v u Q I r (i v σ H Q q)⟩
theorem pdg_name {i : Nat} {x : Str} (hN : X.N.Nodup) (hi : X.N[i]? = some x := by rfl) (hx : Loc X.env.scope x := by first | exact Or.inl rfl | exact Or.inr rfl) (hf : X.fn x = true ∨ X.env.scope.names.lookup x = some .local := by first | exact .inl rfl | exact .inr rfl) : PDG X (.Name x pos) (gNameD i) := fun pn xe =>
  imG (pg_name (X := X.tr pn xe) hN hi hx hf) fun v σ H Q ⟨d, τ, M, N, r, sl, mu, h, k⟩ => k _ H (setN τ i (some d)) M .refl (by rw [setN_eq]; exact sl.set r) mu h
theorem pdgs_nil : PDGs X [] gNilD := fun pn xe => imGs pgs_nil fun vs σ H Q ⟨ds, τ, M, N, r, sl, mu, h, k⟩ => by
  cases r with
  | nil => exact ⟨rfl, k σ H τ M .refl sl mu h⟩
  | cons _ _ => exact h.elim
theorem pdgs_cons {e : Expr} {es : List Expr} {t : TGD} {u : TGsD} (h1 : PDG X e t) (h2 : PDGs X es u) (hs : (assignEach (e :: es) X.env).map (·.2) = assign e X.env :: (assignEach es X.env).map (·.2) := by rfl) : PDGs X (e :: es) (gConsD t u) := fun pn xe =>
  imGs (pgs_cons (X := X.tr pn xe) (h1 pn xe) (h2 pn xe) hs) fun vs σ H Q ⟨ds, τ, M, N, r, sl, mu, h, k⟩ => by
    cases r with
    | nil => exact h.elim
    | cons r rs => exact ⟨_, _, rfl, _, τ, M, _, r, sl, mu, h, fun σ1 H1 τ1 M1 g1 sl1 mu1 q => ⟨_, τ1, M1, N, rs.good g1, sl1, mu1, q, fun σ' H' τ' M' g' sl' mu' n => k σ' H' τ' M' (g1.trans g') sl' mu' n⟩⟩
theorem pdg_tup {es : List Expr} {k : Nat} {t : TGsD} {n : Nat} (hc : X.calm = true) (h : PDGs X es t) (hn : (assignEach es X.env).length = n := by rfl) (hst : (assignEach es X.env).findIdx? (·.1) = none := by rfl) : PDG X (.Tuple es k pos) (gTupD n t) := fun pn xe => by
  have h1 := pg_tup (X := X.tr pn xe) (pos := pos) (k := k) hc (h pn xe) hn hst
  have h2 := pg_lst (X := X.tr pn xe) (pos := pos) (k := k) hc (h pn xe) hn hst
  refine ⟨fun pins s σ H v u Q I r ⟨d, τ, M, N, rp, sl, mu, hh, kk⟩ => ?_⟩
  unfold gTupD at hh
  cases q : seqD d with
  | none => rw [q] at hh; exact hh.elim
  | some xs =>
    rw [q] at hh
    obtain ⟨hl, hh⟩ := hh
    cases rp with
    | lst rr rs =>
      cases q
      exact h2.run pins s σ H _ u Q I r ⟨_, _, rfl, rr.sq, by rw [rs.length]; exact hl, ⟨_, τ, M, N, rs, sl, mu, hh, kk⟩⟩
    | tup rr rs =>
      cases q
      exact h1.run pins s σ H _ u Q I r ⟨_, _, rfl, rr.sq, by rw [rs.length]; exact hl, ⟨_, τ, M, N, rs, sl, mu, hh, kk⟩⟩
    | _ => cases q
/-- target = value -/
def tAsgD (te : TED) (g : TGD) : TSD := fun W F τ M => te W τ M fun d M1 => g d τ M1 F.nx
theorem upG_fin {H0 : Hp} {M0 : MH} {g : TGD} {v : V} {d : D} {σ : L2.St} {τ : EnvD} {H : Hp} {M : MH} {N : EnvD → MH → Prop} {Q : L2.St → Hp → Prop} (g0 : Good H0 M0 H M) (r : Rep X.K H M v d) (sl : Slots X.K H M σ τ) (mu : Mut X.K H M) (h : g d τ M N)
    (k : ∀ σ' H', liftN X.K H0 M0 N σ' H' → Q σ' H') : upG X.K g v σ H Q := ⟨d, τ, M, N, r, sl, mu, h, fun σ' H' τ' M' g' sl' mu' n => k σ' H' ⟨τ', M', g0.trans g', sl', mu', n⟩⟩
theorem pds_asg {tg e : Expr} {te : TED} {g : TGD} (he : PD X e te) (hg : PDG X tg g) (hs : swapsWithSole [tg] e pos.line X.env = pure false := by rfl) (hw : swappedStores [tg] e X.env = pure none := by rfl) (h1 : (assignEach [tg] X.env).map (·.2) = [assign tg X.env] := by rfl) :
    PDS X (.Assign [tg] e pos) (tAsgD te g) := fun pn xe H0 M0 W at_ =>
  imS (ps_asg (X := X.tr pn xe) (he pn xe H0 M0 W at_) (hg pn xe) hs hw h1) fun D σ H ⟨τ, M, F, g0, sl, mu, h, k1, k2, k3, k4⟩ => upE_fin g0 sl mu h fun v H1 d M1 g1 mu1 r1 q => upG_fin g1 r1 (sl.good g1) mu1 q k1
/-- o[i] = v, o a list with an address -/
def tSetIx (te to ti : TED) : TSD := fun W F τ M => te W τ M fun d M1 => to W τ M1 fun o M2 => ti W τ M2 fun i M3 => match o, i with
  | .ref a, .int k => (match M3 a with | some (.lst xs) => (match ixN xs.length k with | some j => F.nx τ (mput M3 a (.lst (xs.set j d))) | none => False) | _ => False)
  | _, _ => False
theorem pds_setix {o i e : Expr} {te to ti : TED} {p2 : Pos} (he : PD X e te) (ho : PD X o to) (hi : PD X i ti) (hs : swapsWithSole [.Subscript o i p2] e pos.line X.env = pure false := by rfl) (hw : swappedStores [.Subscript o i p2] e X.env = pure none := by rfl)
    (h1 : (assignEach [.Subscript o i p2] X.env).map (·.2) = [assign (.Subscript o i p2) X.env] := by rfl)
    (ha : ∀ v, assign (.Subscript o i p2) X.env v = (do
      let ov ← holding [v] (eval o X.env)
      let iv ← holding [v, ov] (eval i X.env)
      standAt p2
      holding [v, ov, iv] (setItem ov iv v)
      release [v, ov, iv] []) := by intro _; rfl) : PDS X (.Assign [.Subscript o i p2] e pos) (tSetIx te to ti) := fun pn xe H0 M0 W at_ =>
  imS (ps_asg (X := X.tr pn xe) (he pn xe H0 M0 W at_) (pg_sub (X := X.tr pn xe) (ho pn xe H0 M0 W at_) (hi pn xe H0 M0 W at_) set_list ha) hs hw h1) fun D σ H ⟨τ, M, F, g0, sl, mu, h, k1, k2, k3, k4⟩ =>
    upE_fin g0 sl mu h fun v H1 d M1 g1 mu1 r1 q1 => upE_fin (g0.trans g1) (sl.good g1) mu1 q1 fun ov H2 od M2 g2 mu2 r2 q2 => upE_fin ((g0.trans g1).trans g2) ((sl.good g1).good g2) mu2 q2 fun iv H3 id M3 g3 mu3 r3 q3 => by
      have r1' := (r1.good g2).good g3
      have r2' := r2.good g3
      split at q3
      · cases r3
        cases r2'
        split at q3
        · rename_i a k xs q
          split at q3
          · rename_i j qj
            obtain ⟨ho, e, rm⟩ := mu3 _ _ q
            cases rm with
            | lst rs =>
              exact ⟨_, _, _, j, rfl, rfl, e, by rw [rs.length]; exact qj, k1 _ _ ⟨τ, _, ((g1.trans g2).trans g3).trans (good_write q), (((sl.good g1).good g2).good g3).good (good_write q), mut_write mu3 q (.lst (rs.set r1' j)), q3⟩⟩
          · exact q3.elim
        · exact q3.elim
      · exact q3.elim

/-! ### what a loop walks -/
/-- over a tree: by its items -/
theorem pi_seq {tg l : Expr} {tl : TE} (hl : PE X l tl) : PI X tg l (fun σ H R => tl σ H fun x H1 => ∃ a, x = .ref a ∧ (((∃ xs, SqL X.K H1 a xs) ∧ R (Itl X.K a) H1) ∨ ((∃ xs, SqT X.K H1 a xs) ∧ R (Itt X.K a) H1))) := by
  refine ⟨fun pins s σ H R I h => thn (hl.run pins s σ H _ I h) ?_⟩
  rintro v s1 ⟨x, H1, I1, r1, a, rfl, q⟩
  cases r1
  have I2 : ∀ o : Obj, Inv X pins σ H1 { s1 with heap := s1.heap.push o } := fun o => I1.kept (t' := s1.toks) fun b u e => Heap.get?_push_of_some _ e
  have fp : ∀ b ∈ [s1.heap.objs.size], FpOk X pins H1 b := fun b hb => by
    rw [List.mem_singleton] at hb
    rw [hb]
    exact I1.fpOk (Nat.le_refl _) (I1.hok.fresh (Nat.le_refl _))
  rcases q with ⟨⟨xs, hq⟩, q⟩ | ⟨⟨xs, hq⟩, q⟩
  · obtain ⟨its, rv, p, hz⟩ := I1.list hq
    exact wpAny_pyIter_list p.isList ⟨_, _, _, _, H1, rfl, I2 _, turn_list a _, ⟨_, Heap.get?_push_size _ rfl, rfl, rfl⟩, fp, q⟩
  · obtain ⟨its, rv, p, hz⟩ := I1.tuple hq
    exact wpAny_pyIter_tuple (show s1.heap.IsTuple a its.toArray from p) ⟨_, _, _, _, H1, rfl, I2 _, turn_tuple a _, ⟨_, Heap.get?_push_size _ rfl, rfl, rfl⟩, fp, q⟩

/-- an iterator that yields these items, whatever happens to what has an address -/
def ItRel (K : PySem.W.Frag) (J : It) (H : Hp) (M : MH) (ds : List D) : Prop := ∀ H2 M2, Good H M H2 M2 → Mut K H2 M2 →
  (∀ i d, ds[i]? = some d → J.go i H2 ∧ ∀ x H3, J.yld i H2 x H3 → Good H2 M2 H3 M2 ∧ Mut K H3 M2 ∧ Rep K H3 M2 x d) ∧ J.stop ds.length H2
def upI (K : PySem.W.Frag) (H0 : Hp) (M0 : MH) (W : WD) (t : TAD) : TI := fun σ H R => ∃ τ M F, Good H0 M0 H M ∧ Slots K H M σ τ ∧ Mut K H M ∧ t W τ M F ∧ ∀ J H' ds M', Good H M H' M' → Mut K H' M' → ItRel K J H' M' ds → F ds M' → R J H'
/-- what a loop walks, by its items -/
def PDI (X : Cx) (tg iter : Expr) (t : TAD) : Prop := ∀ pn xe H0 M0 W, At X pn xe H0 M0 W → PI (X.tr pn xe) tg iter (upI X.K H0 M0 W t)
theorem imI {tg e : Expr} {t t' : TI} (h : PI X tg e t) (i : ∀ σ H Q, t' σ H Q → t σ H Q) : PI X tg e t' := ⟨fun pins s σ H R I q => h.run pins s σ H R I (i σ H R q)⟩
def iSeqD (te : TED) : TAD := fun W τ M Q => te W τ M fun d M1 => match seqD d with | some xs => Q xs M1 | none => False
theorem pdi_seq {tg iter : Expr} {te : TED} (he : PD X iter te) : PDI X tg iter (iSeqD te) := fun pn xe H0 M0 W at_ =>
  imI (pi_seq (he pn xe H0 M0 W at_)) fun σ H R ⟨τ, M, F, g0, sl, mu, h, k⟩ => upE_fin g0 sl mu h fun v H1 d M1 g1 mu1 r1 q => by
    cases e : seqD d with
    | none => rw [e] at q; exact q.elim
    | some xs =>
      rw [e] at q
      cases r1 with
      | lst rr rs =>
        cases e
        refine ⟨_, rfl, .inl ⟨⟨_, rr.sq⟩, k _ H1 xs M1 g1 mu1 (fun H2 M2 g2 mu2 => ⟨fun i d hd => ?_, ⟨_, (rr.good g2).sq, Nat.le_of_eq rs.length⟩⟩) q⟩⟩
        obtain ⟨v, hv, rv⟩ := (rs.good g2).get hd
        exact ⟨⟨_, v, (rr.good g2).sq, hv⟩, fun x H3 ⟨e3, hx⟩ => by
          subst e3
          have := hx _ (rr.good g2).sq
          rw [hv] at this
          cases this
          exact ⟨.refl, mu2, rv⟩⟩
      | tup rr rs =>
        cases e
        refine ⟨_, rfl, .inr ⟨⟨_, rr.sq⟩, k _ H1 xs M1 g1 mu1 (fun H2 M2 g2 mu2 => ⟨fun i d hd => ?_, ⟨_, (rr.good g2).sq, Nat.le_of_eq rs.length⟩⟩) q⟩⟩
        obtain ⟨v, hv, rv⟩ := (rs.good g2).get hd
        exact ⟨⟨_, v, (rr.good g2).sq, hv⟩, fun x H3 ⟨e3, hx⟩ => by
          subst e3
          have := hx _ (rr.good g2).sq
          rw [hv] at this
          cases this
          exact ⟨.refl, mu2, rv⟩⟩
      | _ => cases e
/-- lo, lo + 1, .. -/
def upFrom (lo : Int) (n : Nat) : List D := (List.range n).map fun i => .int (lo + (i : Nat))
theorem upFrom_get {lo : Int} {n i : Nat} {d : D} (h : (upFrom lo n)[i]? = some d) : i < n ∧ d = .int (lo + i) := by
  unfold upFrom at h
  rw [List.getElem?_map] at h
  by_cases hi : i < n
  · rw [List.getElem?_range hi] at h
    cases h
    exact ⟨hi, rfl⟩
  · rw [List.getElem?_eq_none (by simpa using Nat.le_of_not_lt hi)] at h
    cases h
theorem itr_rel {K : PySem.W.Frag} {lo : Int} {n : Nat} {H : Hp} {M : MH} : ItRel K (Itr lo n) H M (upFrom lo n) := fun H2 M2 g2 mu2 => ⟨fun i d hd => by
  obtain ⟨hi, rfl⟩ := upFrom_get hd
  exact ⟨hi, fun x H3 ⟨e3, ex⟩ => by subst e3 ex; exact ⟨.refl, mu2, .int _⟩⟩, by show n ≤ (upFrom lo n).length; simp [upFrom]⟩
def iRngD (ta : TAD) : TAD := fun W τ M Q => ta W τ M fun ds M1 => match ds with
  | [.int n] => (-4611686018427387904 ≤ n ∧ n < 4611686018427387904) ∧ Q (upFrom 0 n.toNat) M1
  | [.int a, .int b] => ((-4611686018427387904 ≤ a ∧ a < 4611686018427387904) ∧ -4611686018427387904 ≤ b ∧ b < 4611686018427387904) ∧ Q (upFrom a (b - a).toNat) M1
  | _ => False
theorem pdi_range1 {tg a : Expr} {ta : TAD} {p : Pos} (hm : X.mg "range" = none) (ha : PDA X [a] ta) (hlk : ∀ (W : WD) τ M (R : List D → MH → Prop), ta W τ M R → ta W τ M (fun ds M => R ds M ∧ ds.length = 1)) (hg : Gl X "range" := by rfl) (hs : starEach [a] X.env = [(false, eval a X.env)] := by rfl) : PDI X tg (.Call (.Name "range" p) [a] [] pos) (iRngD ta) := fun pn xe H0 M0 W at_ =>
  imI (pi_range1 (X := X.tr pn xe) hg hm (ha pn xe H0 M0 W at_) hs) fun σ H R ⟨τ, M, F, g0, sl, mu, h, k⟩ => ⟨τ, M, _, g0, sl, mu, hlk _ _ _ _ h, fun vs H1 ds M1 g1 mu1 r ⟨q, l⟩ => by
    cases r with
    | nil => cases l
    | cons r rs =>
      cases rs with
      | cons _ _ => simp at l
      | nil =>
        split at q
        · rename_i n e
          cases e
          cases r
          exact ⟨n, rfl, by omega, by omega, k _ H1 _ M1 g1 mu1 itr_rel q.2⟩
        · rename_i e; cases e
        · exact q.elim⟩
theorem pdi_range2 {tg a b : Expr} {ta : TAD} {p : Pos} (hm : X.mg "range" = none) (ha : PDA X [a, b] ta) (hlk : ∀ (W : WD) τ M (R : List D → MH → Prop), ta W τ M R → ta W τ M (fun ds M => R ds M ∧ ds.length = 2)) (hg : Gl X "range" := by rfl) (hs : starEach [a, b] X.env = [(false, eval a X.env), (false, eval b X.env)] := by rfl) (hs2 : starEach [b] X.env = [(false, eval b X.env)] := by rfl) : PDI X tg (.Call (.Name "range" p) [a, b] [] pos) (iRngD ta) := fun pn xe H0 M0 W at_ =>
  imI (pi_range2 (X := X.tr pn xe) hg hm (ha pn xe H0 M0 W at_) hs hs2) fun σ H R ⟨τ, M, F, g0, sl, mu, h, k⟩ => ⟨τ, M, _, g0, sl, mu, hlk _ _ _ _ h, fun vs H1 ds M1 g1 mu1 r ⟨q, l⟩ => by
    split at q
    · simp at l
    · cases r with
      | cons r rs =>
        cases rs with
        | cons r' rs' =>
          cases rs'
          cases r
          cases r'
          exact ⟨_, _, rfl, ⟨by omega, by omega, by omega, by omega⟩, k _ H1 _ M1 g1 mu1 itr_rel q.2⟩
    · exact q.elim⟩

/-- for target in ..: body -/
def tForD (ti : TAD) (g : TGD) (body : TSD) : TSD := fun W F τ M => ti W τ M fun xs M1 => ∃ Iv : Nat → EnvD → MH → Prop, Iv 0 τ M1 ∧
  (∀ i x τ' M', xs[i]? = some x → Iv i τ' M' → g x τ' M' fun τ2 M2 => body W { F with nx := Iv (i + 1), ct := Iv (i + 1), bk := F.nx } τ2 M2) ∧ (∀ τ' M', Iv xs.length τ' M' → F.nx τ' M')
theorem pds_for {tg iter : Expr} {body : List Stmt} {ti : TAD} {g : TGD} {tb : TSD} (hc : X.calm = true) (he : PDI X tg iter ti) (hg : PDG X tg g) (hb : PDB X body tb) (hs : ∀ x, foldedSetIterable iter X.env x = pure x := by intro _; rfl) : PDS X (.For tg iter body [] pos) (tForD ti g tb) := fun pn xe H0 M0 W at_ =>
  imS (ps_for (X := X.tr pn xe) at_.po hc (he pn xe H0 M0 W at_) (hg pn xe) (hb pn xe H0 M0 W at_) hs) fun D σ H ⟨τ, M, F, g0, sl, mu, h, k1, k2, k3, k4⟩ => ⟨τ, M, _, g0, sl, mu, h, fun J H1 xs M1 g1 mu1 it ⟨Iv, i0, step, done⟩ => by
    refine ⟨fun i m σ2 H2 => m = xs.length - i ∧ i ≤ xs.length ∧ ∃ τ2 M2, Good H1 M1 H2 M2 ∧ Slots X.K H2 M2 σ2 τ2 ∧ Mut X.K H2 M2 ∧ Iv i τ2 M2, ⟨_, rfl, Nat.zero_le _, τ, M1, .refl, sl.good g1, mu1, i0⟩, ?_⟩
    rintro i m σ2 H2 ⟨rfl, hi, τ2, M2, g2, sl2, mu2, iv⟩
    obtain ⟨go, stop⟩ := it H2 M2 g2 mu2
    by_cases hlt : i < xs.length
    · obtain ⟨go1, yl⟩ := go i xs[i] (by simp [hlt])
      refine .inr ⟨go1, fun σ4 H4 => ∃ τ2 M2, Good H1 M1 H4 M2 ∧ Slots X.K H4 M2 σ4 τ2 ∧ Mut X.K H4 M2 ∧ Iv (i + 1) τ2 M2, fun σ' H' w => ⟨xs.length - (i + 1), by omega, rfl, hlt, w⟩, fun x H3 y => ?_⟩
      obtain ⟨g3, mu3, rx⟩ := yl x H3 y
      refine ⟨_, τ2, M2, _, rx, sl2.good g3, mu3, step i xs[i] τ2 M2 (by simp [hlt]) iv, fun σ4 H4 τ4 M4 g4 sl4 mu4 n => ?_⟩
      have gg := (g2.trans g3).trans g4
      refine ⟨τ4, M4, { F with nx := fun τ4 M4 => Iv (i + 1) τ4 M4, ct := fun τ4 M4 => Iv (i + 1) τ4 M4, bk := F.nx }, (g0.trans g1).trans gg, sl4, mu4, n, ?_, fun v H' q => k2 v H' ((q.tr gg).tr g1), fun σ' H' q => k1 σ' H' ((q.tr gg).tr g1), ?_⟩
      all_goals
        rintro σ5 H5 ⟨τ5, M5, g5, sl5, mu5, iv5⟩
        exact ⟨τ5, M5, gg.trans g5, sl5, mu5, iv5⟩
    · have e : i = xs.length := by omega
      subst e
      exact .inl ⟨stop, k1 _ _ ⟨τ2, M2, g1.trans g2, sl2, mu2, done τ2 M2 iv⟩⟩⟩

/-! ### list comprehensions -/
def wipeD (τ : EnvD) : List Nat → EnvD
  | [] => τ
  | v :: vs => setN (wipeD τ vs) v none
theorem slots_wipe {K : PySem.W.Frag} {H : Hp} {M : MH} {σ : L2.St} {τ : EnvD} (h : Slots K H M σ τ) : ∀ vs, Slots K H M (wipe σ vs) (wipeD τ vs)
  | [] => h
  | v :: vs => by unfold wipe wipeD; rw [setN_eq]; exact (slots_wipe h vs).unset
/-- a target of names alone, among vs -/
def TgtOk (K : PySem.W.Frag) (g : TG) (gd : TGD) (vs : List Nat) : Prop := ∀ v d σ τ H M Q N, Rep K H M v d → Slots K H M σ τ → gd d τ M N → (∀ σ' τ', Slots K H M σ' τ' → wipe σ' vs = wipe σ vs → N τ' M → Q σ' H) → g v σ H Q
theorem wipe_set {x : Option V} {i : Nat} : ∀ {vs : List Nat} {σ : L2.St}, i ∈ vs → wipe (σ.set i x) vs = wipe σ vs
  | v :: vs, σ, h => by
    unfold wipe
    by_cases e : i ∈ vs
    · rw [wipe_set e]
    · have ev : v = i := by
        rcases List.mem_cons.mp h with h | h
        · exact h.symm
        · exact absurd h e
      subst ev
      have q : ∀ (ws : List Nat) (σ : L2.St), v ∉ ws → wipe (σ.set v x) ws = (wipe σ ws).set v x := fun ws => by
        induction ws with
        | nil => intro σ _; rfl
        | cons w ws ih =>
          intro σ hn
          have n1 : w ≠ v := fun e => hn (by rw [e]; exact List.mem_cons_self)
          unfold wipe
          rw [ih σ fun z => hn (List.mem_cons_of_mem _ z), List.set_comm _ _ (Ne.symm n1)]
      rw [q vs σ e, List.set_set]
theorem wipe_sub {vs : List Nat} {σ : L2.St} : ∀ {us : List Nat}, (∀ u ∈ us, u ∈ vs) → wipe (wipe σ us) vs = wipe σ vs
  | [], _ => rfl
  | u :: us, h => by
    show wipe ((wipe σ us).set u none) vs = _
    rw [wipe_set (h u List.mem_cons_self)]
    exact wipe_sub fun w hw => h w (List.mem_cons_of_mem _ hw)
theorem tgt_name {K : PySem.W.Frag} {i : Nat} {vs : List Nat} (hi : i ∈ vs) : TgtOk K (gName i) (gNameD i) vs := fun v d σ τ H M Q N r sl h k => k _ (setN τ i (some d)) (by rw [setN_eq]; exact sl.set r) (wipe_set hi) h
def TgtsOk (K : PySem.W.Frag) (g : TGs) (gd : TGsD) (vs : List Nat) : Prop := ∀ xs ds σ τ H M Q N, Reps K H M xs ds → Slots K H M σ τ → gd ds τ M N → (∀ σ' τ', Slots K H M σ' τ' → wipe σ' vs = wipe σ vs → N τ' M → Q σ' H) → g xs σ H Q
theorem tgts_nil {K : PySem.W.Frag} {vs : List Nat} : TgtsOk K gNil gNilD vs := fun xs ds σ τ H M Q N r sl h k => by
  cases r with
  | nil => exact ⟨rfl, k σ τ sl rfl h⟩
  | cons _ _ => exact h.elim
theorem tgts_cons {K : PySem.W.Frag} {vs : List Nat} {g : TG} {gd : TGD} {gs : TGs} {gds : TGsD} (h1 : TgtOk K g gd vs) (h2 : TgtsOk K gs gds vs) : TgtsOk K (gCons g gs) (gConsD gd gds) vs := fun xs ds σ τ H M Q N r sl h k => by
  cases r with
  | nil => exact h.elim
  | cons r rs => exact ⟨_, _, rfl, h1 _ _ σ τ H M _ _ r sl h fun σ1 τ1 sl1 w1 h1' => h2 _ _ σ1 τ1 H M _ _ rs sl1 h1' fun σ2 τ2 sl2 w2 h2' => k σ2 τ2 sl2 (w2.trans w1) h2'⟩
/-- a tuple of names: what is walked are tuples -/
theorem tgt_tup {K : PySem.W.Frag} {vs : List Nat} {gs : TGs} {gds : TGsD} {n : Nat} (h1 : TgtsOk K gs gds vs) : TgtOk K (gTup K n gs) (fun d τ M N => match d with | .tup xs => xs.length = n ∧ gds xs τ M N | _ => False) vs := fun v d σ τ H M Q N r sl h k => by
  cases r with
  | tup rr rs => exact ⟨_, _, rfl, rr.sq, by rw [rs.length]; exact h.1, h1 _ _ σ τ H M Q N rs sl h.2 k⟩
  | _ => exact h.elim

def noW : WD := fun _ _ _ _ => False
theorem at_no {X : Cx} {H0 : Hp} {M0 : MH} {pn : List (Addr × Obj)} : At X pn (fun _ _ => False) H0 M0 noW :=
  ⟨fun u s' ⟨a, B, sI, pins, σ, H, cls, d, e, I, nb, up, sky, na, os, ag, w⟩ => (let ⟨_, _, _, _, _, _, _, _, _, q⟩ := w; q).elim, PassesOwn.never⟩
/-- the tests of a comprehension: none, one -/
def PDTs (X : Cx) (ifs : List Expr) (t : TTD) : Prop := ∀ H0 M0, PTs (X.tr [] fun _ _ => False) ifs (upT X.K H0 M0 noW t)
def tYesD : TTD := fun _ _ M Q => Q true M
theorem pdts_nil : PDTs X [] tYesD := fun H0 M0 => ⟨fun pins s σ H Q I ⟨τ, M, F, g0, sl, mu, h, k⟩ => pts_nil.run pins s σ H Q I (k true H M .refl mu h)⟩
theorem pdts_one {c : Expr} {t : TTD} (h : PDT X c t) : PDTs X [c] t := fun H0 M0 => pts_one (h [] _ H0 M0 noW at_no)
def tLcD (ti : TAD) (gd : TGD) (tt : TTD) (te : TED) (vs : List Nat) : TED := fun W τ M Q => ti W τ M fun xs M1 => ∀ p, M1 p = none → ∃ Iv : Nat → MH → Prop, Iv 0 (mput M1 p (.lst [])) ∧
  (∀ i x M2, xs[i]? = some x → Iv i M2 → gd x (wipeD τ vs) M2 fun τ2 M3 => tt noW τ2 M3 fun b M4 => (b = true → te noW τ2 M4 fun y M5 => match M5 p with | some (.lst acc) => acc.length < 16777216 ∧ Iv (i + 1) (mput M5 p (.lst (acc ++ [y]))) | _ => False) ∧ (b = false → Iv (i + 1) M4)) ∧
  (∀ M2, Iv xs.length M2 → match M2 p with | some (.lst acc) => Q (.lst acc) (mdel M2 p) | _ => False)
theorem pd_lc {elt tg iter : Expr} {ifs : List Expr} {scope : Scope} {own : List (Str × Nat)} {ti : TAD} {g : TG} {gd : TGD} {tt : TTD} {te : TED} (hc : X.calm = true) (hN : X.N.Nodup) (hi : PDI X tg iter ti) (ok : BlkOk X.N X.env.scope scope own)
    (hg : ∀ (s : Shared) (H : Hp) (C : Addr) (cl : List (Str × Addr)) (fp : List Addr), PG (X.blk s H scope (compEnvC scope cl C X.env) fp) tg g) (hgd : TgtOk X.K g gd (own.map (·.2)))
    (ht : ∀ (s : Shared) (H : Hp) (C : Addr) (cl : List (Str × Addr)) (fp : List Addr), PDTs (X.blk s H scope (compEnvC scope cl C X.env) fp) ifs tt)
    (he : ∀ (s : Shared) (H : Hp) (C : Addr) (cl : List (Str × Addr)) (fp : List Addr), PD (X.blk s H scope (compEnvC scope cl C X.env) fp) elt te) (hs : ∀ x, foldedSetIterable iter X.env x = pure x := by intro _; rfl) :
    PD X (.ListComp elt [⟨tg, iter, ifs, 0⟩] scope pos) (tLcD ti gd tt te (own.map (·.2))) := fun pn xe H0 M0 W at_ =>
  imE (pe_lc (X := X.tr pn xe) (te := upE X.K H0 M0 noW te) (tt := upT X.K H0 M0 noW tt) hc hN (hi pn xe H0 M0 W at_) ok hg (fun s H C cl fp => ht s H C cl fp H0 M0) (fun s H C cl fp => he s H C cl fp [] _ H0 M0 noW at_no) hs) fun σ H Q ⟨τ, M, F, g0, sl, mu, h, k⟩ => ⟨τ, M, _, g0, sl, mu, h, fun J H1 xs M1 g1 mu1 it q => by
    intro p hp
    obtain ⟨Iv, i0, step, done⟩ := q p (mut_none mu1 hp)
    refine ⟨fun i m H2 => m = xs.length - i ∧ i ≤ xs.length ∧ ∃ M2, Good H1 M1 H2 M2 ∧ Mut X.K H2 M2 ∧ Iv i M2, ⟨_, rfl, Nat.zero_le _, mput M1 p (.lst []), good_put hp, mut_put mu1 hp (.lst .nil), i0⟩, ?_⟩
    rintro i m H2 ⟨rfl, hi, M2, g2, mu2, iv⟩
    obtain ⟨go, stop⟩ := it H2 M2 g2 mu2
    by_cases hlt : i < xs.length
    · obtain ⟨go1, yl⟩ := go i xs[i] (by simp [hlt])
      refine .inr ⟨go1, fun H4 => ∃ M4, Good H1 M1 H4 M4 ∧ Mut X.K H4 M4 ∧ Iv (i + 1) M4, fun H' w => ⟨xs.length - (i + 1), by omega, rfl, hlt, w⟩, fun x H3 y => ?_⟩
      obtain ⟨g3, mu3, rx⟩ := yl x H3 y
      have gg := g1.trans (g2.trans g3)
      refine hgd _ _ _ _ H3 M2 _ _ rx (slots_wipe (sl.good gg) _) (step i xs[i] M2 (by simp [hlt]) iv) fun σ4 τ4 sl4 w4 n => ⟨w4.trans (wipe_sub fun _ h => h), τ4, M2, _, g0.trans gg, sl4, mu3, n, fun b H5 M5 g5 mu5 nb => ?_⟩
      cases b with
      | false =>
        rw [if_neg Bool.false_ne_true]
        exact ⟨M5, (g2.trans g3).trans g5, mu5, nb.2 rfl⟩
      | true =>
        rw [if_pos rfl]
        refine ⟨τ4, M5, _, (g0.trans gg).trans g5, sl4.good g5, mu5, nb.1 rfl, fun v H6 d M6 g6 mu6 r6 n6 => ?_⟩
        split at n6
        · rename_i acc ea
          obtain ⟨ho, e, rm⟩ := mu6 _ _ ea
          cases rm with
          | lst rs => exact ⟨_, e, by rw [rs.length, sizeLine_eq]; exact n6.1, mput M6 p (.lst (acc ++ [d])), (((g2.trans g3).trans g5).trans g6).trans (good_write ea), mut_write mu6 ea (.lst (rs.append (.cons r6 .nil))), n6.2⟩
        · exact n6.elim
    · have e : i = xs.length := by omega
      subst e
      have dn := done M2 iv
      split at dn
      · rename_i acc ea
        obtain ⟨ho, e, rm⟩ := mu2 _ _ ea
        cases rm with
        | lst rs => exact .inl ⟨stop, k _ H2 _ _ ((g1.trans g2).trans good_del) (mut_del mu2) (.lst (.inl ⟨mdel_same, .inl e⟩) (rs.good good_del)) dn⟩
      · exact dn.elim⟩
/-- where the item's value is told by its place, whatever stands elsewhere -/
theorem mdel_mput {M : MH} {p : Addr} {o : MO} (h : M p = none) : mdel (mput M p o) p = M := by
  funext b
  by_cases e : b = p
  · subst e; rw [mdel_same, h]
  · rw [mdel_ne e, mput_ne e]
theorem mput_mput {M : MH} {p : Addr} {o o' : MO} : mput (mput M p o) p o' = mput M p o' := by
  funext b
  by_cases e : b = p
  · subst e; rw [mput_same, mput_same]
  · rw [mput_ne e, mput_ne e, mput_ne e]
theorem lc_pure {ti : TAD} {gd : TGD} {tt : TTD} {te : TED} {vs : List Nat} {W : WD} {τ : EnvD} {M : MH} {Q : QD} (xs : List D) (f : D → D) (c : D → Bool) (hl : xs.length ≤ 16777216) (M1 : MH)
    (hx : ∀ x ∈ xs, ∀ M2 (R : EnvD → MH → Prop), (∀ τ2, (∀ R2 : Bool → MH → Prop, R2 (c x) M2 → tt noW τ2 M2 R2) → (c x = true → ∀ R3 : QD, R3 (f x) M2 → te noW τ2 M2 R3) → R τ2 M2) → gd x (wipeD τ vs) M2 R)
    (hq : Q (.lst ((xs.filter c).map f)) M1) (hi : ∀ R : List D → MH → Prop, R xs M1 → ti W τ M R) : tLcD ti gd tt te vs W τ M Q := by
  refine hi _ fun p hp => ⟨fun i M2 => M2 = mput M1 p (.lst (((xs.take i).filter c).map f)), rfl, ?_, ?_⟩
  · rintro i x M2 hx' rfl
    have hi' : i < xs.length := (List.getElem?_eq_some_iff.mp hx').1
    have htk : xs.take (i + 1) = xs.take i ++ [x] := by rw [List.take_add_one, hx']; rfl
    refine hx x (List.mem_of_getElem? hx') _ _ fun τ2 h1 h2 => h1 _ ⟨fun hb => h2 hb _ ?_, fun hb => ?_⟩
    · rw [mput_same]
      refine ⟨?_, ?_⟩
      · have : (((xs.take i).filter c).map f).length ≤ i := by
          rw [List.length_map]
          exact Nat.le_trans (List.length_filter_le _ _) (by rw [List.length_take]; omega)
        omega
      · rw [mput_mput]
        show mput M1 p (.lst (((xs.take i).filter c).map f ++ [f x])) = mput M1 p (.lst (((xs.take (i + 1)).filter c).map f))
        rw [htk, List.filter_append, List.map_append]
        simp [hb]
    · show mput M1 p (.lst (((xs.take i).filter c).map f)) = mput M1 p (.lst (((xs.take (i + 1)).filter c).map f))
      rw [htk, List.filter_append]
      simp [hb]
  · rintro M2 rfl
    rw [mput_same]
    show Q _ _
    rw [mdel_mput hp, List.take_length]
    exact hq
end
end Z

set_option Elab.async false
set_option linter.all false
set_option maxRecDepth 100000
set_option maxHeartbeats 4000000
namespace Z
open PySem L2

section
variable {X : Cx} {a b e : Expr} {es : List Expr} {ta tb te : TED} {ts : TAD} {pos p p2 : Pos}
/-! ### slices of lists -/
def tPartD (t : TED) : WD → EnvD → MH → (Option Int → MH → Prop) → Prop := fun W τ M Q => t W τ M fun d M1 => match d with | .int i => Q (some i) M1 | _ => False
def tNoPartD : WD → EnvD → MH → (Option Int → MH → Prop) → Prop := fun _ _ M Q => Q none M
def upO (K : PySem.W.Frag) (H0 : Hp) (M0 : MH) (W : WD) (t : WD → EnvD → MH → (Option Int → MH → Prop) → Prop) : L2.TO := fun σ H Q => ∃ τ M F, Good H0 M0 H M ∧ Slots K H M σ τ ∧ Mut K H M ∧ t W τ M F ∧ ∀ o H' M', Good H M H' M' → Mut K H' M' → F o M' → Q o H'
def PDO (X : Cx) (e : Option Expr) (t : WD → EnvD → MH → (Option Int → MH → Prop) → Prop) : Prop := ∀ pn xe H0 M0 W, At X pn xe H0 M0 W → PO (X.tr pn xe) e (upO X.K H0 M0 W t)
theorem imO {e : Option Expr} {t t' : L2.TO} (h : PO X e t) (i : ∀ σ H Q, t' σ H Q → t σ H Q) : PO X e t' := ⟨fun pins s σ H Q I q => h.run pins s σ H Q I (i σ H Q q)⟩
theorem pdo_none : PDO X none tNoPartD := fun pn xe H0 M0 W at_ => imO po_none fun σ H Q ⟨τ, M, F, g0, sl, mu, h, k⟩ => k none H M .refl mu h
theorem pdo_some (h : PD X e te) : PDO X (some e) (tPartD te) := fun pn xe H0 M0 W at_ => imO (po_some (h pn xe H0 M0 W at_)) fun σ H Q ⟨τ, M, F, g0, sl, mu, h, k⟩ => upE_fin g0 sl mu h fun v H1 d M1 g1 mu1 r1 q => by
  cases r1 with
  | int i => exact ⟨i, rfl, k (some i) H1 M1 g1 mu1 q⟩
  | _ => exact q.elim
def cutD (xs : List D) (lo hi : Option Int) : List D := (xs.drop (HT.sIx xs.length 0 lo)).take (HT.sIx xs.length xs.length hi - HT.sIx xs.length 0 lo)
theorem reps_cut {K : PySem.W.Frag} {H : Hp} {M : MH} {vs : List V} {xs : List D} (l u : Option Int) (rs : Reps K H M vs xs) : Reps K H M (cutV vs l u) (cutD xs l u) := by
  unfold cutV cutD
  rw [rs.length]
  exact (rs.drop _).take _
def tSlD (t : TED) (tl th : WD → EnvD → MH → (Option Int → MH → Prop) → Prop) : TED := fun W τ M Q => t W τ M fun d M1 => tl W τ M1 fun l M2 => th W τ M2 fun u M3 => match d with | .lst xs => Q (.lst (cutD xs l u)) M3 | _ => False
theorem pd_slice {lo hi : Option Expr} {tl th : WD → EnvD → MH → (Option Int → MH → Prop) → Prop} (he : PD X e te) (hl : PDO X lo tl) (hu : PDO X hi th) : PD X (.Subscript e (.Slice lo hi none p2) pos) (tSlD te tl th) := fun pn xe H0 M0 W at_ =>
  imE (pe_slice sl_list (he pn xe H0 M0 W at_) (hl pn xe H0 M0 W at_) (hu pn xe H0 M0 W at_)) fun σ H Q ⟨τ, M, F, g0, sl, mu, h, k⟩ => upE_fin g0 sl mu h fun v H1 d M1 g1 mu1 r1 q =>
    ⟨τ, M1, _, g0.trans g1, sl.good g1, mu1, q, fun l H2 M2 g2 mu2 q2 => ⟨τ, M2, _, (g0.trans g1).trans g2, (sl.good g1).good g2, mu2, q2, fun u H3 M3 g3 mu3 q3 => by
      cases r1 with
      | lst rr rs =>
        have g := g2.trans g3
        refine ⟨_, _, rfl, (rr.good g).sq, fun q hq => ?_⟩
        exact k _ _ _ M3 ((g1.trans g).trans (good_new hq)) (mut_new mu3 hq) (rep_lst mu3 hq (reps_cut l u (rs.good g))) q3
      | _ => exact q3.elim⟩⟩

/-! ### isinstance with built-in types -/
inductive Tag where | int | bool | str | list | tuple | dict
def tagStr : Tag → String | .int => "int" | .bool => "bool" | .str => "str" | .list => "list" | .tuple => "tuple" | .dict => "dict"
def isTag (T : Tag) (d : D) : Option Bool := match d with
  | .non => some false
  | .bl _ => some (match T with | .int => true | .bool => true | _ => false)
  | .int _ => some (match T with | .int => true | _ => false)
  | .str _ => some (match T with | .str => true | _ => false)
  | .flt _ => some false
  | .lst _ => some (match T with | .list => true | _ => false)
  | .tup _ => some (match T with | .tuple => true | _ => false)
  | .dct _ => some (match T with | .dict => true | _ => false)
  | _ => none
def tyName : D → String | .non => "NoneType" | .bl _ => "bool" | .int _ => "int" | .str _ => "str" | .flt _ => "float" | .lst _ => "list" | .tup _ => "tuple" | .dct _ => "dict" | _ => ""
theorem isTag_kit {T : Tag} {d : D} {b : Bool} (h : isTag T d = some b) : kitB (tyName d) (tagStr T) = some b := by
  cases d <;> cases T <;> cases h <;> (dsimp only [tyName, tagStr]; decide +kernel)
theorem rep_ty {K : PySem.W.Frag} {H : Hp} {M : MH} {v : V} {d : D} {T : Tag} {b : Bool} (r : Rep K H M v d) (h : isTag T d = some b) : TyX K H v (.type (tyName d)) := by
  cases r with
  | non => exact .base .non
  | bl b => exact .base (.bl b)
  | int i => exact .base (.int i)
  | str x => exact .base (.str x)
  | flt x => exact .base (.flt x)
  | lst rr rs =>
    rcases rr with ⟨_, rr | ⟨o, rr⟩⟩ | ⟨o, its, n, h1, h2, _⟩
    · exact .base (.lst rr)
    · exact .base (.frz rr)
    · exact .kList h1 h2
  | tup rr rs =>
    rcases rr with ⟨_, rr | ⟨o, rr⟩⟩ | ⟨o, its, n, h1, h2, _⟩
    · exact .base (.tup rr)
    · exact .fTuple rr
    · exact .kTuple h1 h2
  | dct m e rs => exact .base (.dK e)
  | _ => cases h
def tIs (f : D → Option Bool) (t : TED) : TED := fun W τ M Q => t W τ M fun d M1 => match f d with | some b => Q (.bl b) M1 | none => False
theorem pd_isA {c : Expr} {T : Tag} (hm : X.mg "isinstance" = none) (ha : PD X a ta) (hc : ∀ pn xe, PE (X.tr pn xe) c (tC (.ty (tagStr T)))) (hg : Gl X "isinstance" := by rfl) (he : starEach [a, c] X.env = (false, eval a X.env) :: starEach [c] X.env := by rfl) (he2 : starEach [c] X.env = [(false, eval c X.env)] := by rfl)
    (hpl : (backTo pos (starEach [c] X.env)).any (·.1) = false := by rfl) : PD X (.Call (.Name "isinstance" p) [a, c] [] pos) (tIs (isTag T) ta) := fun pn xe H0 M0 W at_ =>
  imE (pe_callB (X := X.tr pn xe) call_isi hg hm (by decide +kernel) (pa_cons (ha pn xe H0 M0 W at_) (pa_cons (hc pn xe) pa_nil he2) he) (by decide) (by decide) he hpl) fun σ H Q ⟨τ, M, F, g0, sl, mu, h, k⟩ => upE_fin g0 sl mu h fun v H1 d M1 g1 mu1 r1 q => by
    cases e : isTag T d with
    | none => rw [e] at q; exact q.elim
    | some r =>
      rw [e] at q
      exact ⟨_, _, _, _, r, rfl, .ty _, rep_ty r1 e, kit_ty (isTag_kit e), k _ _ _ _ g1 mu1 (.bl _) q⟩
theorem pe_tag {x : Str} {n : String} (hm : X.mg x = none) (hv : bootBuiltins x = some (.type n) := by decide +kernel) (hg : Gl X x := by rfl) (hn : x ≠ "__name__" := by decide) (hd : (x == ("__debug__" : Str)) = false := by decide) : ∀ pn xe, PE (X.tr pn xe) (.Name x p) (tC (.ty n)) :=
  fun pn xe => pe_bltn (X := X.tr pn xe) (v := .ty n) hg hm hv rfl hn hd
/-- isinstance(x, (list, tuple)) and its like -/
def isTag2 (T T' : Tag) (d : D) : Option Bool := match isTag T d, isTag T' d with | some b, some c => some (b || c) | _, _ => none
theorem pd_isA2 {c c' : Expr} {T T' : Tag} {x1} {p3 : Pos} (hm : X.mg "isinstance" = none) (ha : PD X a ta) (hc : ∀ pn xe, PE (X.tr pn xe) c (tC (.ty (tagStr T)))) (hc' : ∀ pn xe, PE (X.tr pn xe) c' (tC (.ty (tagStr T')))) (hg : Gl X "isinstance" := by rfl)
    (he : starEach [a, .Tuple [c, c'] x1 p3] X.env = (false, eval a X.env) :: starEach [.Tuple [c, c'] x1 p3] X.env := by rfl) (he2 : starEach [.Tuple [c, c'] x1 p3] X.env = [(false, eval (.Tuple [c, c'] x1 p3) X.env)] := by rfl) (he3 : starEach [c, c'] X.env = (false, eval c X.env) :: starEach [c'] X.env := by rfl) (he4 : starEach [c'] X.env = [(false, eval c' X.env)] := by rfl)
    (hpl : (backTo pos (starEach [.Tuple [c, c'] x1 p3] X.env)).any (·.1) = false := by rfl) : PD X (.Call (.Name "isinstance" p) [a, .Tuple [c, c'] x1 p3] [] pos) (tIs (isTag2 T T') ta) := fun pn xe H0 M0 W at_ =>
  imE (pe_callB (X := X.tr pn xe) call_isiT hg hm (by decide +kernel) (pa_cons (ha pn xe H0 M0 W at_) (pa_cons (pe_tup (pa_cons (hc pn xe) (pa_cons (hc' pn xe) pa_nil he4) he3)) pa_nil he2) he) (by decide) (by decide) he hpl) fun σ H Q ⟨τ, M, F, g0, sl, mu, h, k⟩ => upE_fin g0 sl mu h fun v H1 d M1 g1 mu1 r1 q => by
    refine ⟨by show 2 ≤ sizeLine; decide, fun t ht => ?_⟩
    unfold isTag2 at q
    cases e : isTag T d with
    | none => rw [e] at q; exact q.elim
    | some r =>
      cases e' : isTag T' d with
      | none => rw [e, e'] at q; exact q.elim
      | some r' =>
        rw [e, e'] at q
        have r2 := r1.good (good_new (o := .tup [.ty (tagStr T), .ty (tagStr T')]) ht)
        refine ⟨_, t, _, _, _, (r || r'), rfl, upd_same, .cons (.ty _) (.cons (.ty _) .nil), rep_ty r2 e, ?_, k _ _ _ _ (g1.trans (good_new ht)) (mut_new mu1 ht) (.bl _) q⟩
        exact kitAny_cons (kit_ty (isTag_kit e)) (fun h0 => kitAny_cons (kit_ty (isTag_kit e')) (fun h1 => by rw [h0, h1]; exact kitAny_nil) (fun h1 => by rw [h1, Bool.or_true])) (fun h0 => by rw [h0, Bool.true_or])

/-! ### tuple(x) -/
def tTupOf (t : TED) : TED := fun W τ M Q => t W τ M fun d M1 => match seqD d with | some xs => Q (.tup xs) M1 | none => False
theorem pd_tupOf (hm : X.mg "tuple" = none) (ha : PD X a ta) (hg : Gl X "tuple" := by rfl) (na : starEach [a] X.env = (false, eval a X.env) :: starEach [] X.env := by rfl) : PD X (.Call (.Name "tuple" p) [a] [] pos) (tTupOf ta) := fun pn xe H0 M0 W at_ =>
  imE (pe_tupleOf (X := X.tr pn xe) hg hm (ha pn xe H0 M0 W at_) na) fun σ H Q ⟨τ, M, F, g0, sl, mu, h, k⟩ => upE_fin g0 sl mu h fun v H1 d M1 g1 mu1 r1 q => by
    cases r1 with
    | lst rr rs => exact .inl ⟨_, _, rfl, rr.sq, fun w hw => k _ _ _ M1 (g1.trans (good_new hw)) (mut_new mu1 hw) (rep_tup mu1 hw rs) q⟩
    | tup rr rs => exact .inr ⟨_, _, rfl, rr.sq, k _ _ _ M1 g1 mu1 (.tup rr rs) q⟩
    | _ => exact q.elim

/-! ### a, b = x, y; while; name op= e -/
def tParD (i j : Nat) (t : TAD) : TSD := fun W F τ M => t W τ M fun ds M1 => match ds with | [d, e] => F.nx (setN (setN τ i (some d)) j (some e)) M1 | _ => False
theorem pds_par {i j : Nat} {x y : Str} {px py pt : Pos} {kt k2 pt2} (hc : X.calm = true) (hN : X.N.Nodup) (ha : PDA X [a, b] ts) (hi : X.N[i]? = some x := by rfl) (hj : X.N[j]? = some y := by rfl) (hij : i ≠ j := by decide)
    (hx : X.env.scope.names.lookup x = some .local := by rfl) (hy : X.env.scope.names.lookup y = some .local := by rfl)
    (hw : swappedStores [.Tuple [.Name x px, .Name y py] kt pt] (.Tuple [a, b] k2 pt2) X.env = pure (some [x, y]) := by rfl)
    (hs : swapsWithSole [.Tuple [.Name x px, .Name y py] kt pt] (.Tuple [a, b] k2 pt2) pos.line X.env = pure false := by rfl) :
    PDS X (.Assign [.Tuple [.Name x px, .Name y py] kt pt] (.Tuple [a, b] k2 pt2) pos) (tParD i j ts) := fun pn xe H0 M0 W at_ =>
  imS (ps_par (X := X.tr pn xe) hc hN hi hj hij hx hy (ha pn xe H0 M0 W at_) hw hs) fun D σ H ⟨τ, M, F, g0, sl, mu, h, k1, k2, k3, k4⟩ => ⟨τ, M, _, g0, sl, mu, h, fun vs H1 ds M1 g1 mu1 r q => by
    split at q
    · cases r with
      | cons r rs => cases rs with
        | cons r' rs' => cases rs'; exact ⟨_, _, rfl, k1 _ _ ⟨_, M1, g1, by rw [setN_eq, setN_eq]; exact ((sl.good g1).set r).set r', mu1, q⟩⟩
    · exact q.elim⟩
/-- while, by an invariant with its measure -/
def tWhileD (c : TTD) (body : TSD) : TSD := fun W F τ M => ∃ (Iv : EnvD → MH → Prop) (m : EnvD → MH → Nat), Iv τ M ∧ ∀ τ' M', Iv τ' M' → c W τ' M' fun b M1 =>
  (b = true → body W { F with nx := fun τ2 M2 => Iv τ2 M2 ∧ m τ2 M2 < m τ' M', ct := fun τ2 M2 => Iv τ2 M2 ∧ m τ2 M2 < m τ' M', bk := F.nx } τ' M1) ∧ (b = false → F.nx τ' M1)
theorem pds_while {c : Expr} {body : List Stmt} {tc : TTD} {tb : TSD} (hc : PDT X c tc) (hb : PDB X body tb) : PDS X (.While c body [] pos) (tWhileD tc tb) := fun pn xe H0 M0 W at_ =>
  imS (ps_while (X := X.tr pn xe) at_.po (hc pn xe H0 M0 W at_) (hb pn xe H0 M0 W at_)) fun D σ H ⟨τ, M, F, g0, sl, mu, ⟨Iv, m, i0, step⟩, k1, k2, k3, k4⟩ => by
    refine ⟨fun n σ2 H2 => ∃ τ2 M2, n = m τ2 M2 ∧ Good H M H2 M2 ∧ Slots X.K H2 M2 σ2 τ2 ∧ Mut X.K H2 M2 ∧ Iv τ2 M2, ⟨_, τ, M, rfl, .refl, sl, mu, i0⟩, ?_⟩
    rintro n σ2 H2 ⟨τ2, M2, rfl, g2, sl2, mu2, iv⟩
    refine ⟨τ2, M2, _, g0.trans g2, sl2, mu2, step τ2 M2 iv, fun b H3 M3 g3 mu3 q => ?_⟩
    cases b with
    | true =>
      rw [if_pos rfl]
      refine ⟨fun σ4 H4 => ∃ τ4 M4, m τ4 M4 < m τ2 M2 ∧ Good H M H4 M4 ∧ Slots X.K H4 M4 σ4 τ4 ∧ Mut X.K H4 M4 ∧ Iv τ4 M4, fun σ4 H4 ⟨τ4, M4, l, w⟩ => ⟨_, l, τ4, M4, rfl, w⟩, ?_⟩
      refine ⟨τ2, M3, _, (g0.trans g2).trans g3, sl2.good g3, mu3, q.1 rfl, ?_, fun v H' z => k2 v H' ((z.tr g3).tr g2), fun σ' H' z => k1 σ' H' ((z.tr g3).tr g2), ?_⟩
      all_goals
        rintro σ5 H5 ⟨τ5, M5, g5, sl5, mu5, iv5, l5⟩
        exact ⟨τ5, M5, l5, (g2.trans g3).trans g5, sl5, mu5, iv5⟩
    | false =>
      rw [if_neg Bool.false_ne_true]
      exact k1 _ _ ⟨τ2, M3, g2.trans g3, sl2.good g3, mu3, q.2 rfl⟩
end

/-! ### repr of data -/
theorem toPy_noDict : (∀ d p, toPy d = some p → p.hasDict = false) := by
  intro d
  refine D.rec (motive_1 := fun d => ∀ p, toPy d = some p → p.hasDict = false) (motive_2 := fun ds => ∀ ps, toPys ds = some ps → PyData.hasDictAll ps = false) (motive_3 := fun _ => True) (motive_4 := fun _ => True) (motive_5 := fun _ => True) (motive_6 := fun _ => True) ?_ ?_ ?_ ?_ ?_ ?_ ?_ ?_ ?_ ?_ ?_ ?_ ?_ ?_ ?_ ?_ ?_ ?_ ?_ ?_ d
  all_goals (try (intros; trivial))
  all_goals (try (intros; rename_i h; simp only [toPy, toPys] at h; cases h; simp [PyData.hasDict, PyData.hasDictAll]; done))
  · intro xs ih p h
    simp only [toPy] at h
    cases e : toPys xs with
    | none => rw [e] at h; cases h
    | some ps => rw [e] at h; cases h; simpa [PyData.hasDict] using ih ps e
  · intro xs ih p h
    simp only [toPy] at h
    cases e : toPys xs with
    | none => rw [e] at h; cases h
    | some ps => rw [e] at h; cases h; simpa [PyData.hasDict] using ih ps e
  · intro x xs ih1 ih2 ps h
    simp only [toPys] at h
    cases e1 : toPy x with
    | none => rw [e1] at h; cases h
    | some q =>
      cases e2 : toPys xs with
      | none => rw [e1, e2] at h; cases h
      | some qs => rw [e1, e2] at h; cases h; simp [PyData.hasDictAll, ih1 q e1, ih2 qs e2]
/-- what repr asks of data, and what it gives -/
def okRepr (p : PyData) : Prop := p.showable = true ∧ p.shown.length ≤ 16777216 ∧ p.depth ≤ 64
def tReprD (t : TED) : TED := fun W τ M Q => t W τ M fun d M1 => match toPy d with | some p => okRepr p ∧ Q (.str p.shown) M1 | none => False
section
variable {X : Cx}
theorem repr_val {pins : List (Addr × Obj)} {σ : L2.St} {H : Hp} {s : Shared} {v : V} {u : Value} {d : D} {p : PyData} {M : MH} {Q : VK} (I : Inv X pins σ H s) (hgd : X.A.guards = some []) (hu : X.A.units + 66 < cLine) (r : RelV v u) (rp : Rep X.K H M v d) (e : toPy d = some p) (ok : okRepr p) (q : Q (.str p.shown) H) :
    wpAny (model X.prog X.w) X.A (call (.builtin "repr") [u]) (EP X pins σ Q) X.xe s := by
  obtain ⟨h1, h2, h3⟩ := ok
  have h2' : p.shown.length ≤ sizeLine := by rw [sizeLine_eq]; exact h2
  obtain ⟨as, rd⟩ := Dp.reads I p v u (toPy_dp rp e) r
  have done : ∀ t, EP X pins σ Q (.str p.shown t) { s with toks := s.toks + 1 } := fun t => ⟨.str p.shown, H, I.tok _, ⟨t, rfl⟩, q⟩
  cases rp with
  | non =>
    simp only [toPy] at e; cases e; cases r
    exact PySem.P.repr_of_none (done _)
  | bl b =>
    simp only [toPy] at e; cases e; cases r
    exact PySem.P.repr_of_bool (done _)
  | int i =>
    simp only [toPy] at e; cases e
    obtain ⟨t, rfl⟩ := r
    exact PySem.P.repr_of_int (by simpa [PyData.showable] using h1) (done _)
  | str x =>
    simp only [toPy] at e; cases e
    obtain ⟨t, rfl⟩ := r
    exact PySem.P.repr_of_str (done _) h2'
  | lst _ _ =>
    cases r
    have nd : p.hasDict = true → sysModules ∉ as := fun z => by rw [toPy_noDict _ _ e] at z; cases z
    exact repr_of_reads' rd h1 nd hgd (by omega) (fun _ _ z => z) (fun h' u tk hk => ⟨.str p.shown, H, I.kept hk, ⟨u, rfl⟩, q⟩) h2'
  | tup _ _ =>
    cases r
    have nd : p.hasDict = true → sysModules ∉ as := fun z => by rw [toPy_noDict _ _ e] at z; cases z
    exact repr_of_reads' rd h1 nd hgd (by omega) (fun _ _ z => z) (fun h' u tk hk => ⟨.str p.shown, H, I.kept hk, ⟨u, rfl⟩, q⟩) h2'
  | _ => simp [toPy] at e
theorem pd_repr {a : Expr} {ta : TED} {pos p : Pos} (hgd : X.A.guards = some []) (hu : X.A.units + 66 < cLine) (hm : X.mg "repr" = none) (ha : PD X a ta) (hg : Gl X "repr" := by rfl) (he : starEach [a] X.env = (false, eval a X.env) :: starEach [] X.env := by rfl) (hpl : (backTo pos (starEach [] X.env)).any (·.1) = false := by rfl) :
    PD X (.Call (.Name "repr" p) [a] [] pos) (tReprD ta) := fun pn xe H0 M0 W at_ => by
  refine ⟨fun pins s σ H Q I ⟨τ, M, F, g0, sl, mu, h, k⟩ => ?_⟩
  refine wpAny_Call_Name_kw (ld_blt I hg hm (show bootBuiltins "repr" = some (.builtin "repr") by decide +kernel) ?_ (by decide) (by decide))
  refine PyProof.Rows.callWith_builtin1 (thn ((pa_cons (X := X.tr pn xe) (ha pn xe H0 M0 W at_) pa_nil he).run pos pins s σ H (fun vs H1 => ∃ v d M1 p, vs = [v] ∧ Good H M H1 M1 ∧ Mut X.K H1 M1 ∧ Rep X.K H1 M1 v d ∧ toPy d = some p ∧ okRepr p ∧ F (.str p.shown) M1) I ?_) fun us s1 ⟨vs, H1, I1, r1, v, d, M1, p, ev, g1, mu1, rp, e, ok, q⟩ => ?_) he hpl
  · exact upE_fin g0 sl mu h fun v H1 d M1 g1 mu1 r1 q => by
      cases e : toPy d with
      | none => rw [e] at q; exact q.elim
      | some p => rw [e] at q; exact ⟨v, d, M1, p, rfl, g1, mu1, r1, e, q.1, q.2⟩
  · subst ev
    cases r1 with
    | cons r rs =>
      cases rs
      exact repr_val (X := X.tr pn xe) I1 hgd hu r rp e ok (k _ H1 _ M1 g1 mu1 (.str _) q)
end

/-! ### defs that show data: they ask that no repr is under way -/
structure FnZ (P : Program) (w : World) (K : PySem.W.Frag) (mg : Str → Option Value) (base : Heap) (k : Nat) (f : Addr) (fd : FuncData) (ps : List Str) (sp : SpD) : Prop where
  len : ∀ ds M F E, sp ds M F E → ds.length = ps.length
  run : ∀ (A : Around) (outer : List Env) (s : Shared) (H : Hp) (args : Args) (us : List Value) (vs : List V) (Q : VK) (E : XK), Room k A → A.guards = some [] → Env0 P w K mg base A outer s H → BindsTo s fd args (ps.zip us) → Vals vs us → spOf K sp vs H Q E →
    codeAny (model P w) A (.call (.ref f) args) (CR (L2.CX P w) outer P w H s Q E) s
section
open PyProof.Rows PySem.Spec
variable {P : Program} {w : World} {K : PySem.W.Frag} {mg : Str → Option Value} {base : Heap}
theorem fnZ {x qual : Str} {st : Stmt} {f : Addr} {fd : FuncData} {N ps : List Str} {k : Nat} {sp : SpD} {t : TSD} (F : Fun K x qual st f fd) (S : FnScope N ps (defScope st)) (len : ∀ ds M F E, sp ds M F E → ds.length = ps.length)
    (hb : ∀ (cdv : Value) (A : Around) (outer : List Env) (s : Shared) (H : Hp) (E : XK), Room k (A.deeper (envOfC qual (defScope st) s.heap.objs.size f cdv)) → A.guards = some [] → PDB (cxOf (L2.CX P w) P w K mg base N qual (defScope st) f cdv A outer s H E) (defBody st) t)
    (wp : ∀ ds M F FE, sp ds M F FE → t (fun C fs _ M => FE C fs M) { nx := fun _ M => F .non M, rt := F } (startD N ds) M) : FnZ P w K mg base (k + 1) f fd ps sp := by
  obtain ⟨oc, od, kV, doc, pm, an, cdv, ct, osl, rfl, lk, hcd⟩ := F.ex
  refine ⟨len, fun A outer s H args us vs Q E hr hgd e0 hbd r hsp => ?_⟩
  obtain ⟨ds, M, G, FE, rr, mu, h, kq, ke⟩ := hsp
  have hl : vs.length = ps.length := by rw [rr.length]; exact len _ _ _ _ h
  have old : ∀ b o, base.get? b = some o → s.heap.get? b = some o := fun b o e => (e0.bs b o e).1
  have KX := e0.mod.kin.keeps old
  have lim := e0.mod.nolimit.keeps old
  refine codeAny_call_function hr.depth (KX _ _ lk) rfl S.co S.gen rfl (PySem.W.codeRec_of KX hcd) (hbd _ _ _ _ ?_)
  refine wpAny_newFunctionEnv_cells S.kind (fun y hy => ?_) fun env he s1 x => ?_
  · obtain ⟨n, v⟩ := y
    exact (S.par n (List.of_mem_zip hy).1).imp id fun q => ⟨q, PySem.W.cellsFrom_some _ _ _ (.inl q)⟩
  subst he
  refine ⟨lim.keeps x.toInCall.keep, codeAny_func ?_⟩
  have I := inv_start (CX := L2.CX P w) (w := w) (cd := cdv) (E := E) S hr.hd e0 hl r x
  have at_ : At (cxOf (L2.CX P w) P w K mg base N qual (defScope st) f cdv A outer s H E) (cxOf (L2.CX P w) P w K mg base N qual (defScope st) f cdv A outer s H E).pn (cxOf (L2.CX P w) P w K mg base N qual (defScope st) f cdv A outer s H E).xe H M (fun C fs _ M => FE C fs M) := by
    refine ⟨Takes.imp (takes_of rfl rfl rfl rfl) fun c d σ H' ⟨C, ds', τ, M', e, ex, g, sl, mu', q⟩ => ?_, passes_of rfl⟩
    subst e
    exact ke C ds' d H' M' g mu' ex q
  have body := hb cdv A outer s H E (hr.deeper _) hgd _ _ H M _ at_
  refine wpAny_mono (body.run [] s1 _ H { nx := fun _ H' => Q .non H', rt := Q } I ⟨startD N ds, M, _, .refl, slots_start rr, mu, wp ds M G FE h, ?_, ?_, ?_, ?_⟩) (fun fl s' hs => ?_) fun e s' hs => hs
  · rintro σ' H' ⟨τ, M', g, sl, mu', q⟩
    exact kq _ _ _ _ g mu' .non q
  · rintro v H' ⟨d, M', g, mu', r', q⟩
    exact kq _ _ _ _ g mu' r' q
  · rintro σ' H' ⟨τ, M', g, sl, mu', q⟩
    exact q.elim
  · rintro σ' H' ⟨τ, M', g, sl, mu', q⟩
    exact q.elim
  · have fin : ∀ {σ' : L2.St} {H' : Hp} {v : V} {u : Value}, Inv (cxOf (L2.CX P w) P w K mg base N qual (defScope st) f cdv A outer s H E) [] σ' H' s' → RelV v u → Q v H' → CE outer P w H s Q u s' :=
      fun {σ' H' v u} J rv q => ⟨v, H', J.os, J.bare, J.base, J.hok, rv, q⟩
    cases fl with
    | ret u => obtain ⟨v, σ', H', J, rv, q⟩ := hs; exact fin J rv q
    | next => obtain ⟨σ', H', J, q⟩ := hs; exact fin (v := V.non) (u := Value.none) J rfl q
    | brk => obtain ⟨_, _, _, q⟩ := hs; exact q.elim
    | cont => obtain ⟨_, _, _, q⟩ := hs; exact q.elim
end
theorem FnZ.of {P : Program} {w : World} {K : PySem.W.Frag} {mg : Str → Option Value} {base : Heap} {k : Nat} {f : Addr} {fd : FuncData} {ps : List Str} {sp : SpD} (len : ∀ ds M F E, sp ds M F E → ds.length = ps.length) (h : FnOk P w K mg base (L2.CX P w) k f fd ps (spOf K sp)) : FnZ P w K mg base k f fd ps sp :=
  ⟨len, fun A outer s H args us vs Q E hr _ e0 hb r q => h.run A outer s H args us vs Q E hr e0 hb r q⟩
section
variable {X : Cx} {k : Nat} {f : Addr} {fd : FuncData} {ps : List Str} {sp : SpD} {x : Str} {e : Expr} {es : List Expr} {ta : TAD} {pos p : Pos}
theorem pd_callZ (F : FnZ X.prog X.w X.K X.mg X.base k f fd ps sp) (hr : Room k X.A) (hgd : X.A.guards = some []) (hm : X.mg x = some (.ref f)) (hk : PySem.W.keepIn X.K (.ref f) = true) (hb : Binds X.K fd ps [])
    (ha : PDA X (e :: es) ta) (hg : Gl X x := by rfl) (hdb : (x == ("__debug__" : Str)) = false := by decide) (he : starEach (e :: es) X.env = (false, eval e X.env) :: starEach es X.env := by rfl) (hpl : (backTo pos (starEach es X.env)).any (·.1) = false := by rfl) :
    PD X (.Call (.Name x p) (e :: es) [] pos) (tCallD sp ta) := fun pn xe H0 M0 W at_ => by
  refine ⟨fun pins s σ H Q I ⟨τ, M, G, g0, sl, mu, h, k⟩ => ?_⟩
  refine wpAny_Call_Name_kw (ld_glob I hg hm ?_ hdb)
  refine PySem.W.callWith_K (h₀ := X.base) I.ok.mod.kin hk (thn ((ha pn xe H0 M0 W at_).run pos pins s σ H (fun vs H1 => vs.length = ps.length ∧ spOf X.K sp vs H1 Q (WE (liftW X.K H0 M0 W) σ)) I ?_) fun us s1 ⟨vs, H1, I1, r, hl, q⟩ => ⟨I1.kIn, ?_⟩) he hpl
  · exact ⟨τ, M, _, g0, sl, mu, h, fun vs H1 ds M1 g1 mu1 r1 h1 => ⟨by rw [r1.length]; exact F.len _ _ _ _ h1, sp_of_call (X := X) g0 sl k g1 mu1 r1 h1⟩⟩
  · have hx := passAt at_.tk σ
    have hbd := hb s1 us I1.kIn (by rw [List.append_nil, ← r.length]; exact hl)
    rw [List.append_nil] at hbd
    refine wpAny_call (codeAny_mono (F.run X.A X.stack s1 H1 ⟨us, []⟩ us vs Q (WE (liftW X.K H0 M0 W) σ) hr hgd I1.env0 hbd r q) fun r s' hq => ?_)
    cases r with
    | error e => exact hx pins H1 s1 e s' I1 hq
    | ok fl =>
      cases fl with
      | ret u => exact I1.after hq
      | next => exact hq.elim
      | brk => exact hq.elim
      | cont => exact hq.elim
end
end Z

set_option Elab.async false
set_option linter.all false
set_option maxRecDepth 100000
set_option maxHeartbeats 4000000
namespace Z
open PySem L2 PySem.Spec PyProof.Rows

/-- what a law promises: of the script's ints, at most 63, it gives True -/
def spLaw : SpD := fun ds M F _ => ∃ ns : List Int, ds = [.lst (ns.map D.int)] ∧ ns.length ≤ 63 ∧ M = (fun _ => none) ∧ ∀ M', F (.bl true) M'
theorem reps_ints {K : PySem.W.Frag} {H : Hp} {M : MH} : ∀ ns : List Int, Reps K H M (ns.map V.int) (ns.map D.int)
  | [] => .nil
  | n :: ns => .cons (.int n) (reps_ints ns)
/-- the law's call from an abstract heap in which at most the script stands -/
theorem law_from {P : Program} {w : World} {K : PySem.W.Frag} {mg mb : Str → Option Value} {k : Nat} {fa a : Addr} {fd : FuncData} {x : Str} {s1 : Shared} {vs : List Value} {ns : List Int} {H : Hp} (KX : K.In s1.heap) (hns : s1.heap.Ns mainGlobals mg)
    (hb : s1.heap.Ns builtinsNs mb) (hbb : ∀ y : Str, y ≠ "__name__" → mb y = bootBuiltins y) (hlim : s1.heap.NoLimit) (hg : s1.gens = #[]) (ha : s1.heap.get? a = some { cls := .type "list", data := .seq vs.toArray }) (hl : ns.length ≤ 63) (hr : Room k callerA)
    (F : ∀ base : Heap, K.In base → base.Ns mainGlobals mg → FnZ P w K mg base k fa fd [x] spLaw) (hbind : ∀ (s : Shared) (u : Value), BindsTo s fd ⟨[u], []⟩ [(x, u)])
    (hO : Only H) (hS : SqL K H a (ns.map V.int)) (hok : HOk P w H s1.heap) (hA : ∀ b, H b ≠ none → b = a) (hK : H a ≠ none → K.lookup a = none) :
    codeAny (model P w) callerA (.call (.ref fa) ⟨[.ref a], []⟩) (fun r s' => r = .ok (.ret (.bool true)) ∧ OldK s1.heap s'.heap ∧ s'.os = s1.os ∧ AllBare s'.gens) s1 := by
  have at_a : ∀ {b : Addr} {u : HO}, H b = some u → b = a := fun e => hA _ (by rw [e]; exact fun z => by cases z)
  have noDict : ∀ {b : Addr} {o : Obj} {es : Array DictEntry} {ep : Nat}, s1.heap.get? b = some o → o.data = .dict es ep → H b = none := by
    intro b o es ep e d
    match q : H b with
    | none => rfl
    | some u =>
      rw [at_a q, ha] at e
      cases e
      cases (show Data.seq vs.toArray _ = Data.dict es ep from d)
  have ns_keep : ∀ {b : Addr} {m : Str → Option Value}, s1.heap.Ns b m → (hidT s1.heap H).Ns b m := by
    rintro b m ⟨o, es, ep, e, d, r⟩
    exact ⟨o, es, ep, hidT_get e (noDict e d), d, r⟩
  have K_keep : K.In (hidT s1.heap H) := by
    intro b o e
    refine hidT_get (KX b o e) ?_
    match q : H b with
    | none => rfl
    | some u =>
      have eb := at_a q
      rw [eb] at e q
      rw [hK (by rw [q]; exact fun z => by cases z)] at e
      cases e
  have hM : Mod K mg (hidT s1.heap H) := ⟨K_keep, ns_keep hns, ⟨mb, ns_keep hb, hbb⟩, by obtain ⟨mc, z1, z2⟩ := hlim; exact ⟨mc, ns_keep z1, z2⟩⟩
  have e0 : Env0 P w K mg (hidT s1.heap H) callerA [] s1 H := ⟨rfl, hM, fun b o e => of_hidT e, Nat.le_of_eq (hidT_size _ _), trivial, (fun b z => absurd (show b ∈ ([] : List Addr) from z) (by simp)), hok, .of_eq hg⟩
  have rl : ReL K H (fun _ => none) a (ns.map V.int) := hS.elim (fun z => .inl ⟨rfl, z⟩) .inr
  have sp0 : spOf K spLaw [.ref a] H (fun v _ => v = .bl true) fun _ _ _ => False := by
    refine ⟨[.lst (ns.map D.int)], fun _ => none, fun d _ => d = .bl true, fun _ _ _ => False, .cons (.lst rl (reps_ints ns)) .nil, (fun b mo z => by cases z), ⟨ns, rfl, hl, rfl, fun _ => rfl⟩, ?_, fun _ _ _ _ _ _ _ _ z => z⟩
    rintro v H' d M' _ _ r rfl
    cases r
    rfl
  refine codeAny_mono ((F _ K_keep (ns_keep hns)).run callerA [] s1 H ⟨[.ref a], []⟩ [.ref a] [.ref a] _ _ hr rfl e0 (hbind s1 (.ref a)) (.cons rfl .nil) sp0) ?_
  intro r s' h
  match r, h with
  | .error e, h => obtain ⟨_, _, _, _, _, _, _, _, _, _, _, _, z⟩ := h; exact z.elim
  | .ok .next, h => exact False.elim h
  | .ok .brk, h => exact False.elim h
  | .ok .cont, h => exact False.elim h
  | .ok (.ret u), h =>
    obtain ⟨v, H', os, bare, un, hok', r', q⟩ := h
    cases (show v = .bl true from q)
    cases r'
    refine ⟨rfl, OldK.of_keep fun b o e => ?_, os, bare⟩
    match q : H b with
    | none => exact un.keep b o e q (fun z => nomatch z) (fun z => nomatch z)
    | some u =>
      obtain ⟨ob, xs, z⟩ := (hO b).resolve_left (by rw [q]; exact fun z => by cases z)
      have t1 := (hok b _ z).1
      have t2 := (hok' b _ (un.frzs b ob _ z)).1
      rw [e] at t1
      cases t1
      exact t2
theorem walkZ {l : PySem.W.OpenLaw} {k : Nat} {q : Program} {loose : List Str} {XP : (Str → Option Value) → Heap → Prop} {YP : World → Heap → Prop} {d : DefRec} {K : Params → PySem.W.Frag} {x : Str} (hn : l.most = some 63) (hdf : d.params.defaults = []) (hr : Room k callerA)
    (hY : ∀ (w : World) (h : Heap), YP w h → (K w.params).In h)
    (F : ∀ (w : World) (mg : Str → Option Value) (fa : Addr) (h : Heap), (K w.params).In h → h.Ns mainGlobals mg → mg d.name = some (.ref fa) →
      ∃ fd : FuncData, (∀ (s : Shared) (u : Value), BindsTo s fd ⟨[u], []⟩ [(x, u)]) ∧ ∀ base : Heap, (K w.params).In base → base.Ns mainGlobals mg → FnZ l.prog w (K w.params) mg base k fa fd [x] spLaw) :
    PySem.W.WalkO q loose XP YP l.row.toRowW d [] (fun f vs => PySem.call f vs) := by
  refine Att.attach_call hn hdf fun w s₀ s1 mg mb fa o pm cd doc a vs ns G Y ho hd hcd hmg hobj hints hlen hg => ?_
  have KX := hY w _ Y
  obtain ⟨fd, hb, hF⟩ := F w mg fa _ KX G.T.g hmg
  have rv := vals_ints hints
  have lenV := hints.length
  have run := fun H => law_from (H := H) (ns := ns) KX G.T.g G.T.b G.T.builtins G.T.nolimit hg hobj hlen hr hF hb
  cases hk : (K w.params).lookup a with
  | some ob =>
    have e := KX a ob hk
    rw [hobj] at e
    cases e
    refine run (fun _ => none) (fun _ => .inl rfl) (.inr ⟨_, vs.toArray, _, hk, rfl, rfl, rfl, ?_, by simpa using rv⟩) (fun b u z => by cases (show (none : Option HO) = some u from z)) (fun b z => absurd rfl z) (fun z => absurd rfl z)
    rw [List.size_toArray, lenV, sizeLine_eq]
    omega
  | none =>
    have self : ∀ b, b = a → (if b = a then some (HO.frz { cls := .type "list", data := .seq vs.toArray } (.lst (ns.map V.int))) else none) = some (.frz { cls := .type "list", data := .seq vs.toArray } (.lst (ns.map V.int))) := fun b e => if_pos e
    have other : ∀ b, b ≠ a → (if b = a then some (HO.frz { cls := .type "list", data := .seq vs.toArray } (.lst (ns.map V.int))) else none) = none := fun b e => if_neg e
    refine run (fun b => if b = a then some (.frz { cls := .type "list", data := .seq vs.toArray } (.lst (ns.map V.int))) else none) (fun b => ?_) (.inl (.inr ⟨_, self a rfl⟩)) (fun b u z => ?_) (fun b z => ?_) (fun _ => hk)
    · by_cases e : b = a
      · exact .inr ⟨_, _, self b e⟩
      · exact .inl (other b e)
    · by_cases e : b = a
      · have z' := (self b e).symm.trans z
        cases z'
        subst e
        refine ⟨hobj, ?_, vs, _, rv, hobj⟩
        rw [List.length_map, sizeLine_eq]
        omega
      · have z' := (other b e).symm.trans z
        cases z'
    · by_cases e : b = a
      · exact e
      · exact absurd (other b e) z
end Z

set_option Elab.async false
set_option linter.all false
set_option maxRecDepth 100000
set_option maxHeartbeats 4000000
namespace Z
open PySem L2 PySem.Spec PyProof.Rows

theorem hrU {k : Nat} {A : Around} (r : Room k A) : A.units + 64 < cLine := by have := r.un; omega
theorem hrV {k : Nat} {A : Around} (r : Room k A) : A.units + 66 < cLine := by have := r.un; omega

/-! ### + and * -/
def rdAdd : R2D := fun d e M F => match d, e with
  | .int i, .int j => F (.int (i + j)) M
  | .str x, .str y => decide (x.length + y.length ≤ 16777216) = true ∧ F (.str (x ++ y)) M
  | _, _ => False
theorem simAdd {K : PySem.W.Frag} : SimOp K (fun x y H Q => rI0 (fun i j => .int (i + j)) x y H Q ∨ (∃ i j, x = .str i ∧ y = .str j ∧ i.length + j.length ≤ sizeLine ∧ Q (.str (i ++ j)) H)) rdAdd := fun x y d e H M F Q rx ry mu h k => by
  unfold rdAdd at h
  split at h
  · cases rx; cases ry
    exact .inl ⟨_, _, rfl, rfl, k _ _ _ _ .refl mu (.int _) h⟩
  · cases rx; cases ry
    exact .inr ⟨_, _, rfl, rfl, szl h.1, k _ _ _ _ .refl mu (.str _) h.2⟩
  · exact h.elim
def rdMul : R2D := fun d e M F => match d, e with
  | .int i, .int j => MulOk i j ∧ F (.int (i * j)) M
  | _, _ => False
theorem simMul {K : PySem.W.Frag} : SimOp K (rI MulOk fun i j => .int (i * j)) rdMul := fun x y d e H M F Q rx ry mu h k => by
  unfold rdMul at h
  split at h
  · cases rx; cases ry
    exact ⟨_, _, rfl, rfl, h.1, k _ _ _ _ .refl mu (.int _) h.2⟩
  · exact h.elim
section
variable {X : Cx} {a b e : Expr} {es : List Expr} {ta tb te : TED} {ts : TAD} {pos p p2 : Pos}
theorem pd_addA (ha : PD X a ta) (hb : PD X b tb) : PD X (.BinOp a .Add b pos) (tOpD rdAdd ta tb) := pd_op (fun _ _ => OpR.or op_add op_add_str) simAdd ha hb
theorem pd_mulA (ha : PD X a ta) (hb : PD X b tb) : PD X (.BinOp a .Mult b pos) (tOpD rdMul ta tb) := pd_op (fun _ _ => op_mulZ) simMul ha hb
theorem mulOk_l {i j : Int} (h : -18446744073709551616 < i ∧ i < 18446744073709551616) : MulOk i j := .inl (.inl h)
theorem mulOk_r {i j : Int} (h : -18446744073709551616 < j ∧ j < 18446744073709551616) : MulOk i j := .inl (.inr h)

/-! ### arguments whose number is known -/
def upAn (K : PySem.W.Frag) (n : Nat) (H0 : Hp) (M0 : MH) (W : WD) (t : TAD) : TA := fun σ H Q => ∃ τ M F, Good H0 M0 H M ∧ Slots K H M σ τ ∧ Mut K H M ∧ t W τ M F ∧
  ∀ vs H' ds M', Good H M H' M' → Mut K H' M' → Reps K H' M' vs ds → ds.length = n → F ds M' → Q vs H'
def PDN (X : Cx) (es : List Expr) (t : TAD) : Prop := ∀ pn xe H0 M0 W, At X pn xe H0 M0 W → PA (X.tr pn xe) es (upAn X.K es.length H0 M0 W t)
theorem pdn_nil : PDN X [] tNilD := fun pn xe H0 M0 W at_ => imA pa_nil fun σ H Q ⟨τ, M, F, g0, sl, mu, h, k⟩ => k [] H [] M .refl mu .nil rfl h
theorem pdn_cons (ha : PD X e te) (hr : PDN X es ts) (hs : starEach (e :: es) X.env = (false, eval e X.env) :: starEach es X.env := by rfl) : PDN X (e :: es) (tConsD te ts) := fun pn xe H0 M0 W at_ =>
  imA (pa_cons (X := X.tr pn xe) (ha pn xe H0 M0 W at_) (hr pn xe H0 M0 W at_) hs) fun σ H Q ⟨τ, M, F, g0, sl, mu, h, k⟩ =>
    upE_fin g0 sl mu h fun x H1 d M1 g1 mu1 r1 h1 => ⟨τ, M1, _, g0.trans g1, sl.good g1, mu1, h1, fun xs H2 ds M2 g2 mu2 r2 l2 h2 => k (x :: xs) H2 (d :: ds) M2 (g1.trans g2) mu2 (.cons (r1.good g2) r2) (by simp [l2]) h2⟩
theorem pdi_rng1 {tg : Expr} {ta : TAD} (hm : X.mg "range" = none) (ha : PDN X [a] ta) (hg : Gl X "range" := by rfl) (hs : starEach [a] X.env = [(false, eval a X.env)] := by rfl) : PDI X tg (.Call (.Name "range" p) [a] [] pos) (iRngD ta) := fun pn xe H0 M0 W at_ =>
  imI (pi_range1 (X := X.tr pn xe) hg hm (ha pn xe H0 M0 W at_) hs) fun σ H R ⟨τ, M, F, g0, sl, mu, h, k⟩ => ⟨τ, M, _, g0, sl, mu, h, fun vs H1 ds M1 g1 mu1 r l q => by
    cases r with
    | nil => cases l
    | cons r rs =>
      cases rs with
      | cons _ _ => simp at l
      | nil =>
        split at q
        · rename_i n e
          cases e
          cases r
          exact ⟨n, rfl, by omega, by omega, k _ H1 _ M1 g1 mu1 itr_rel q.2⟩
        · rename_i e; cases e
        · exact q.elim⟩
theorem pdi_rng2 {tg : Expr} {ta : TAD} (hm : X.mg "range" = none) (ha : PDN X [a, b] ta) (hg : Gl X "range" := by rfl) (hs : starEach [a, b] X.env = [(false, eval a X.env), (false, eval b X.env)] := by rfl) (hs2 : starEach [b] X.env = [(false, eval b X.env)] := by rfl) : PDI X tg (.Call (.Name "range" p) [a, b] [] pos) (iRngD ta) := fun pn xe H0 M0 W at_ =>
  imI (pi_range2 (X := X.tr pn xe) hg hm (ha pn xe H0 M0 W at_) hs hs2) fun σ H R ⟨τ, M, F, g0, sl, mu, h, k⟩ => ⟨τ, M, _, g0, sl, mu, h, fun vs H1 ds M1 g1 mu1 r l q => by
    split at q
    · simp at l
    · cases r with
      | cons r rs =>
        cases rs with
        | cons r' rs' =>
          cases rs'
          cases r
          cases r'
          exact ⟨_, _, rfl, ⟨by omega, by omega, by omega, by omega⟩, k _ H1 _ M1 g1 mu1 itr_rel q.2⟩
    · exact q.elim⟩

/-! ### calls by keywords, calls without arguments, of defs that ask that no repr is under way -/
def PDKn (X : Cx) (es : List Keyword) (t : TAD) : Prop := ∀ pn xe H0 M0 W, At X pn xe H0 M0 W → PK (X.tr pn xe) es (upAn X.K es.length H0 M0 W t)
theorem pdkn_nil : PDKn X [] tNilD := fun pn xe H0 M0 W at_ => imK pk_nil fun σ H Q ⟨τ, M, F, g0, sl, mu, h, k⟩ => k [] H [] M .refl mu .nil rfl h
theorem pdkn_cons {kws : List Keyword} {nm : Option Str} {kpos : Pos} (ha : PD X e te) (hr : PDKn X kws ts) : PDKn X (⟨nm, e, kpos⟩ :: kws) (tConsD te ts) := fun pn xe H0 M0 W at_ =>
  imK (pk_cons (ha pn xe H0 M0 W at_) (hr pn xe H0 M0 W at_)) fun σ H Q ⟨τ, M, F, g0, sl, mu, h, k⟩ =>
    upE_fin g0 sl mu h fun x H1 d M1 g1 mu1 r1 h1 => ⟨τ, M1, _, g0.trans g1, sl.good g1, mu1, h1, fun xs H2 ds M2 g2 mu2 r2 l2 h2 => k (x :: xs) H2 (d :: ds) M2 (g1.trans g2) mu2 (.cons (r1.good g2) r2) (by simp [l2]) h2⟩
variable {k : Nat} {f : Addr} {fd : FuncData} {ps ks : List Str} {sp : SpD} {x : Str} {kws : List Keyword} {ta' : TAD} {ix : List Nat}
theorem pd_callKZ (F : FnZ X.prog X.w X.K X.mg X.base k f fd ps sp) (hr : Room k X.A) (hgd : X.A.guards = some []) (hm : X.mg x = some (.ref f)) (hk : PySem.W.keepIn X.K (.ref f) = true) (hb : KwB X.K fd ps ks ix)
    (ha : PDKn X kws ta') (hl : kws.length = ks.length) (hg : Gl X x := by rfl) (hdb : (x == ("__debug__" : Str)) = false := by decide) (hall : (backToKw pos (keywordEach kws X.env)).all (·.1.isSome) = true := by rfl)
    (hks : (backToKw pos (keywordEach kws X.env)).filterMap (·.1) = ks := by rfl) (hpl : ((backTo pos (starEach [] X.env)).any (·.1) || (backToKw pos (keywordEach kws X.env)).any (·.1.isNone)) = false := by rfl) :
    PD X (.Call (.Name x p) [] kws pos) (tCallKD sp ix ta') := fun pn xe H0 M0 W at_ => by
  refine ⟨fun pins s σ H Q I ⟨τ, M, G, g0, sl, mu, h, k⟩ => ?_⟩
  refine wpAny_Call_Name_kw (ld_glob I hg hm ?_ hdb)
  refine PySem.W.callWith_KW0 (h₀ := X.base) I.ok.mod.kin hk hall (thn ((ha pn xe H0 M0 W at_).run pos pins s σ H (fun zs H1 => zs.length = kws.length ∧ spOf X.K sp (permL ix zs) H1 Q (WE (liftW X.K H0 M0 W) σ)) I ?_) fun ws s1 ⟨zs, H1, I1, r, hzl, q⟩ => ⟨I1.kIn, ?_⟩) hpl
  · exact ⟨τ, M, _, g0, sl, mu, h, fun vs H1 ds M1 g1 mu1 r1 h2 h1 => ⟨by rw [r1.length, h2], sp_of_call (X := X) g0 sl k g1 mu1 (r1.perm ix) h1⟩⟩
  · rw [hks]
    have hx := passAt at_.tk σ
    refine wpAny_call (codeAny_mono (F.run X.A X.stack s1 H1 ⟨[], ks.zip ws⟩ (permL ix ws) (permL ix zs) Q (WE (liftW X.K H0 M0 W) σ) hr hgd I1.env0 (BindsTo.of_eq (hb ws (by rw [← r.length, hzl, hl]))) (vals_perm r ix) q) fun r s' hq => ?_)
    cases r with
    | error e => exact hx pins H1 s1 e s' I1 hq
    | ok fl =>
      cases fl with
      | ret u => exact I1.after hq
      | next => exact False.elim hq
      | brk => exact False.elim hq
      | cont => exact False.elim hq
end

/-! ### dict displays -/
section
variable {X : Cx} {e : Expr} {te : TED} {pos p : Pos}
theorem good_newT {H : Hp} {M : MH} {p : Addr} {o : HO} (hp : H p = none) : Good H M (upd H p o) M := good_new hp
theorem pd_dict0 : PD X (.Dict [] [] pos) (tCD (.dct [])) := fun pn xe H0 M0 W at_ =>
  imE pe_dnewK fun σ H Q ⟨τ, M, F, g0, sl, mu, h, k⟩ p hp => k _ _ _ M (good_new hp) (mut_new mu hp) (.dct (mut_none mu hp) upd_same .nil) h
abbrev TPD := WD → EnvD → MH → (List (Key × D) → MH → Prop) → Prop
def tNilP : TPD := fun _ _ M Q => Q [] M
def tConsP (k : Key) (t : TED) (tr : TPD) : TPD := fun W τ M Q => t W τ M fun d M1 => tr W τ M1 fun ps M2 => Q ((k, d) :: ps) M2
/-- the pairs of a display: keys are constants -/
def PDP (X : Cx) (pos : Pos) (keys : List (Option Expr)) (values : List Expr) (t : TPD) : Prop := ∀ pn xe H0 M0 W, At X pn xe H0 M0 W → ∃ trs, PPs (X.tr pn xe) pos keys values trs ∧
  ∀ σ H Q, (∃ τ M F, Good H0 M0 H M ∧ Slots X.K H M σ τ ∧ Mut X.K H M ∧ t W τ M F ∧ ∀ ps H' ds M', Good H M H' M' → Mut X.K H' M' → RepK X.K H' M' ps ds → ds.length = keys.length → F ds M' → Q (ps.map fun kv => (kV kv.1, kv.2)) H') → tPairs trs σ H Q
theorem pdps_nil : PDP X pos [] [] tNilP := fun pn xe H0 M0 W at_ => ⟨[], pps_nil, fun σ H Q ⟨τ, M, F, g0, sl, mu, h, k⟩ => k [] H [] M .refl mu .nil rfl h⟩
theorem pdps_cons {k : Key} {ke : Expr} {ks : List (Option Expr)} {es : List Expr} {tr : TPD} (hk : ∀ pn xe, PE (X.tr pn xe) ke (tC (kV k))) (he : PD X e te) (hr : PDP X pos ks es tr) : PDP X pos (some ke :: ks) (e :: es) (tConsP k te tr) := fun pn xe H0 M0 W at_ => by
  obtain ⟨trs, h1, h2⟩ := hr pn xe H0 M0 W at_
  refine ⟨_, pps_cons (hk pn xe) (he pn xe H0 M0 W at_) h1, fun σ H Q ⟨τ, M, F, g0, sl, mu, h, k⟩ => ?_⟩
  refine upE_fin g0 sl mu h fun x H1 d M1 g1 mu1 r1 q1 => h2 σ H1 _ ⟨τ, M1, _, g0.trans g1, sl.good g1, mu1, q1, fun ps H2 ds M2 g2 mu2 r2 l2 q2 => ?_⟩
  exact k ((_, x) :: ps) H2 ((_, d) :: ds) M2 (g1.trans g2) mu2 (.cons (r1.good g2) r2) (by simp [l2]) q2
def putKD (kvs : List (Key × D)) (k : Key) (d : D) : List (Key × D) :=
  if (kvs.any fun kv => decide (kv.1 = k)) = true then kvs.map (fun kv => if kv.1 = k then (kv.1, d) else kv) else kvs ++ [(k, d)]
def mergeKD (kvs more : List (Key × D)) : List (Key × D) := more.foldl (fun acc kv => putKD acc kv.1 kv.2) kvs
theorem RepK.length {K : PySem.W.Frag} {H : Hp} {M : MH} : ∀ {vs : List (Key × V)} {ds : List (Key × D)}, RepK K H M vs ds → vs.length = ds.length
  | _, _, .nil => rfl
  | _, _, .cons _ t => by simp [RepK.length t]
theorem repK_any {K : PySem.W.Frag} {H : Hp} {M : MH} {k : Key} : ∀ {vs : List (Key × V)} {ds : List (Key × D)}, RepK K H M vs ds → (vs.any fun kv => decide (kv.1 = k)) = (ds.any fun kv => decide (kv.1 = k))
  | _, _, .nil => rfl
  | _, _, .cons r t => by rw [List.any_cons, List.any_cons, repK_any t]
theorem repK_app {K : PySem.W.Frag} {H : Hp} {M : MH} {es : List (Key × V)} {fs : List (Key × D)} (q : RepK K H M es fs) : ∀ {vs : List (Key × V)} {ds : List (Key × D)}, RepK K H M vs ds → RepK K H M (vs ++ es) (ds ++ fs)
  | _, _, .nil => q
  | _, _, .cons r t => .cons r (repK_app q t)
theorem repK_map {K : PySem.W.Frag} {H : Hp} {M : MH} {k : Key} {v : V} {d : D} (r : Rep K H M v d) : ∀ {vs : List (Key × V)} {ds : List (Key × D)}, RepK K H M vs ds → RepK K H M (vs.map (fun kv => if kv.1 = k then (kv.1, v) else kv)) (ds.map (fun kv => if kv.1 = k then (kv.1, d) else kv))
  | _, _, .nil => .nil
  | _, _, .cons (k := k') r' t => by
    rw [List.map_cons, List.map_cons]
    dsimp only
    split
    · exact .cons r (repK_map r t)
    · exact .cons r' (repK_map r t)
theorem repK_put {K : PySem.W.Frag} {H : Hp} {M : MH} {k : Key} {v : V} {d : D} (r : Rep K H M v d) {vs : List (Key × V)} {ds : List (Key × D)} (q : RepK K H M vs ds) : RepK K H M (putK vs k v) (putKD ds k d) := by
  unfold putK putKD
  rw [repK_any q]
  split
  · exact repK_map r q
  · exact repK_app (.cons r .nil) q
theorem repK_merge {K : PySem.W.Frag} {H : Hp} {M : MH} : ∀ {more : List (Key × V)} {md : List (Key × D)}, RepK K H M more md → ∀ {vs : List (Key × V)} {ds : List (Key × D)}, RepK K H M vs ds → RepK K H M (mergeK vs more) (mergeKD ds md)
  | _, _, .nil, _, _, q => q
  | _, _, .cons r t, vs, ds, q => by
    show RepK K H M (mergeK (putK vs _ _) _) (mergeKD (putKD ds _ _) _)
    exact repK_merge t (repK_put r q)
def tDictD (t : TPD) : TED := fun W τ M Q => ∀ p, M p = none → t W τ (mput M p (.dct [])) fun ds M1 => M1 p = some (.dct []) ∧ Q (.dct (mergeKD [] ds)) (mdel M1 p)
theorem pd_dict {keys : List (Option Expr)} {values : List Expr} {t : TPD} (h : PDP X pos keys values t) (hall : keys.all (·.isSome) = true := by rfl) (hl : keys.length = values.length := by rfl) (h0 : keys ≠ [] := by simp) (h15 : keys.length ≤ 15 := by decide) : PD X (.Dict keys values pos) (tDictD t) := fun pn xe H0 M0 W at_ => by
  obtain ⟨trs, h1, h2⟩ := h pn xe H0 M0 W at_
  refine imE (pe_disp h1 hall hl h0 h15) fun σ H Q ⟨τ, M, F, g0, sl, mu, hh, k⟩ p hp => h2 σ _ _ ?_
  refine ⟨τ, mput M p (.dct []), _, g0.trans (good_put hp), sl.good (good_put hp), mut_put mu hp (.dct .nil), hh p (mut_none mu hp), fun ps H2 ds M2 g2 mu2 r2 l2 ⟨q1, q2⟩ => ?_⟩
  obtain ⟨ho, e, rm⟩ := mu2 _ _ q1
  cases rm with
  | dct rk =>
    cases rk
    refine ⟨e, ps, rfl, by rw [r2.length, l2]; exact h15, ?_⟩
    have gw : Good H2 M2 (upd H2 p (.dK (mergeK [] ps))) (mdel M2 p) := fun a u he hm => by
      have n : a ≠ p := fun z => by rw [z, q1] at hm; cases hm
      exact ⟨by rw [upd_ne n]; exact he, by rw [mdel_ne n]; exact hm⟩
    have mw : Mut X.K (upd H2 p (.dK (mergeK [] ps))) (mdel M2 p) := fun a mo ea => by
      by_cases n : a = p
      · subst n; rw [mdel_same] at ea; cases ea
      · rw [mdel_ne n] at ea
        obtain ⟨ho, e1, r⟩ := mu2 a mo ea
        exact ⟨ho, by rw [upd_ne n]; exact e1, r.good gw⟩
    exact k _ _ _ _ (((good_put hp).trans g2).trans gw) mw (.dct mdel_same upd_same (repK_merge (r2.good gw) .nil)) q2

/-! ### comprehensions: targets of names alone; given to a name -/
def gTupT (n : Nat) (t : TGsD) : TGD := fun d τ M N => match d with | .tup xs => xs.length = n ∧ t xs τ M N | _ => False
theorem tgt_tupT {K : PySem.W.Frag} {vs : List Nat} {gs : TGs} {gds : TGsD} {n : Nat} (h1 : TgtsOk K gs gds vs) : TgtOk K (gTup K n gs) (gTupT n gds) vs := tgt_tup h1
theorem lc_sim {X : Cx} {iter : Expr} {pn : List (Addr × Obj)} {xe : Value → Shared → Prop} {H0 : Hp} {M0 : MH} {W : WD} {own : List (Str × Nat)} {ti : TAD} {g : TG} {gd : TGD} {tt : TTD} {te : TED} (hgd : TgtOk X.K g gd (own.map (·.2)))
    {σ : L2.St} {H : Hp} {Q : VK} (h : upE X.K H0 M0 W (tLcD ti gd tt te (own.map (·.2))) σ H Q) : tLc (upI X.K H0 M0 W ti) g (upT X.K H0 M0 noW tt) (upE X.K H0 M0 noW te) (own.map (·.2)) σ H Q := by
  obtain ⟨τ, M, F, g0, sl, mu, h, k⟩ := h
  exact ⟨τ, M, _, g0, sl, mu, h, fun J H1 xs M1 g1 mu1 it q => by
    intro p hp
    obtain ⟨Iv, i0, step, done⟩ := q p (mut_none mu1 hp)
    refine ⟨fun i m H2 => m = xs.length - i ∧ i ≤ xs.length ∧ ∃ M2, Good H1 M1 H2 M2 ∧ Mut X.K H2 M2 ∧ Iv i M2, ⟨_, rfl, Nat.zero_le _, mput M1 p (.lst []), good_put hp, mut_put mu1 hp (.lst .nil), i0⟩, ?_⟩
    rintro i m H2 ⟨rfl, hi, M2, g2, mu2, iv⟩
    obtain ⟨go, stop⟩ := it H2 M2 g2 mu2
    by_cases hlt : i < xs.length
    · obtain ⟨go1, yl⟩ := go i xs[i] (by simp [hlt])
      refine .inr ⟨go1, fun H4 => ∃ M4, Good H1 M1 H4 M4 ∧ Mut X.K H4 M4 ∧ Iv (i + 1) M4, fun H' w => ⟨xs.length - (i + 1), by omega, rfl, hlt, w⟩, fun x H3 y => ?_⟩
      obtain ⟨g3, mu3, rx⟩ := yl x H3 y
      have gg := g1.trans (g2.trans g3)
      refine hgd _ _ _ _ H3 M2 _ _ rx (slots_wipe (sl.good gg) _) (step i xs[i] M2 (by simp [hlt]) iv) fun σ4 τ4 sl4 w4 n => ⟨w4.trans (wipe_sub fun _ h => h), τ4, M2, _, g0.trans gg, sl4, mu3, n, fun b H5 M5 g5 mu5 nb => ?_⟩
      cases b with
      | false =>
        rw [if_neg Bool.false_ne_true]
        exact ⟨M5, (g2.trans g3).trans g5, mu5, nb.2 rfl⟩
      | true =>
        rw [if_pos rfl]
        refine ⟨τ4, M5, _, (g0.trans gg).trans g5, sl4.good g5, mu5, nb.1 rfl, fun v H6 d M6 g6 mu6 r6 n6 => ?_⟩
        split at n6
        · rename_i acc ea
          obtain ⟨ho, e, rm⟩ := mu6 _ _ ea
          cases rm with
          | lst rs => exact ⟨_, e, by rw [rs.length, sizeLine_eq]; exact n6.1, mput M6 p (.lst (acc ++ [d])), (((g2.trans g3).trans g5).trans g6).trans (good_write ea), mut_write mu6 ea (.lst (rs.append (.cons r6 .nil))), n6.2⟩
        · exact n6.elim
    · have e : i = xs.length := by omega
      subst e
      have dn := done M2 iv
      split at dn
      · rename_i acc ea
        obtain ⟨ho, e, rm⟩ := mu2 _ _ ea
        cases rm with
        | lst rs => exact .inl ⟨stop, k _ H2 _ _ ((g1.trans g2).trans good_del) (mut_del mu2) (.lst (.inl ⟨mdel_same, .inl e⟩) (rs.good good_del)) dn⟩
      · exact dn.elim⟩
theorem pds_setLc {i : Nat} {y : Str} {py spos : Pos} {elt tg iter : Expr} {ifs : List Expr} {scope : Scope} {own : List (Str × Nat)} {ti : TAD} {g : TG} {gd : TGD} {tt : TTD} {te : TED} (hN : X.N.Nodup) (hy : X.N[i]? = some y) (hyl : X.env.scope.names.lookup y = some .local) (hc : X.calm = true)
    (hsw : swapsWith (.ListComp elt [⟨tg, iter, ifs, 0⟩] scope pos) (some (.Name y py)) spos.line X.env = pure true) (hi : PDI X tg iter ti) (ok : BlkOk X.N X.env.scope scope own)
    (hg : ∀ (s : Shared) (H : Hp) (C : Addr) (cl : List (Str × Addr)) (fp : List Addr), PG (X.blk s H scope (compEnvC scope cl C X.env) fp) tg g) (hgd : TgtOk X.K g gd (own.map (·.2)))
    (ht : ∀ (s : Shared) (H : Hp) (C : Addr) (cl : List (Str × Addr)) (fp : List Addr), PDTs (X.blk s H scope (compEnvC scope cl C X.env) fp) ifs tt)
    (he : ∀ (s : Shared) (H : Hp) (C : Addr) (cl : List (Str × Addr)) (fp : List Addr), PD (X.blk s H scope (compEnvC scope cl C X.env) fp) elt te) (hs : ∀ x, foldedSetIterable iter X.env x = pure x := by intro _; rfl) :
    PDS X (.Assign [.Name y py] (.ListComp elt [⟨tg, iter, ifs, 0⟩] scope pos) spos) (tSetD i (tLcD ti gd tt te (own.map (·.2)))) := fun pn xe H0 M0 W at_ =>
  imS (ps_setLc (X := X.tr pn xe) (te := upE X.K H0 M0 noW te) (tt := upT X.K H0 M0 noW tt) (i := i) hc hN hy hyl hsw (hi pn xe H0 M0 W at_) ok hg (fun s H C cl fp => ht s H C cl fp H0 M0) (fun s H C cl fp => he s H C cl fp [] _ H0 M0 noW at_no) hs) fun D σ H ⟨τ, M, F, g0, sl, mu, h, k1, k2, k3, k4⟩ =>
    lc_sim (X := X) (iter := iter) (pn := pn) (xe := xe) hgd (upE_fin g0 sl mu h fun v H1 d M1 g1 mu1 r1 q => k1 _ H1 ⟨setN τ i (some d), M1, g1, by rw [setN_eq]; exact (sl.good g1).set r1, mu1, q⟩)
end
end Z

set_option Elab.async false
set_option linter.all false
set_option maxRecDepth 100000
set_option maxHeartbeats 4000000
namespace Z
open PySem L2

/-! ### one step of a reading -/
section
variable {W : WD} {τ : EnvD} {M M1 : MH} {Q : QD} {QT : Bool → MH → Prop} {QA : List D → MH → Prop} {N : EnvD → MH → Prop} {F : EndsD} {t u : TSD} {c c' : TTD} {te ta tb : TED} {tr : TAD} {i j : Int} {n : Nat} {d e : D} {b : Bool}
theorem w_seq (h : t W { F with nx := fun τ' M' => u W F τ' M' } τ M) : tSeqD t u W F τ M := h
theorem w_next (h : F.nx τ M) : tNextD W F τ M := h
theorem w_drop (h : te W τ M fun _ M1 => F.nx τ M1) : tDropD te W F τ M := h
theorem w_ret (h : te W τ M F.rt) : tRetD te W F τ M := h
theorem w_retN (h : F.rt .non M) : tRetN W F τ M := h
theorem w_if (h : c W τ M fun b M1 => (b = true → t W F τ M1) ∧ (b = false → u W F τ M1)) : tIfD c t u W F τ M := h
theorem w_set (h : te W τ M fun d M1 => F.nx (setN τ n (some d)) M1) : tSetD n te W F τ M := h
theorem w_cont (h : F.ct τ M) : tContD W F τ M := h
theorem w_brk (h : F.bk τ M) : tBrkD W F τ M := h
theorem w_var (h : getN τ n = some d) (q : Q d M) : tVarD n W τ M Q := by unfold tVarD; rw [h]; exact q
theorem w_c (q : Q d M) : tCD d W τ M Q := q
theorem w_op {r : R2D} (h : ta W τ M fun x M1 => tb W τ M1 fun y M2 => r x y M2 Q) : tOpD r ta tb W τ M Q := h
theorem w_un {r : D → MH → QD → Prop} (h : ta W τ M fun x M1 => r x M1 Q) : tUnD r ta W τ M Q := h
theorem w_nil (h : QA [] M) : tNilD W τ M QA := h
theorem w_cons (h : ta W τ M fun x M1 => tr W τ M1 fun xs M2 => QA (x :: xs) M2) : tConsD ta tr W τ M QA := h
theorem w_cb {r : RCD} (h : tr W τ M fun ds M1 => r ds M1 Q) : tCBD r tr W τ M Q := h
theorem w_tup (h : tr W τ M fun ds M1 => decide (ds.length ≤ 16777216) = true ∧ Q (.tup ds) M1) : tTupD tr W τ M Q := h
theorem w_lst (h : tr W τ M fun ds M1 => decide (ds.length ≤ 16777216) = true ∧ Q (.lst ds) M1) : tLstD tr W τ M Q := h
theorem w_lstM (h : tr W τ M fun ds M1 => decide (ds.length ≤ 16777216) = true ∧ ∀ p, M1 p = none → Q (.ref p) (mput M1 p (.lst ds))) : tLstM tr W τ M Q := h
theorem w_small {ds : List D} {P : Prop} (h1 : ds.length ≤ 16777216) (h : P) : decide (ds.length ≤ 16777216) = true ∧ P := ⟨decide_eq_true h1, h⟩
theorem w_testB (h : te W τ M fun d M1 => match d with | .bl b => QT b M1 | _ => False) : tTestB te W τ M QT := h
theorem w_andD (h : c W τ M fun b M1 => (b = true → c' W τ M1 QT) ∧ (b = false → QT false M1)) : tAndD c c' W τ M QT := h
theorem w_orD (h : c W τ M fun b M1 => (b = true → QT true M1) ∧ (b = false → c' W τ M1 QT)) : tOrD c c' W τ M QT := h
theorem w_notD (h : c W τ M fun b M1 => QT (!b) M1) : tNotD c W τ M QT := h
theorem w_andE (h : ta W τ M fun d M1 => match d with | .bl b => (b = true → tb W τ M1 Q) ∧ (b = false → Q (.bl false) M1) | _ => False) : tAndE ta tb W τ M Q := h
theorem w_orE (h : ta W τ M fun d M1 => match d with | .bl b => (b = true → Q (.bl true) M1) ∧ (b = false → tb W τ M1 Q) | _ => False) : tOrE ta tb W τ M Q := h
theorem w_notE (h : ta W τ M fun d M1 => match d with | .bl b => Q (.bl (!b)) M1 | _ => False) : tNotE ta W τ M Q := h
theorem w_ifE (h : c W τ M fun b M1 => (b = true → ta W τ M1 Q) ∧ (b = false → tb W τ M1 Q)) : tIfE c ta tb W τ M Q := h
theorem w_tru (h : te W τ M fun d M1 => match truthD d M1 with | some b => QT b M1 | none => False) : tTruD te W τ M QT := h
theorem w_truth (h1 : truthD d M = some b) (h : QT b M) : (match (generalizing := false) truthD d M with | some b => QT b M | none => False) := by rw [h1]; exact h
theorem w_call {sp : SpD} (h : tr W τ M fun ds M1 => sp ds M1 Q (fun C fs M' => W C fs τ M')) : tCallD sp tr W τ M Q := h
theorem w_callK {sp : SpD} {ix : List Nat} (h : tr W τ M fun ds M1 => sp (permL ix ds) M1 Q (fun C fs M' => W C fs τ M')) : tCallKD sp ix tr W τ M Q := h
theorem w_rdI {g : Int → Int → Int} (h : Q (.int (g i j)) M) : rdI g (.int i) (.int j) M Q := h
theorem w_rdIC {C : Int → Int → Prop} {g : Int → Int → Int} (hc : C i j) (h : Q (.int (g i j)) M) : rdIC C g (.int i) (.int j) M Q := ⟨hc, h⟩
theorem w_rdB {g : Int → Int → Bool} (h : Q (.bl (g i j)) M) : rdB g (.int i) (.int j) M Q := h
theorem w_rdAdd (h : Q (.int (i + j)) M) : rdAdd (.int i) (.int j) M Q := h
theorem w_rdMul (hc : MulOk i j) (h : Q (.int (i * j)) M) : rdMul (.int i) (.int j) M Q := ⟨hc, h⟩
theorem w_neg (h : Q (.int (-i)) M) : rdNeg (.int i) M Q := h
theorem w_isN (h : te W τ M fun d M1 => Q (.bl (isNonD d)) M1) : tIsND te W τ M Q := h
theorem w_notN (h : te W τ M fun d M1 => Q (.bl (!isNonD d)) M1) : tNotND te W τ M Q := h
theorem w_eq (h1 : eqD d e = some b) (h : Q (.bl b) M) : rdEq d e M Q := by unfold rdEq; rw [h1]; exact h
theorem w_ne (h1 : eqD d e = some b) (h : Q (.bl (!b)) M) : rdNe d e M Q := by unfold rdNe; rw [h1]; exact h
theorem w_ixR {a : Addr} {xs : List D} {x : D} (h1 : M a = some (.lst xs)) (h2 : atI xs i = some x) (h : Q x M) : rdIx (.ref a) (.int i) M Q := by unfold rdIx; simp only [h1, h2]; exact h
theorem w_ixL {xs : List D} {x : D} (h2 : atI xs i = some x) (h : Q x M) : rdIx (.lst xs) (.int i) M Q := by unfold rdIx; simp only [h2]; exact h
theorem w_ixT {xs : List D} {x : D} (h2 : atI xs i = some x) (h : Q x M) : rdIx (.tup xs) (.int i) M Q := by unfold rdIx; simp only [h2]; exact h
theorem w_lenL {xs : List D} (h : Q (.int xs.length) M) : rdLen [.lst xs] M Q := h
theorem w_lenT {xs : List D} (h : Q (.int xs.length) M) : rdLen [.tup xs] M Q := h
theorem w_abs (h : Q (.int (if i < 0 then -i else i)) M) : rdAbs [.int i] M Q := h
theorem w_int (h : Q (.int i) M) : rdInt [.int i] M Q := h
theorem w_intB (h : Q (.int (if b then 1 else 0)) M) : rdInt [.bl b] M Q := h
theorem w_gcd (h : Q (.int ((Nat.gcd i.natAbs j.natAbs : Nat) : Int)) M) : rdGcd [.int i, .int j] M Q := h
theorem w_asg {g : TGD} (h : te W τ M fun d M1 => g d τ M1 F.nx) : tAsgD te g W F τ M := h
theorem w_gname (h : N (setN τ n (some d)) M) : gNameD n d τ M N := h
theorem w_gtup {m : Nat} {g : TGsD} {xs : List D} (h1 : seqD d = some xs) (h2 : xs.length = m) (h : g xs τ M N) : gTupD m g d τ M N := by unfold gTupD; rw [h1]; exact ⟨h2, h⟩
theorem w_gtupT {m : Nat} {g : TGsD} {xs : List D} (h2 : xs.length = m) (h : g xs τ M N) : gTupT m g (.tup xs) τ M N := ⟨h2, h⟩
theorem w_gnil (h : N τ M) : gNilD [] τ M N := h
theorem w_gcons {g : TGD} {gs : TGsD} {ds : List D} (h : g d τ M fun τ' M' => gs ds τ' M' N) : gConsD g gs (d :: ds) τ M N := h
theorem w_setIx {to ti : TED} (h : te W τ M fun d M1 => to W τ M1 fun o M2 => ti W τ M2 fun i M3 => match o, i with
  | .ref a, .int k => (match M3 a with | some (.lst xs) => (match ixN xs.length k with | some j => F.nx τ (mput M3 a (.lst (xs.set j d))) | none => False) | _ => False)
  | _, _ => False) : tSetIx te to ti W F τ M := h
theorem w_setIx2 {a : Addr} {xs : List D} {m : Nat} (h1 : M a = some (.lst xs)) (h2 : ixN xs.length i = some m) (h : N τ (mput M a (.lst (xs.set m d)))) : (match (generalizing := false) M a with | some (.lst xs) => (match ixN xs.length i with | some j => N τ (mput M a (.lst (xs.set j d))) | none => False) | _ => False) := by
  simp only [h1, h2]; exact h
theorem w_is {f : D → Option Bool} (h : te W τ M fun d M1 => match f d with | some b => Q (.bl b) M1 | none => False) : tIs f te W τ M Q := h
theorem w_opt {α : Type} {o : Option α} {x : α} {P : α → Prop} (h1 : o = some x) (h : P x) : (match (generalizing := false) o with | some b => P b | none => False) := by rw [h1]; exact h
theorem w_tupOf (h : te W τ M fun d M1 => match seqD d with | some xs => Q (.tup xs) M1 | none => False) : tTupOf te W τ M Q := h
theorem w_par {m k : Nat} (h : tr W τ M fun ds M1 => match ds with | [d, e] => F.nx (setN (setN τ m (some d)) k (some e)) M1 | _ => False) : tParD m k tr W F τ M := h
theorem w_repr (h0 : te W τ M fun d M1 => match toPy d with | some p => okRepr p ∧ Q (.str p.shown) M1 | none => False) : tReprD te W τ M Q := h0
theorem w_sl {tl th : WD → EnvD → MH → (Option Int → MH → Prop) → Prop} (h : te W τ M fun d M1 => tl W τ M1 fun l M2 => th W τ M2 fun u M3 => match d with | .lst xs => Q (.lst (cutD xs l u)) M3 | _ => False) : tSlD te tl th W τ M Q := h
theorem w_part {QO : Option Int → MH → Prop} (h : te W τ M fun d M1 => match d with | .int i => QO (some i) M1 | _ => False) : tPartD te W τ M QO := h
theorem w_noPart {QO : Option Int → MH → Prop} (h : QO none M) : tNoPartD W τ M QO := h
theorem w_dec {p : Prop} [Decidable p] {A B : Prop} (h1 : p → A) (h2 : ¬ p → B) : (decide p = true → A) ∧ (decide p = false → B) := ⟨fun h => h1 (of_decide_eq_true h), fun h => h2 (of_decide_eq_false h)⟩
theorem w_ndec {p : Prop} [Decidable p] {A B : Prop} (h1 : ¬ p → A) (h2 : p → B) : ((!decide p) = true → A) ∧ ((!decide p) = false → B) :=
  ⟨fun h => h1 (by simpa using h), fun h => h2 (by simpa using h)⟩
theorem w_true {A B : Prop} (h : A) : (true = true → A) ∧ (true = false → B) := ⟨fun _ => h, fun h => nomatch h⟩
theorem w_false {A B : Prop} (h : B) : (false = true → A) ∧ (false = false → B) := ⟨fun h => (nomatch h), fun _ => h⟩
theorem w_bool {b : Bool} {A B : Prop} (h1 : b = true → A) (h2 : b = false → B) : (b = true → A) ∧ (b = false → B) := ⟨h1, h2⟩
theorem w_seqI (h : te W τ M fun d M1 => match seqD d with | some xs => QA xs M1 | none => False) : iSeqD te W τ M QA := h
theorem w_rng1 (h : -4611686018427387904 ≤ i ∧ i < 4611686018427387904) (q : QA (upFrom 0 i.toNat) M) : (match ([D.int i] : List D) with
  | [.int n] => (-4611686018427387904 ≤ n ∧ n < 4611686018427387904) ∧ QA (upFrom 0 n.toNat) M
  | [.int a, .int b] => ((-4611686018427387904 ≤ a ∧ a < 4611686018427387904) ∧ -4611686018427387904 ≤ b ∧ b < 4611686018427387904) ∧ QA (upFrom a (b - a).toNat) M
  | _ => False) := ⟨h, q⟩
end
section
variable {W : WD} {τ : EnvD} {M M1 : MH} {Q : QD} {te : TED} {tr : TPD} {QP : List (Key × D) → MH → Prop}
theorem w_nilP (h : QP [] M) : tNilP W τ M QP := h
theorem w_consP {k : Key} (h : te W τ M fun d M1 => tr W τ M1 fun ps M2 => QP ((k, d) :: ps) M2) : tConsP k te tr W τ M QP := h
theorem w_dict (h : ∀ p, M p = none → tr W τ (mput M p (.dct [])) fun ds M1 => M1 p = some (.dct []) ∧ Q (.dct (mergeKD [] ds)) (mdel M1 p)) : tDictD tr W τ M Q := h
theorem w_dictE {p : Addr} {ds : List (Key × D)} (hp : M p = none) (h : Q (.dct (mergeKD [] ds)) M) : mput M p (.dct []) p = some (.dct []) ∧ Q (.dct (mergeKD [] ds)) (mdel (mput M p (.dct [])) p) := ⟨mput_same, by rw [mdel_mput hp]; exact h⟩
theorem w_rng {ta : TAD} {QA : List D → MH → Prop} (h : ta W τ M fun ds M1 => match ds with
  | [.int n] => (-4611686018427387904 ≤ n ∧ n < 4611686018427387904) ∧ QA (upFrom 0 n.toNat) M1
  | [.int a, .int b] => ((-4611686018427387904 ≤ a ∧ a < 4611686018427387904) ∧ -4611686018427387904 ≤ b ∧ b < 4611686018427387904) ∧ QA (upFrom a (b - a).toNat) M1
  | _ => False) : iRngD ta W τ M QA := h
theorem w_for {ti : TAD} {g : TGD} {body : TSD} {F : EndsD} (h : ti W τ M fun xs M1 => ∃ Iv : Nat → EnvD → MH → Prop, Iv 0 τ M1 ∧ (∀ i x τ' M', xs[i]? = some x → Iv i τ' M' → g x τ' M' fun τ2 M2 => body W { F with nx := Iv (i + 1), ct := Iv (i + 1), bk := F.nx } τ2 M2) ∧ (∀ τ' M', Iv xs.length τ' M' → F.nx τ' M')) : tForD ti g body W F τ M := h
theorem w_lc {ti : TAD} {gd : TGD} {tt : TTD} {vs : List Nat} (h : ti W τ M fun xs M1 => tLcD (fun _ _ _ R => R xs M1) gd tt te vs W τ M1 Q) : tLcD ti gd tt te vs W τ M Q := h
end
theorem upFrom_len {lo : Int} {n : Nat} : (upFrom lo n).length = n := by simp [upFrom]
theorem upFrom_mem {lo : Int} {n : Nat} {d : D} (h : d ∈ upFrom lo n) : ∃ i : Nat, i < n ∧ d = .int (lo + i) := by
  obtain ⟨i, hi⟩ := List.getElem?_of_mem h
  exact ⟨i, upFrom_get hi⟩
/-- what is known of 0, 1, .. in lists -/
local macro_rules | `(tactic| walk_at "z at") => `(tactic| first | rfl | (simp only [atI, ixN, List.length_cons, List.length_nil, List.length_map]; rfl) | assumption)
local macro_rules | `(tactic| walk_at "z1") => `(tactic| first
  | with_reducible refine w_seq ?_ | with_reducible refine w_set ?_ | with_reducible refine w_ret ?_ | with_reducible refine w_if ?_ | with_reducible refine w_asg ?_ | with_reducible refine w_next ?_ | with_reducible refine w_setIx ?_ | with_reducible refine w_par ?_
  | ((with_reducible refine' w_var ?h ?_); (case h => exact rfl))
  | with_reducible refine w_c ?_ | with_reducible refine w_op ?_ | with_reducible refine w_un ?_ | with_reducible refine w_cons ?_ | with_reducible refine w_nil ?_ | with_reducible refine w_cb ?_
  | with_reducible refine w_call ?_ | with_reducible refine w_callK ?_ | with_reducible refine w_testB ?_ | with_reducible refine w_tru ?_ | with_reducible refine w_andD ?_ | with_reducible refine w_orD ?_ | with_reducible refine w_notD ?_
  | with_reducible refine w_andE ?_ | with_reducible refine w_orE ?_ | with_reducible refine w_notE ?_ | with_reducible refine w_ifE ?_ | with_reducible refine w_is ?_ | with_reducible refine w_isN ?_ | with_reducible refine w_notN ?_ | with_reducible refine w_tupOf ?_
  | with_reducible refine w_tup ?_ | with_reducible refine w_lst ?_ | with_reducible refine w_lstM ?_ | with_reducible refine w_sl ?_ | with_reducible refine w_part ?_ | with_reducible refine w_noPart ?_ | with_reducible refine w_repr ?_ | with_reducible refine w_seqI ?_
  | with_reducible refine w_rdI ?_ | with_reducible refine w_rdB ?_ | with_reducible refine w_rdAdd ?_ | with_reducible refine w_neg ?_ | with_reducible refine w_lenL ?_ | with_reducible refine w_lenT ?_ | with_reducible refine w_abs ?_ | with_reducible refine w_int ?_ | with_reducible refine w_intB ?_ | with_reducible refine w_gcd ?_
  | with_reducible refine w_gname ?_ | with_reducible refine w_gnil ?_ | with_reducible refine w_gcons ?_
  | with_reducible refine w_true ?_ | with_reducible refine w_false ?_
  | dsimp only [truthD, seqD, isNonD, permL, List.filterMap] | with_reducible refine w_drop ?_ | with_reducible refine w_retN ?_ | with_reducible refine w_nilP ?_ | with_reducible refine w_consP ?_ | with_reducible refine w_rng ?_ | with_reducible refine w_cont ?_ | with_reducible refine w_brk ?_)
local macro_rules | `(tactic| walk_at "z") => `(tactic| repeat walk_at "z1")
end Z

set_option Elab.async false
set_option linter.all false
set_option maxRecDepth 100000
set_option maxHeartbeats 4000000
namespace Z
local macro_rules | `(tactic| walk_at "z at") => `(tactic| first | rfl | (simp only [atI, ixN, List.length_cons, List.length_nil, List.length_map]; rfl) | assumption)
local macro_rules | `(tactic| walk_at "z1") => `(tactic| first
  | with_reducible refine w_seq ?_ | with_reducible refine w_set ?_ | with_reducible refine w_ret ?_ | with_reducible refine w_if ?_ | with_reducible refine w_asg ?_ | with_reducible refine w_next ?_ | with_reducible refine w_setIx ?_ | with_reducible refine w_par ?_
  | ((with_reducible refine' w_var ?h ?_); (case h => exact rfl))
  | with_reducible refine w_c ?_ | with_reducible refine w_op ?_ | with_reducible refine w_un ?_ | with_reducible refine w_cons ?_ | with_reducible refine w_nil ?_ | with_reducible refine w_cb ?_
  | with_reducible refine w_call ?_ | with_reducible refine w_callK ?_ | with_reducible refine w_testB ?_ | with_reducible refine w_tru ?_ | with_reducible refine w_andD ?_ | with_reducible refine w_orD ?_ | with_reducible refine w_notD ?_
  | with_reducible refine w_andE ?_ | with_reducible refine w_orE ?_ | with_reducible refine w_notE ?_ | with_reducible refine w_ifE ?_ | with_reducible refine w_is ?_ | with_reducible refine w_isN ?_ | with_reducible refine w_notN ?_ | with_reducible refine w_tupOf ?_
  | with_reducible refine w_tup ?_ | with_reducible refine w_lst ?_ | with_reducible refine w_lstM ?_ | with_reducible refine w_sl ?_ | with_reducible refine w_part ?_ | with_reducible refine w_noPart ?_ | with_reducible refine w_repr ?_ | with_reducible refine w_seqI ?_
  | with_reducible refine w_rdI ?_ | with_reducible refine w_rdB ?_ | with_reducible refine w_rdAdd ?_ | with_reducible refine w_neg ?_ | with_reducible refine w_lenL ?_ | with_reducible refine w_lenT ?_ | with_reducible refine w_abs ?_ | with_reducible refine w_int ?_ | with_reducible refine w_intB ?_ | with_reducible refine w_gcd ?_
  | with_reducible refine w_gname ?_ | with_reducible refine w_gnil ?_ | with_reducible refine w_gcons ?_
  | with_reducible refine w_true ?_ | with_reducible refine w_false ?_
  | dsimp only [truthD, seqD, isNonD, permL, List.filterMap] | with_reducible refine w_drop ?_ | with_reducible refine w_retN ?_ | with_reducible refine w_nilP ?_ | with_reducible refine w_consP ?_ | with_reducible refine w_rng ?_ | with_reducible refine w_cont ?_ | with_reducible refine w_brk ?_)
local macro_rules | `(tactic| walk_at "z") => `(tactic| repeat walk_at "z1")
open PySem L2

/-! ### how a law draws: the cells, how many were begun, what is left of a great one -/
def nutL (cells : List Int) (turn left : Int) : List D := [.lst (cells.map D.int), .int turn, .int left]
def NutAt (M : MH) (a : Addr) (t : Int) : Prop := ∃ cells turn left, M a = some (.lst (nutL cells turn left)) ∧ 0 ≤ turn ∧ turn ≤ t ∧ 0 ≤ left ∧ cells.length ≤ 63
def Upd1 (M : MH) (a : Addr) (M' : MH) : Prop := ∀ b, b ≠ a → M' b = M b
theorem Upd1.refl {M : MH} {a : Addr} : Upd1 M a M := fun _ _ => rfl
theorem Upd1.trans {M M1 M2 : MH} {a : Addr} (h : Upd1 M a M1) (g : Upd1 M1 a M2) : Upd1 M a M2 := fun b n => (g b n).trans (h b n)
theorem Upd1.put {M : MH} {a : Addr} {o : MO} : Upd1 M a (mput M a o) := fun b n => mput_ne n
theorem NutAt.mono {M : MH} {a : Addr} {t t' : Int} (h : NutAt M a t) (l : t ≤ t') : NutAt M a t' := let ⟨c, u, f, e, h1, h2, h3⟩ := h; ⟨c, u, f, e, h1, by omega, h3⟩
/-- a def that draws c times at most -/
def spDraw (c : Int) (pre : List D → Prop) (post : List D → D → Prop) : SpD := fun ds M F _ => ∃ a t rest, ds = .ref a :: rest ∧ pre rest ∧ NutAt M a t ∧ t + c ≤ 8000000 ∧
  ∀ d M', NutAt M' a (t + c) → Upd1 M a M' → post rest d → F d M'
theorem draw_do {c : Int} {pre : List D → Prop} {post : List D → D → Prop} {a : Addr} {t : Int} {rest : List D} {M : MH} {F : QD} {E : ED} (hN : NutAt M a t) (ht : t + c ≤ 8000000) (hp : pre rest)
    (k : ∀ d M', NutAt M' a (t + c) → Upd1 M a M' → post rest d → F d M') : spDraw c pre post (.ref a :: rest) M F E := ⟨a, t, rest, rfl, hp, hN, ht, k⟩
def spSieve : SpD := spDraw 1 (fun r => ∃ m : Int, r = [.int m] ∧ 0 < m ∧ m.natAbs.log2 < 9000) (fun r d => ∃ m n : Int, r = [.int m] ∧ d = .int n ∧ 0 ≤ n ∧ n < m)
def spPick : SpD := spDraw 1 (fun r => ∃ xs : List D, r = [.lst xs] ∧ 0 < xs.length ∧ xs.length ≤ 1000) (fun r d => ∃ xs : List D, r = [.lst xs] ∧ d ∈ xs)
theorem sieve_do {m : Int} {a : Addr} {t : Int} {M : MH} {F : QD} {E : ED} (hN : NutAt M a t) (ht : t + 1 ≤ 8000000) (h0 : 0 < m) (hl : m.natAbs.log2 < 9000)
    (k : ∀ n M', 0 ≤ n → n < m → NutAt M' a (t + 1) → Upd1 M a M' → F (.int n) M') : spSieve [.ref a, .int m] M F E :=
  draw_do hN ht ⟨m, rfl, h0, hl⟩ fun d M' n' u' ⟨m', n, e, ed, h1, h2⟩ => by cases e; subst ed; exact k n M' h1 h2 n' u'
theorem pick_do {xs : List D} {a : Addr} {t : Int} {M : MH} {F : QD} {E : ED} (hN : NutAt M a t) (ht : t + 1 ≤ 8000000) (h0 : 0 < xs.length) (hl : xs.length ≤ 1000)
    (k : ∀ d M', d ∈ xs → NutAt M' a (t + 1) → Upd1 M a M' → F d M') : spPick [.ref a, .lst xs] M F E :=
  draw_do hN ht ⟨xs, rfl, h0, hl⟩ fun d M' n' u' ⟨xs', e, hd⟩ => by cases e; exact k d M' hd n' u'
def tSieveC (c1 c2 m1 c3 m2 m3 : Int) : TSD :=
  (tSeqD (tSetD 5 (tOpD (rdIC (fun _ j => 0 < j) fun i j => i % j) (tCBD rdInt (tConsD (tOpD (rdIC CPow fun i j => i ^ j.toNat) (tOpD rdAdd (tOpD rdAdd (tOpD (rdIC (fun _ j => 0 < j) fun i j => i % j) (tCBD rdInt (tConsD (tVarD 4) tNilD)) (tCD (.int m1))) (tOpD rdMul (tCD (.int c3)) (tVarD 3))) (tCD (.int c2))) (tCD (.int 5))) tNilD)) (tCD (.int m2))))
  (tSeqD (tSetD 5 (tOpD (rdIC (fun _ j => 0 < j) fun i j => i % j) (tCBD rdInt (tConsD (tOpD (rdIC CPow fun i j => i ^ j.toNat) (tOpD rdAdd (tOpD rdAdd (tOpD rdMul (tVarD 5) (tOpD rdAdd (tOpD rdMul (tCD (.int 2)) (tVarD 3)) (tCD (.int c2)))) (tOpD rdMul (tOpD rdMul (tCD (.int c1)) (tVarD 3)) (tVarD 3))) (tCD (.int c3))) (tCD (.int 3))) tNilD)) (tCD (.int m3))))
  (tRetD (tOpD (rdIC (fun _ j => 0 < j) fun i j => i % j) (tCBD rdInt (tConsD (tOpD (rdIC DivOk fun i j => i.fdiv j) (tVarD 5) (tCD (.int 64))) tNilD)) (tVarD 1)))))
def tSieveB (c1 c2 m1 c3 m2 m3 : Int) : TSD :=
  (tSeqD (tIfD (tAndD (tTestB (tOpD (rdB fun i j => decide (i < j)) (tVarD 3) (tCBD rdLen (tConsD (tOpD rdIx (tVarD 0) (tCD (.int 0))) tNilD)))) (tTestB (tOpD (rdB fun i j => decide (j ≤ i)) (tCBD rdAbs (tConsD (tVarD 4) tNilD)) (tOpD (rdIC CPow fun i j => i ^ j.toNat) (tCD (.int 10)) (tCD (.int 18))))))
    (tSeqD (tSetD 2 (tOpD rdAdd (tOpD rdMul (tCD (.int 2)) (tOpD (rdI fun i j => i - j) (tCBD rdAbs (tConsD (tCBD rdInt (tConsD (tVarD 4) tNilD)) tNilD)) (tOpD (rdIC CPow fun i j => i ^ j.toNat) (tCD (.int 10)) (tCD (.int 18))))) (tCBD rdInt (tConsD (tOpD (rdB fun i j => decide (i < j)) (tVarD 4) (tCD (.int 0))) tNilD))))
  (tSeqD (tSetIx (tOpD (rdIC DivOk fun i j => i.fdiv j) (tVarD 2) (tVarD 1)) (tVarD 0) (tCD (.int 2)))
  (tRetD (tOpD (rdIC (fun _ j => 0 < j) fun i j => i % j) (tCBD rdInt (tConsD (tVarD 2) tNilD)) (tVarD 1)))))
    tNextD)
  (tSieveC c1 c2 m1 c3 m2 m3))
def tSieve (c1 c2 m1 c3 m2 m3 : Int) : TSD := (tSeqD (tIfD (tTestB (tOpD (rdB fun i j => decide (j < i)) (tOpD rdIx (tVarD 0) (tCD (.int 2))) (tCD (.int 0))))
    (tSeqD (tSetD 2 (tCBD rdInt (tConsD (tOpD rdIx (tVarD 0) (tCD (.int 2))) tNilD)))
  (tSeqD (tSetIx (tOpD (rdIC DivOk fun i j => i.fdiv j) (tVarD 2) (tVarD 1)) (tVarD 0) (tCD (.int 2)))
  (tRetD (tOpD (rdIC (fun _ j => 0 < j) fun i j => i % j) (tCBD rdInt (tConsD (tVarD 2) tNilD)) (tVarD 1)))))
    tNextD)
  (tSeqD (tSetD 3 (tOpD rdIx (tVarD 0) (tCD (.int 1))))
  (tSeqD (tSetIx (tOpD rdAdd (tVarD 3) (tCD (.int 1))) (tVarD 0) (tCD (.int 1)))
  (tSeqD (tSetD 4 (tOpD rdAdd (tOpD rdMul (tCD (.int c1)) (tVarD 3)) (tCD (.int c2))))
  (tSeqD (tIfD (tTestB (tOpD rdNe (tOpD rdIx (tVarD 0) (tCD (.int 0))) (tLstD tNilD)))
    (tSetD 4 (tOpD rdIx (tOpD rdIx (tVarD 0) (tCD (.int 0))) (tOpD (rdIC (fun _ j => 0 < j) fun i j => i % j) (tCBD rdInt (tConsD (tVarD 3) tNilD)) (tCBD rdLen (tConsD (tOpD rdIx (tVarD 0) (tCD (.int 0))) tNilD)))))
    tNextD)
  (tSieveB c1 c2 m1 c3 m2 m3))))))
/-- the numbers that mix are of a size that the model takes -/
def mixOk (c1 c2 m1 c3 m2 m3 : Int) : Bool := decide (0 ≤ c1 ∧ c1 ≤ 130000 ∧ 0 ≤ c2 ∧ c2 ≤ 100000 ∧ 0 < m1 ∧ m1 ≤ 2147483647 ∧ 0 ≤ c3 ∧ c3 ≤ 130000 ∧ 0 < m2 ∧ m2 ≤ 2147483647 ∧ 0 < m3 ∧ m3 ≤ 2147483647)
theorem mul_bd {a b x y : Int} (h0 : 0 ≤ a) (h1 : a ≤ x) (h2 : 0 ≤ b) (h3 : b ≤ y) : 0 ≤ a * b ∧ a * b ≤ x * y :=
  ⟨Int.mul_nonneg h0 h2, Int.mul_le_mul h1 h3 h2 (by omega)⟩
theorem toPys_ints : ∀ cs : List Int, toPys (cs.map D.int) = some (cs.map PyData.int)
  | [] => rfl
  | c :: cs => by simp only [List.map_cons, toPys, toPy, toPys_ints cs]
theorem canLay_ints : ∀ cs : List Int, PyData.canLayAll0 (cs.map PyData.int) = true
  | [] => rfl
  | c :: cs => by simp only [List.map_cons, PyData.canLayAll0, PyData.canLay0, canLay_ints cs, Bool.and_true]
theorem depth_ints : ∀ cs : List Int, PyData.depthAll (cs.map PyData.int) = 0
  | [] => rfl
  | c :: cs => by simp only [List.map_cons, PyData.depthAll, PyData.depth, depth_ints cs, Nat.max_self]
theorem eq_ints_nil (cells : List Int) : eqD (.lst (cells.map D.int)) (.lst []) = some cells.isEmpty := by
  have s1 : SeqAt.shaped (.list (cells.map PyData.int)) = true := by
    unfold SeqAt.shaped
    simp only [PyData.canLay0, canLay_ints, PyData.depth, depth_ints]
    rfl
  have s2 : SeqAt.shaped (.list []) = true := by decide
  unfold eqD
  simp only [toPy, toPys_ints, toPys, Option.map, s1, s2, Bool.and_self, if_true]
  cases cells <;> simp [PyData.eqv, PyData.eqvAll]
theorem sieveC {c1 c2 m1 c3 m2 m3 : Int} (ok : mixOk c1 c2 m1 c3 m2 m3 = true) {W : WD} {a : Addr} {m turn cell : Int} {M : MH} {F : QD} {R : EnvD → MH → Prop} (hm : 0 < m) (h0 : 0 ≤ turn) (ht : turn ≤ 8000000)
    (k' : ∀ x : Int, F (.int (x % m)) M) :
    tSieveC c1 c2 m1 c3 m2 m3 W { nx := R, rt := F } [some (.ref a), some (.int m), none, some (.int turn), some (.int cell), none] M := by
  obtain ⟨o1, o2, o3, o4, o5, o6, o7, o8, o9, o10, o11, o12⟩ := of_decide_eq_true ok
  have b0 := Int.emod_nonneg cell (show m1 ≠ 0 by omega)
  have b1 := Int.emod_lt_of_pos cell o5
  have q1 := mul_bd o7 o8 h0 ht
  have q2 := mul_bd o1 o2 h0 ht
  have q3 := mul_bd q2.1 q2.2 h0 ht
  unfold tSieveC
  walk_at "z"
  refine w_rdIC o5 ?_
  walk_at "z"
  refine w_rdMul (mulOk_l ⟨by omega, by omega⟩) ?_
  walk_at "z"
  refine w_rdIC (by show CPow _ 5; unfold CPow; omega) ?_
  walk_at "z"
  refine w_rdIC o9 ?_
  generalize hx : (cell % m1 + c3 * turn + c2) ^ Int.toNat 5 = x
  have b2 := Int.emod_nonneg x (show m2 ≠ 0 by omega)
  have b3 := Int.emod_lt_of_pos x o9
  generalize x % m2 = y at b2 b3
  have q4 := mul_bd (x := 2147483647) (y := 16200000) b2 (by omega) (show 0 ≤ 2 * turn + c2 by omega) (by omega)
  walk_at "z"
  refine w_rdMul (mulOk_l ⟨by omega, by omega⟩) ?_
  walk_at "z"
  refine w_rdMul (mulOk_l ⟨by omega, by omega⟩) ?_
  walk_at "z"
  refine w_rdMul (mulOk_l ⟨by omega, by omega⟩) ?_
  walk_at "z"
  refine w_rdMul (mulOk_l ⟨by omega, by omega⟩) ?_
  walk_at "z"
  refine w_rdIC (by show CPow _ 3; unfold CPow; omega) ?_
  walk_at "z"
  refine w_rdIC o11 ?_
  walk_at "z"
  refine w_rdIC ⟨by decide, by decide⟩ ?_
  walk_at "z"
  refine w_rdIC hm ?_
  exact k' _
theorem sieveB {c1 c2 m1 c3 m2 m3 : Int} (ok : mixOk c1 c2 m1 c3 m2 m3 = true) {W : WD} {a : Addr} {m turn left cell : Int} {cells : List Int} {M : MH} {F : QD} {R : EnvD → MH → Prop} (hm : 0 < m) (hlog : m.natAbs.log2 < 9000) (h0 : 0 ≤ turn) (ht : turn ≤ 8000000) (hl : 0 ≤ left)
    (k' : ∀ x left' : Int, 0 ≤ left' → F (.int (x % m)) (mput M a (.lst (nutL cells (turn + 1) left')))) :
    tSieveB c1 c2 m1 c3 m2 m3 W { nx := R, rt := F } [some (.ref a), some (.int m), none, some (.int turn), some (.int cell), none] (mput M a (.lst (nutL cells (turn + 1) left))) := by
  have mdv : ∀ x, DivOk x m := fun x => ⟨by omega, hlog⟩
  have fd : ∀ x : Int, 0 ≤ x → 0 ≤ x.fdiv m := fun x hx => by rw [Int.fdiv_eq_ediv_of_nonneg _ (by omega)]; exact Int.ediv_nonneg hx (by omega)
  have e : (mput M a (.lst (nutL cells (turn + 1) left))) a = some (.lst (nutL cells (turn + 1) left)) := mput_same
  have p18 : (10 : Int) ^ (18 : Int).toNat = 1000000000000000000 := by decide
  unfold tSieveB
  walk_at "z"
  refine w_ixR e rfl ?_
  walk_at "z"
  refine w_dec (fun c => ?_) (fun c => ?_)
  · walk_at "z"
    refine w_rdIC (by show CPow 10 18; unfold CPow; omega) ?_
    walk_at "z"
    rw [p18]
    refine w_dec (fun c2 => ?_) (fun c2 => ?_)
    · walk_at "z"
      refine w_rdIC (by show CPow 10 18; unfold CPow; omega) ?_
      walk_at "z"
      rw [p18]
      refine w_rdMul (mulOk_l ⟨by omega, by omega⟩) ?_
      walk_at "z"
      refine w_rdIC (mdv _) ?_
      walk_at "z"
      refine w_setIx2 e rfl ?_
      walk_at "z"
      refine w_rdIC hm ?_
      show F _ (mput (mput M a _) a (.lst (nutL cells (turn + 1) _)))
      rw [mput_mput]
      refine k' _ _ (fd _ ?_)
      split <;> omega
    · walk_at "z"
      exact sieveC ok hm h0 ht fun x => k' x left hl
  · walk_at "z"
    exact sieveC ok hm h0 ht fun x => k' x left hl
theorem wp_sieve {c1 c2 m1 c3 m2 m3 : Int} {N : List Str} (hN6 : N.length = 6) (ok : mixOk c1 c2 m1 c3 m2 m3 = true) (W : WD) (ds : List D) (M : MH) (F : QD) (E : ED) (h : spSieve ds M F E) :
    tSieve c1 c2 m1 c3 m2 m3 W { nx := fun _ M => F .non M, rt := F } (startD N ds) M := by
  obtain ⟨a, t, rest, rfl, ⟨m, rfl, hm, hlog⟩, ⟨cells, turn, left, e, h0, ht, hl, hc⟩, htt, k⟩ := h
  have ok' := of_decide_eq_true ok
  obtain ⟨o1, o2, o3, o4, o5, o6, o7, o8, o9, o10, o11, o12⟩ := ok'
  have mdv : ∀ x, DivOk x m := fun x => ⟨by omega, hlog⟩
  have k' : ∀ x turn' left' : Int, turn ≤ turn' → turn' ≤ turn + 1 → 0 ≤ left' → F (.int (x % m)) (mput M a (.lst (nutL cells turn' left'))) := fun x turn' left' b1 b2 b3 =>
    k _ _ ⟨cells, turn', left', mput_same, by omega, by omega, b3, hc⟩ .put ⟨m, _, rfl, rfl, Int.emod_nonneg _ (by omega), Int.emod_lt_of_pos _ hm⟩
  have fd : ∀ x : Int, 0 ≤ x → 0 ≤ x.fdiv m := fun x hx => by rw [Int.fdiv_eq_ediv_of_nonneg _ (by omega)]; exact Int.ediv_nonneg hx (by omega)
  have e2 : (mput M a (.lst (nutL cells (turn + 1) left))) a = some (.lst (nutL cells (turn + 1) left)) := mput_same
  rw [show startD N [.ref a, .int m] = [some (.ref a), some (.int m), none, none, none, none] by unfold startD; rw [hN6]; rfl]
  unfold tSieve
  walk_at "z"
  refine w_ixR e rfl ?_
  walk_at "z"
  refine w_dec (fun c => ?_) (fun c => ?_)
  · walk_at "z"
    refine w_ixR e rfl ?_
    walk_at "z"
    refine w_rdIC (mdv _) ?_
    walk_at "z"
    refine w_setIx2 e rfl ?_
    walk_at "z"
    refine w_rdIC hm ?_
    exact k' left turn (left.fdiv m) (Int.le_refl _) (by omega) (fd _ (by omega))
  · walk_at "z"
    refine w_ixR e rfl ?_
    walk_at "z"
    refine w_setIx2 e rfl ?_
    walk_at "z"
    refine w_rdMul (mulOk_l ⟨by omega, by omega⟩) ?_
    walk_at "z"
    refine w_ixR e2 rfl ?_
    walk_at "z"
    refine w_small (Nat.zero_le _) ?_
    walk_at "z"
    refine w_ne (eq_ints_nil _) ?_
    refine w_bool (fun c2 => ?_) (fun c2 => ?_)
    · have hne : 0 < cells.length := by cases cells with | nil => simp at c2 | cons _ _ => simp
      walk_at "z"
      refine w_ixR e2 rfl ?_
      walk_at "z"
      refine w_ixR e2 rfl ?_
      walk_at "z"
      have hpos : (0 : Int) < ((cells.map D.int).length : Int) := by rw [List.length_map]; omega
      refine w_rdIC hpos ?_
      have h1 := Int.emod_nonneg turn (show ((cells.map D.int).length : Int) ≠ 0 by omega)
      have h2 := Int.emod_lt_of_pos turn hpos
      obtain ⟨j, hj⟩ : ∃ j : Nat, turn % ((cells.map D.int).length : Int) = (j : Int) := ⟨_, (Int.toNat_of_nonneg h1).symm⟩
      have hj' : j < cells.length := by rw [List.length_map] at hj h2; omega
      rw [hj]
      refine w_ixL (x := .int cells[j]) (atI_nat (by simp [hj'])) ?_
      exact sieveB ok hm hlog h0 (by omega) hl fun x left' hl' => k' x (turn + 1) left' (by omega) (Int.le_refl _) hl'
    · walk_at "z"
      exact sieveB ok hm hlog h0 (by omega) hl fun x left' hl' => k' x (turn + 1) left' (by omega) (Int.le_refl _) hl'
end Z

set_option Elab.async false
set_option linter.all false
set_option maxRecDepth 100000
set_option maxHeartbeats 4000000
namespace Z
local macro_rules | `(tactic| walk_at "z at") => `(tactic| first | rfl | (simp only [atI, ixN, List.length_cons, List.length_nil, List.length_map]; rfl) | assumption)
local macro_rules | `(tactic| walk_at "z1") => `(tactic| first
  | with_reducible refine w_seq ?_ | with_reducible refine w_set ?_ | with_reducible refine w_ret ?_ | with_reducible refine w_if ?_ | with_reducible refine w_asg ?_ | with_reducible refine w_next ?_ | with_reducible refine w_setIx ?_ | with_reducible refine w_par ?_
  | ((with_reducible refine' w_var ?h ?_); (case h => exact rfl))
  | with_reducible refine w_c ?_ | with_reducible refine w_op ?_ | with_reducible refine w_un ?_ | with_reducible refine w_cons ?_ | with_reducible refine w_nil ?_ | with_reducible refine w_cb ?_
  | with_reducible refine w_call ?_ | with_reducible refine w_callK ?_ | with_reducible refine w_testB ?_ | with_reducible refine w_tru ?_ | with_reducible refine w_andD ?_ | with_reducible refine w_orD ?_ | with_reducible refine w_notD ?_
  | with_reducible refine w_andE ?_ | with_reducible refine w_orE ?_ | with_reducible refine w_notE ?_ | with_reducible refine w_ifE ?_ | with_reducible refine w_is ?_ | with_reducible refine w_isN ?_ | with_reducible refine w_notN ?_ | with_reducible refine w_tupOf ?_
  | with_reducible refine w_tup ?_ | with_reducible refine w_lst ?_ | with_reducible refine w_lstM ?_ | with_reducible refine w_sl ?_ | with_reducible refine w_part ?_ | with_reducible refine w_noPart ?_ | with_reducible refine w_repr ?_ | with_reducible refine w_seqI ?_
  | with_reducible refine w_rdI ?_ | with_reducible refine w_rdB ?_ | with_reducible refine w_rdAdd ?_ | with_reducible refine w_neg ?_ | with_reducible refine w_lenL ?_ | with_reducible refine w_lenT ?_ | with_reducible refine w_abs ?_ | with_reducible refine w_int ?_ | with_reducible refine w_intB ?_ | with_reducible refine w_gcd ?_
  | with_reducible refine w_gname ?_ | with_reducible refine w_gnil ?_ | with_reducible refine w_gcons ?_
  | with_reducible refine w_true ?_ | with_reducible refine w_false ?_
  | dsimp only [truthD, seqD, isNonD, permL, List.filterMap] | with_reducible refine w_drop ?_ | with_reducible refine w_retN ?_ | with_reducible refine w_nilP ?_ | with_reducible refine w_consP ?_ | with_reducible refine w_rng ?_ | with_reducible refine w_cont ?_ | with_reducible refine w_brk ?_)
local macro_rules | `(tactic| walk_at "z") => `(tactic| repeat walk_at "z1")
open PySem L2

def tPick : TSD := (tRetD (tOpD rdIx (tVarD 1) (tCallD spSieve (tConsD (tVarD 0) (tConsD (tCBD rdLen (tConsD (tVarD 1) tNilD)) tNilD)))))
theorem log2_small {n : Nat} (h : n ≤ 1000000) : n.log2 < 9000 := by
  have : n.log2 ≤ n := Nat.log2_le_self n
  by_cases h0 : n = 0
  · subst h0; decide
  · have h2 : n.log2 < 20 := (Nat.log2_lt h0).mpr (Nat.lt_of_le_of_lt h (by decide))
    omega
theorem wp_pick {N : List Str} (hN2 : N.length = 2) (W : WD) (ds : List D) (M : MH) (F : QD) (E : ED) (h : spPick ds M F E) :
    tPick W { nx := fun _ M => F .non M, rt := F } (startD N ds) M := by
  obtain ⟨a, t, rest, rfl, ⟨xs, rfl, h0, hl⟩, hN, ht, k⟩ := h
  rw [show startD N [.ref a, .lst xs] = [some (.ref a), some (.lst xs)] by unfold startD; rw [hN2]; rfl]
  unfold tPick
  walk_at "z"
  refine sieve_do hN ht (by omega) (log2_small (by omega)) fun n M' n0 n1 N' U' => ?_
  obtain ⟨j, rfl⟩ : ∃ j : Nat, n = (j : Int) := ⟨_, (Int.toNat_of_nonneg n0).symm⟩
  have hj : j < xs.length := by omega
  refine w_ixL (x := xs[j]) (atI_nat (by simp [hj])) ?_
  exact k _ _ N' U' ⟨xs, rfl, List.getElem_mem hj⟩
/-- what draws, made of a script -/
def spGrit : SpD := fun ds M F _ => ∃ ns : List Int, ds = [.lst (ns.map D.int)] ∧ ns.length ≤ 63 ∧ ∀ p M', M p = none → NutAt M' p 0 → Upd1 M p M' → F (.ref p) M'
def tGrit (n : Int) : TSD := (tRetD (tLstM (tConsD (tLcD (iSeqD (tSlD (tVarD 0) tNoPartD (tPartD (tCD (.int n))))) (gNameD 1) tYesD (tCBD rdInt (tConsD (tVarD 1) tNilD)) [1]) (tConsD (tCD (.int 0)) (tConsD (tCD (.int 0)) tNilD)))))
theorem wp_grit {n : Int} {N : List Str} (hN2 : N.length = 2) (W : WD) (ds : List D) (M : MH) (F : QD) (E : ED) (h : spGrit ds M F E) :
    tGrit n W { nx := fun _ M => F .non M, rt := F } (startD N ds) M := by
  obtain ⟨ns, rfl, hl, k⟩ := h
  obtain ⟨cells, hc, hcl⟩ : ∃ cells : List Int, cutD (ns.map D.int) none (some n) = cells.map D.int ∧ cells.length ≤ 63 :=
    ⟨(ns.drop _).take _, by unfold cutD; rw [← List.map_drop, ← List.map_take], by rw [List.length_take, List.length_drop]; omega⟩
  rw [show startD N [.lst (ns.map D.int)] = [some (.lst (ns.map D.int)), none] by unfold startD; rw [hN2]; rfl]
  unfold tGrit
  walk_at "z"
  refine lc_pure (cells.map D.int) id (fun _ => true) (by rw [List.length_map]; omega) M ?_ ?_ ?_
  · intro x hx M2 R r
    obtain ⟨c, _, rfl⟩ := List.mem_map.mp hx
    walk_at "z"
    refine r _ (fun R2 h => h) fun _ R3 h => ?_
    walk_at "z"
    exact h
  · rw [List.map_id, List.filter_eq_self.mpr (fun _ _ => rfl)]
    walk_at "z"
    refine w_small (by show 3 ≤ 16777216; decide) fun p hp => ?_
    exact k p _ hp ⟨cells, 0, 0, mput_same, by omega, by omega, by omega, hcl⟩ .put
  · intro R r
    walk_at "z"
    rw [← hc] at r
    exact r
end Z

set_option Elab.async false
set_option linter.all false
set_option maxRecDepth 100000
set_option maxHeartbeats 4000000
namespace Z
local macro_rules | `(tactic| walk_at "z at") => `(tactic| first | rfl | (simp only [atI, ixN, List.length_cons, List.length_nil, List.length_map]; rfl) | assumption)
local macro_rules | `(tactic| walk_at "z1") => `(tactic| first
  | with_reducible refine w_seq ?_ | with_reducible refine w_set ?_ | with_reducible refine w_ret ?_ | with_reducible refine w_if ?_ | with_reducible refine w_asg ?_ | with_reducible refine w_next ?_ | with_reducible refine w_setIx ?_ | with_reducible refine w_par ?_
  | ((with_reducible refine' w_var ?h ?_); (case h => exact rfl))
  | with_reducible refine w_c ?_ | with_reducible refine w_op ?_ | with_reducible refine w_un ?_ | with_reducible refine w_cons ?_ | with_reducible refine w_nil ?_ | with_reducible refine w_cb ?_
  | with_reducible refine w_call ?_ | with_reducible refine w_callK ?_ | with_reducible refine w_testB ?_ | with_reducible refine w_tru ?_ | with_reducible refine w_andD ?_ | with_reducible refine w_orD ?_ | with_reducible refine w_notD ?_
  | with_reducible refine w_andE ?_ | with_reducible refine w_orE ?_ | with_reducible refine w_notE ?_ | with_reducible refine w_ifE ?_ | with_reducible refine w_is ?_ | with_reducible refine w_isN ?_ | with_reducible refine w_notN ?_ | with_reducible refine w_tupOf ?_
  | with_reducible refine w_tup ?_ | with_reducible refine w_lst ?_ | with_reducible refine w_lstM ?_ | with_reducible refine w_sl ?_ | with_reducible refine w_part ?_ | with_reducible refine w_noPart ?_ | with_reducible refine w_repr ?_ | with_reducible refine w_seqI ?_
  | with_reducible refine w_rdI ?_ | with_reducible refine w_rdB ?_ | with_reducible refine w_rdAdd ?_ | with_reducible refine w_neg ?_ | with_reducible refine w_lenL ?_ | with_reducible refine w_lenT ?_ | with_reducible refine w_abs ?_ | with_reducible refine w_int ?_ | with_reducible refine w_intB ?_ | with_reducible refine w_gcd ?_
  | with_reducible refine w_gname ?_ | with_reducible refine w_gnil ?_ | with_reducible refine w_gcons ?_
  | with_reducible refine w_true ?_ | with_reducible refine w_false ?_
  | dsimp only [truthD, seqD, isNonD, permL, List.filterMap] | with_reducible refine w_drop ?_ | with_reducible refine w_retN ?_ | with_reducible refine w_nilP ?_ | with_reducible refine w_consP ?_ | with_reducible refine w_rng ?_ | with_reducible refine w_cont ?_ | with_reducible refine w_brk ?_)
local macro_rules | `(tactic| walk_at "z") => `(tactic| repeat walk_at "z1")
open PySem L2

/-! ### data: no instances, no classes, no addresses, all the way in -/
mutual
def plainD : D → Bool
  | .non | .bl _ | .int _ | .str _ | .flt _ | .dct _ => true
  | .lst xs | .tup xs => plainDs xs
  | _ => false
def plainDs : List D → Bool
  | [] => true
  | x :: xs => plainD x && plainDs xs
end
theorem plainDs_iff : ∀ {xs : List D}, plainDs xs = true ↔ ∀ x ∈ xs, plainD x = true
  | [] => by simp [plainDs]
  | x :: xs => by simp [plainDs, plainDs_iff (xs := xs)]
theorem plain_at {xs : List D} {i : Int} {x : D} (h : plainDs xs = true) (e : atI xs i = some x) : plainD x = true := by
  unfold atI at e
  cases q : ixN xs.length i with
  | none => rw [q] at e; cases e
  | some j => rw [q] at e; exact plainDs_iff.mp h x (List.mem_of_getElem? e)
def isIntB : D → Bool | .int _ => true | _ => false
theorem tag_int {d : D} (h : plainD d = true) : isTag .int d = some (match d with | .int _ => true | .bl _ => true | _ => false) := by cases d <;> first | rfl | (simp [plainD] at h)
theorem tag_bool {d : D} (h : plainD d = true) : isTag .bool d = some (match d with | .bl _ => true | _ => false) := by cases d <;> first | rfl | (simp [plainD] at h)
theorem tag_str {d : D} (h : plainD d = true) : isTag .str d = some (match d with | .str _ => true | _ => false) := by cases d <;> first | rfl | (simp [plainD] at h)
theorem tag_lt {d : D} (h : plainD d = true) : isTag2 .list .tuple d = some (seqD d).isSome := by cases d <;> first | rfl | (simp [plainD] at h)
theorem seq_plain {d : D} {xs : List D} (h : plainD d = true) (e : seqD d = some xs) : plainDs xs = true := by
  cases d <;> simp [seqD] at e <;> subst e <;> simpa [plainD] using h
/-- a question about one value -/
def spF1 (g : D → Bool) : SpD := fun ds M F _ => ∃ d, ds = [d] ∧ plainD d = true ∧ F (.bl (g d)) M
theorem f1_do {g : D → Bool} {d : D} {M : MH} {F : QD} {E : ED} (h : plainD d = true) (k : F (.bl (g d)) M) : spF1 g [d] M F E := ⟨d, rfl, h, k⟩
/-- a list comprehension whose element draws -/
theorem lc_draw {ti : TAD} {te : TED} {v : Nat} {W : WD} {τ : EnvD} {M : MH} {Q : QD} (xs : List D) (M1 : MH) {a : Addr} {t c : Int} {P : D → Prop} (hN : NutAt M1 a t) (hc : 0 ≤ c) (hl : xs.length ≤ 16777216)
    (step : ∀ x ∈ xs, ∀ t' M2 (R : QD), NutAt M2 a t' → t ≤ t' → t' + c ≤ t + xs.length * c → (∀ d M3, NutAt M3 a (t' + c) → Upd1 M2 a M3 → P d → R d M3) → te noW (setN (wipeD τ [v]) v (some x)) M2 R)
    (hq : ∀ ds M3, NutAt M3 a (t + xs.length * c) → Upd1 M1 a M3 → ds.length = xs.length → (∀ d ∈ ds, P d) → Q (.lst ds) M3) (hi : ∀ R : List D → MH → Prop, R xs M1 → ti W τ M R) : tLcD ti (gNameD v) tYesD te [v] W τ M Q := by
  refine hi _ fun p hp => ⟨fun i M2 => ∃ acc, M2 p = some (.lst acc) ∧ NutAt M2 a (t + i * c) ∧ (∀ b, b ≠ a → b ≠ p → M2 b = M1 b) ∧ acc.length = i ∧ ∀ d ∈ acc, P d, ?_, ?_, ?_⟩
  · have n : a ≠ p := fun e => by obtain ⟨_, _, _, h, _⟩ := hN; rw [e, hp] at h; cases h
    refine ⟨[], mput_same, ?_, fun b _ h2 => mput_ne h2, rfl, fun d h => by cases h⟩
    obtain ⟨cs, u, f, h, r⟩ := hN
    exact ⟨cs, u, f, by rw [mput_ne n]; exact h, by simpa using r⟩
  · rintro i x M2 hx ⟨acc, h1, h2, h3, h4, h5⟩
    have n : a ≠ p := fun e => by obtain ⟨_, _, _, h, _⟩ := hN; rw [e, hp] at h; cases h
    have hi' : i < xs.length := (List.getElem?_eq_some_iff.mp hx).1
    have e1 : ((i : Int) + 1) * c ≤ xs.length * c := Int.mul_le_mul_of_nonneg_right (by omega) hc
    have e0 : 0 ≤ (i : Int) * c := Int.mul_nonneg (by omega) hc
    have e2 : ((i : Int) + 1) * c = i * c + c := by rw [Int.add_mul, Int.one_mul]
    refine w_gname ?_
    show (true = true → _) ∧ (true = false → _)
    refine w_true ?_
    refine step x (List.mem_of_getElem? hx) (t + i * c) M2 _ h2 (by omega) (by omega) fun d M3 n3 u3 pd => ?_
    rw [u3 p (Ne.symm n), h1]
    refine ⟨by omega, acc ++ [d], mput_same, ?_, fun b b1 b2 => by rw [mput_ne b2, u3 b b1]; exact h3 b b1 b2, by simp [h4], fun e he => ?_⟩
    · obtain ⟨cs, u, f, h, r1, r2, r3⟩ := n3
      refine ⟨cs, u, f, by rw [mput_ne n]; exact h, r1, ?_, r3⟩
      have e3 : ((i + 1 : Nat) : Int) * c = i * c + c := by rw [← e2]; rfl
      omega
    · rcases List.mem_append.mp he with he | he
      · exact h5 e he
      · rw [List.mem_singleton] at he; rw [he]; exact pd
  · rintro M2 ⟨acc, h1, h2, h3, h4, h5⟩
    have n : a ≠ p := fun e => by obtain ⟨_, _, _, h, _⟩ := hN; rw [e, hp] at h; cases h
    show match M2 p with | some (.lst acc) => _ | _ => False
    rw [h1]
    refine hq acc _ ?_ (fun b hb => ?_) h4 h5
    · obtain ⟨cs, u, f, h, r⟩ := h2
      exact ⟨cs, u, f, by rw [mdel_ne n]; exact h, r⟩
    · by_cases e : b = p
      · subst e; rw [mdel_same, hp]
      · rw [mdel_ne e]; exact h3 b hb e
end Z

set_option Elab.async false
set_option linter.all false
set_option maxRecDepth 100000
set_option maxHeartbeats 4000000
namespace Z
local macro_rules | `(tactic| walk_at "z at") => `(tactic| first | rfl | (simp only [atI, ixN, List.length_cons, List.length_nil, List.length_map]; rfl) | assumption)
local macro_rules | `(tactic| walk_at "z1") => `(tactic| first
  | with_reducible refine w_seq ?_ | with_reducible refine w_set ?_ | with_reducible refine w_ret ?_ | with_reducible refine w_if ?_ | with_reducible refine w_asg ?_ | with_reducible refine w_next ?_ | with_reducible refine w_setIx ?_ | with_reducible refine w_par ?_
  | ((with_reducible refine' w_var ?h ?_); (case h => exact rfl))
  | with_reducible refine w_c ?_ | with_reducible refine w_op ?_ | with_reducible refine w_un ?_ | with_reducible refine w_cons ?_ | with_reducible refine w_nil ?_ | with_reducible refine w_cb ?_
  | with_reducible refine w_call ?_ | with_reducible refine w_callK ?_ | with_reducible refine w_testB ?_ | with_reducible refine w_tru ?_ | with_reducible refine w_andD ?_ | with_reducible refine w_orD ?_ | with_reducible refine w_notD ?_
  | with_reducible refine w_andE ?_ | with_reducible refine w_orE ?_ | with_reducible refine w_notE ?_ | with_reducible refine w_ifE ?_ | with_reducible refine w_is ?_ | with_reducible refine w_isN ?_ | with_reducible refine w_notN ?_ | with_reducible refine w_tupOf ?_
  | with_reducible refine w_tup ?_ | with_reducible refine w_lst ?_ | with_reducible refine w_lstM ?_ | with_reducible refine w_sl ?_ | with_reducible refine w_part ?_ | with_reducible refine w_noPart ?_ | with_reducible refine w_repr ?_ | with_reducible refine w_seqI ?_
  | with_reducible refine w_rdI ?_ | with_reducible refine w_rdB ?_ | with_reducible refine w_rdAdd ?_ | with_reducible refine w_neg ?_ | with_reducible refine w_lenL ?_ | with_reducible refine w_lenT ?_ | with_reducible refine w_abs ?_ | with_reducible refine w_int ?_ | with_reducible refine w_intB ?_ | with_reducible refine w_gcd ?_
  | with_reducible refine w_gname ?_ | with_reducible refine w_gnil ?_ | with_reducible refine w_gcons ?_
  | with_reducible refine w_true ?_ | with_reducible refine w_false ?_
  | dsimp only [truthD, seqD, isNonD, permL, List.filterMap] | with_reducible refine w_drop ?_ | with_reducible refine w_retN ?_ | with_reducible refine w_nilP ?_ | with_reducible refine w_consP ?_ | with_reducible refine w_rng ?_ | with_reducible refine w_cont ?_ | with_reducible refine w_brk ?_)
local macro_rules | `(tactic| walk_at "z") => `(tactic| repeat walk_at "z1")
open PySem L2
def topS (i : Nat) : Stmt := PySem.Challenge.pw_lanecross_k02_integers_numbers_spots_jud.main.body.getD i (.Pass ⟨0, 0, 0, 0⟩)
abbrev s_is_integer : Stmt := topS 2
abbrev s_is_within : Stmt := topS 3
abbrev s_is_row_of : Stmt := topS 4
abbrev s_is_number : Stmt := topS 5
abbrev s_is_spot : Stmt := topS 6
abbrev s__law_grit : Stmt := topS 8
abbrev s__law_sieve : Stmt := topS 9
abbrev s__law_pick : Stmt := topS 10
abbrev s__law_part : Stmt := topS 11
abbrev s__law_is_integer : Stmt := topS 12
abbrev s__law_is_number : Stmt := topS 13
abbrev s__law_integer : Stmt := topS 14
abbrev s__law_value : Stmt := topS 15
abbrev s_law : Stmt := topS 16
theorem sc_is_integer : FnScope ["value"] ["value"] (defScope s_is_integer) := ⟨rfl, rfl, rfl, by decide +kernel, rfl, by decide +kernel, by decide +kernel⟩
theorem sc_is_within : FnScope ["value", "least", "most"] ["value", "least", "most"] (defScope s_is_within) := ⟨rfl, rfl, rfl, by decide +kernel, rfl, by decide +kernel, by decide +kernel⟩
theorem sc_is_row_of : FnScope ["value", "length"] ["value", "length"] (defScope s_is_row_of) := ⟨rfl, rfl, rfl, by decide +kernel, rfl, by decide +kernel, by decide +kernel⟩
theorem sc_is_number : FnScope ["value", "above", "below"] ["value"] (defScope s_is_number) := ⟨rfl, rfl, rfl, by decide +kernel, rfl, by decide +kernel, by decide +kernel⟩
theorem sc_is_spot : FnScope ["value"] ["value"] (defScope s_is_spot) := ⟨rfl, rfl, rfl, by decide +kernel, rfl, by decide +kernel, by decide +kernel⟩
theorem sc__law_grit : FnScope ["_law_script", "_law_cell"] ["_law_script"] (defScope s__law_grit) := ⟨rfl, rfl, rfl, by decide +kernel, rfl, by decide +kernel, by decide +kernel⟩
theorem sc__law_sieve : FnScope ["_law_grit_here", "_law_many", "_law_left", "_law_turn", "_law_cell", "_law_mixed"] ["_law_grit_here", "_law_many"] (defScope s__law_sieve) := ⟨rfl, rfl, rfl, by decide +kernel, rfl, by decide +kernel, by decide +kernel⟩
theorem sc__law_pick : FnScope ["_law_grit_here", "_law_some"] ["_law_grit_here", "_law_some"] (defScope s__law_pick) := ⟨rfl, rfl, rfl, by decide +kernel, rfl, by decide +kernel, by decide +kernel⟩
theorem sc__law_part : FnScope ["_law_one", "_law_other"] ["_law_one", "_law_other"] (defScope s__law_part) := ⟨rfl, rfl, rfl, by decide +kernel, rfl, by decide +kernel, by decide +kernel⟩
theorem sc__law_is_integer : FnScope ["_law_value_here"] ["_law_value_here"] (defScope s__law_is_integer) := ⟨rfl, rfl, rfl, by decide +kernel, rfl, by decide +kernel, by decide +kernel⟩
theorem sc__law_is_number : FnScope ["_law_value_here"] ["_law_value_here"] (defScope s__law_is_number) := ⟨rfl, rfl, rfl, by decide +kernel, rfl, by decide +kernel, by decide +kernel⟩
theorem sc__law_integer : FnScope ["_law_grit_here", "_law_most"] ["_law_grit_here"] (defScope s__law_integer) := ⟨rfl, rfl, rfl, by decide +kernel, rfl, by decide +kernel, by decide +kernel⟩
theorem sc__law_value : FnScope ["_law_grit_here", "_law_deep", "_law_way", "_law_part_here", "_law_pair", "_law_some", "_law_turn"] ["_law_grit_here", "_law_deep"] (defScope s__law_value) := ⟨rfl, rfl, rfl, by decide +kernel, rfl, by decide +kernel, by decide +kernel⟩
theorem sc_law : FnScope ["_law_script", "_law_grit_here", "_law_turn", "_law_value_here", "_law_least", "_law_most", "_law_within", "_law_is_pair", "_law_due", "_law_told", "_law_named", "_law_side"] ["_law_script"] (defScope s_law) := ⟨rfl, rfl, rfl, by decide +kernel, rfl, by decide +kernel, by decide +kernel⟩
structure Txt (K : PySem.W.Frag) (mg : Str → Option Value) where
  a_is_integer : Addr
  d_is_integer : FuncData
  F_is_integer : Fun K "is_integer" "is_integer" s_is_integer a_is_integer d_is_integer
  g_is_integer : mg "is_integer" = some (.ref a_is_integer)
  a_is_within : Addr
  d_is_within : FuncData
  F_is_within : Fun K "is_within" "is_within" s_is_within a_is_within d_is_within
  g_is_within : mg "is_within" = some (.ref a_is_within)
  a_is_row_of : Addr
  d_is_row_of : FuncData
  F_is_row_of : Fun K "is_row_of" "is_row_of" s_is_row_of a_is_row_of d_is_row_of
  g_is_row_of : mg "is_row_of" = some (.ref a_is_row_of)
  a_is_number : Addr
  d_is_number : FuncData
  F_is_number : Fun K "is_number" "is_number" s_is_number a_is_number d_is_number
  g_is_number : mg "is_number" = some (.ref a_is_number)
  a_is_spot : Addr
  d_is_spot : FuncData
  F_is_spot : Fun K "is_spot" "is_spot" s_is_spot a_is_spot d_is_spot
  g_is_spot : mg "is_spot" = some (.ref a_is_spot)
  a__law_grit : Addr
  d__law_grit : FuncData
  F__law_grit : Fun K "_law_grit" "_law_grit" s__law_grit a__law_grit d__law_grit
  g__law_grit : mg "_law_grit" = some (.ref a__law_grit)
  a__law_sieve : Addr
  d__law_sieve : FuncData
  F__law_sieve : Fun K "_law_sieve" "_law_sieve" s__law_sieve a__law_sieve d__law_sieve
  g__law_sieve : mg "_law_sieve" = some (.ref a__law_sieve)
  a__law_pick : Addr
  d__law_pick : FuncData
  F__law_pick : Fun K "_law_pick" "_law_pick" s__law_pick a__law_pick d__law_pick
  g__law_pick : mg "_law_pick" = some (.ref a__law_pick)
  a__law_part : Addr
  d__law_part : FuncData
  F__law_part : Fun K "_law_part" "_law_part" s__law_part a__law_part d__law_part
  g__law_part : mg "_law_part" = some (.ref a__law_part)
  a__law_is_integer : Addr
  d__law_is_integer : FuncData
  F__law_is_integer : Fun K "_law_is_integer" "_law_is_integer" s__law_is_integer a__law_is_integer d__law_is_integer
  g__law_is_integer : mg "_law_is_integer" = some (.ref a__law_is_integer)
  a__law_is_number : Addr
  d__law_is_number : FuncData
  F__law_is_number : Fun K "_law_is_number" "_law_is_number" s__law_is_number a__law_is_number d__law_is_number
  g__law_is_number : mg "_law_is_number" = some (.ref a__law_is_number)
  a__law_integer : Addr
  d__law_integer : FuncData
  F__law_integer : Fun K "_law_integer" "_law_integer" s__law_integer a__law_integer d__law_integer
  g__law_integer : mg "_law_integer" = some (.ref a__law_integer)
  a__law_value : Addr
  d__law_value : FuncData
  F__law_value : Fun K "_law_value" "_law_value" s__law_value a__law_value d__law_value
  g__law_value : mg "_law_value" = some (.ref a__law_value)
  a_law : Addr
  d_law : FuncData
  F_law : Fun K "law" "law" s_law a_law d_law
  g_law : mg "law" = some (.ref a_law)
  n_abs : mg "abs" = none
  n_bool : mg "bool" = none
  n_gcd : mg "gcd" = some (.builtin "math.gcd")
  n_int : mg "int" = none
  n_isinstance : mg "isinstance" = none
  n_len : mg "len" = none
  n_list : mg "list" = none
  n_range : mg "range" = none
  n_repr : mg "repr" = none
  n_tuple : mg "tuple" = none
section
variable {K : PySem.W.Frag} {mg : Str → Option Value}
theorem b_is_integer (T : Txt K mg) : Binds K T.d_is_integer ["value"] [] := T.F_is_integer.binds fun _ _ _ _ _ _ us hl => match us, hl with | [_], _ => rfl
theorem b_is_within (T : Txt K mg) : Binds K T.d_is_within ["value", "least", "most"] [] := T.F_is_within.binds fun _ _ _ _ _ _ us hl => match us, hl with | [_, _, _], _ => rfl
theorem b_is_row_of (T : Txt K mg) : Binds K T.d_is_row_of ["value", "length"] [] := T.F_is_row_of.binds fun _ _ _ _ _ _ us hl => match us, hl with | [_, _], _ => rfl
theorem b_is_number (T : Txt K mg) : Binds K T.d_is_number ["value"] [] := T.F_is_number.binds fun _ _ _ _ _ _ us hl => match us, hl with | [_], _ => rfl
theorem b_is_spot (T : Txt K mg) : Binds K T.d_is_spot ["value"] [] := T.F_is_spot.binds fun _ _ _ _ _ _ us hl => match us, hl with | [_], _ => rfl
theorem b__law_grit (T : Txt K mg) : Binds K T.d__law_grit ["_law_script"] [] := T.F__law_grit.binds fun _ _ _ _ _ _ us hl => match us, hl with | [_], _ => rfl
theorem b__law_sieve (T : Txt K mg) : Binds K T.d__law_sieve ["_law_grit_here", "_law_many"] [] := T.F__law_sieve.binds fun _ _ _ _ _ _ us hl => match us, hl with | [_, _], _ => rfl
theorem b__law_pick (T : Txt K mg) : Binds K T.d__law_pick ["_law_grit_here", "_law_some"] [] := T.F__law_pick.binds fun _ _ _ _ _ _ us hl => match us, hl with | [_, _], _ => rfl
theorem b__law_part (T : Txt K mg) : Binds K T.d__law_part ["_law_one", "_law_other"] [] := T.F__law_part.binds fun _ _ _ _ _ _ us hl => match us, hl with | [_, _], _ => rfl
theorem b__law_is_integer (T : Txt K mg) : Binds K T.d__law_is_integer ["_law_value_here"] [] := T.F__law_is_integer.binds fun _ _ _ _ _ _ us hl => match us, hl with | [_], _ => rfl
theorem b__law_is_number (T : Txt K mg) : Binds K T.d__law_is_number ["_law_value_here"] [] := T.F__law_is_number.binds fun _ _ _ _ _ _ us hl => match us, hl with | [_], _ => rfl
theorem b__law_integer (T : Txt K mg) : Binds K T.d__law_integer ["_law_grit_here"] [] := T.F__law_integer.binds fun _ _ _ _ _ _ us hl => match us, hl with | [_], _ => rfl
theorem b__law_value (T : Txt K mg) : Binds K T.d__law_value ["_law_grit_here", "_law_deep"] [] := T.F__law_value.binds fun _ _ _ _ _ _ us hl => match us, hl with | [_, _], _ => rfl
theorem b_law (T : Txt K mg) : Binds K T.d_law ["_law_script"] [] := T.F_law.binds fun _ _ _ _ _ _ us hl => match us, hl with | [_], _ => rfl
theorem bk_is_integer_value (T : Txt K mg) : KwB K T.d_is_integer ["value"] ["value"] [0] := kwB T.F_is_integer fun _ _ _ _ _ _ us hl => match us, hl with | [_], _ => rfl
theorem bk_is_number_value (T : Txt K mg) : KwB K T.d_is_number ["value"] ["value"] [0] := kwB T.F_is_number fun _ _ _ _ _ _ us hl => match us, hl with | [_], _ => rfl
theorem bk_is_spot_value (T : Txt K mg) : KwB K T.d_is_spot ["value"] ["value"] [0] := kwB T.F_is_spot fun _ _ _ _ _ _ us hl => match us, hl with | [_], _ => rfl
theorem bk_is_within_most_least_value (T : Txt K mg) : KwB K T.d_is_within ["value", "least", "most"] ["most", "least", "value"] [2, 1, 0] := kwB T.F_is_within fun _ _ _ _ _ _ us hl => match us, hl with | [_, _, _], _ => rfl
end
/-! ### what is an integer, a number, a spot -/
def isNumB : D → Bool
  | .int _ => true
  | .lst [.int a, .int b] => decide (2 ≤ b) && decide (Nat.gcd a.natAbs b.natAbs = 1)
  | .tup [.int a, .int b] => decide (2 ≤ b) && decide (Nat.gcd a.natAbs b.natAbs = 1)
  | _ => false
def pairB (x y : D) : Bool := match x, y with | .int a, .int b => decide (2 ≤ b) && decide (Nat.gcd a.natAbs b.natAbs = 1) | _, _ => false
def rowB (n : Int) (d : D) : Bool := match seqD d with | some xs => decide ((xs.length : Int) = n) | none => false
def topB (i : Int) (m : D) : Bool := match m with | .int b => decide (i ≤ b) | _ => true
def isSpotB (d : D) : Bool := match seqD d with | some [x, y] => isNumB x && isNumB y | _ => false
def boundB (d : D) : Bool := match d with | .non | .int _ => true | _ => false
def withinB (v l m : D) : Bool := match v with
  | .int i => (match l with | .int a => decide (a ≤ i) | _ => true) && (match m with | .int b => decide (i ≤ b) | _ => true)
  | _ => false
def sp_is_integer : SpD := spF1 isIntB
def sp_is_within : SpD := fun ds M F _ => ∃ v l m, ds = [v, l, m] ∧ plainD v = true ∧ boundB l = true ∧ boundB m = true ∧ F (.bl (withinB v l m)) M
def sp_is_row_of : SpD := fun ds M F _ => ∃ v n, ds = [v, .int n] ∧ plainD v = true ∧ F (.bl (rowB n v)) M
def sp_is_number : SpD := spF1 isNumB
def sp_is_spot : SpD := spF1 isSpotB
def t_is_integer : TSD := (tRetD (tAndE (tIs (isTag .int) (tVarD 0)) (tNotE (tIs (isTag .bool) (tVarD 0)))))
def t_is_within : TSD := (tSeqD (tIfD (tNotD (tTruD (tCallD sp_is_integer (tConsD (tVarD 0) tNilD))))
    (tRetD (tCD (.bl false)))
    tNextD)
  (tRetD (tAndE (tOrE (tIsND (tVarD 1)) (tOpD (rdB fun i j => decide (j ≤ i)) (tVarD 0) (tVarD 1))) (tOrE (tIsND (tVarD 2)) (tOpD (rdB fun i j => decide (i ≤ j)) (tVarD 0) (tVarD 2))))))
def t_is_row_of : TSD := (tRetD (tAndE (tIs (isTag2 .list .tuple) (tVarD 0)) (tOpD rdEq (tCBD rdLen (tConsD (tVarD 0) tNilD)) (tVarD 1))))
def t_is_number : TSD := (tSeqD (tIfD (tNotD (tTruD (tCallD sp_is_row_of (tConsD (tVarD 0) (tConsD (tCD (.int 2)) tNilD)))))
    (tRetD (tCallD sp_is_integer (tConsD (tVarD 0) tNilD)))
    tNextD)
  (tSeqD (tAsgD (tVarD 0) (gTupD 2 (gConsD (gNameD 1) (gConsD (gNameD 2) gNilD))))
  (tRetD (tAndE (tCallD sp_is_integer (tConsD (tVarD 1) tNilD)) (tAndE (tCallD sp_is_within (tConsD (tVarD 2) (tConsD (tCD (.int 2)) (tConsD (tCD .non) tNilD)))) (tOpD rdEq (tCBD rdGcd (tConsD (tVarD 1) (tConsD (tVarD 2) tNilD))) (tCD (.int 1))))))))
def t_is_spot : TSD := (tRetD (tAndE (tCallD sp_is_row_of (tConsD (tVarD 0) (tConsD (tCD (.int 2)) tNilD))) (tAndE (tCallD sp_is_number (tConsD (tOpD rdIx (tVarD 0) (tCD (.int 0))) tNilD)) (tCallD sp_is_number (tConsD (tOpD rdIx (tVarD 0) (tCD (.int 1))) tNilD)))))
theorem len1 {g : D → Bool} : ∀ ds M F E, spF1 g ds M F E → ds.length = 1 := fun ds M F E ⟨d, e, _⟩ => by rw [e]; rfl
theorem len_is_integer : ∀ ds M F E, sp_is_integer ds M F E → ds.length = 1 := len1
theorem len_is_number : ∀ ds M F E, sp_is_number ds M F E → ds.length = 1 := len1
theorem len_is_spot : ∀ ds M F E, sp_is_spot ds M F E → ds.length = 1 := len1
theorem len_is_within : ∀ ds M F E, sp_is_within ds M F E → ds.length = 3 := fun ds M F E ⟨_, _, _, e, _⟩ => by rw [e]; rfl
theorem len_is_row_of : ∀ ds M F E, sp_is_row_of ds M F E → ds.length = 2 := fun ds M F E ⟨_, _, e, _⟩ => by rw [e]; rfl
theorem int_val {d : D} (h : plainD d = true) {W : WD} {Q : QD} {τ : EnvD} {M : MH} {n : Nat} (hv : getN τ n = some d) (k : Q (.bl (isIntB d)) M) : tAndE (tIs (isTag .int) (tVarD n)) (tNotE (tIs (isTag .bool) (tVarD n))) W τ M Q := by
  refine w_andE (w_is (w_var hv ?_))
  rw [tag_int h]
  cases d <;> first
    | exact w_false k
    | (refine w_true (w_notE (w_is (w_var hv ?_))); exact k)
theorem wp_is_integer : ∀ ds M F FE, sp_is_integer ds M F FE → t_is_integer (fun C fs _ M => FE C fs M) { nx := fun _ M => F .non M, rt := F } (startD ["value"] ds) M := by
  rintro ds M F FE ⟨d, rfl, hp, k⟩
  exact int_val (n := 0) (τ := [some d]) hp rfl k
theorem wp_is_within : ∀ ds M F FE, sp_is_within ds M F FE → t_is_within (fun C fs _ M => FE C fs M) { nx := fun _ M => F .non M, rt := F } (startD ["value", "least", "most"] ds) M := by
  rintro ds M F FE ⟨v, l, m, rfl, hp, hl, hm, k⟩
  unfold t_is_within
  walk_at "z"
  refine f1_do hp ?_
  walk_at "z"
  cases v <;> first
    | (refine w_true ?_; walk_at "z"; exact k)
    | skip
  rename_i i
  refine w_false ?_
  walk_at "z"
  cases l <;> first | (cases hl; done) | skip
  all_goals
    cases m <;> first | (cases hm; done) | skip
  · walk_at "z"; exact k
  · walk_at "z"; exact k
  · walk_at "z"
    refine w_dec (fun c => ?_) (fun c => ?_) <;> walk_at "z" <;> simpa [withinB, c] using k
  · walk_at "z"
    refine w_dec (fun c => ?_) (fun c => ?_) <;> walk_at "z" <;> simpa [withinB, c] using k
theorem wp_is_row_of : ∀ ds M F FE, sp_is_row_of ds M F FE → t_is_row_of (fun C fs _ M => FE C fs M) { nx := fun _ M => F .non M, rt := F } (startD ["value", "length"] ds) M := by
  rintro ds M F FE ⟨v, n, rfl, hp, k⟩
  unfold t_is_row_of
  walk_at "z"
  rw [tag_lt hp]
  walk_at "z"
  unfold rowB at k
  cases v <;> first
    | (refine w_false ?_; exact k)
    | (refine w_true ?_; walk_at "z"; exact w_eq rfl k)
theorem seqD_some {v : D} {xs : List D} (h : seqD v = some xs) : v = .lst xs ∨ v = .tup xs := by cases v <;> cases h <;> simp
theorem wp_is_number : ∀ ds M F FE, sp_is_number ds M F FE → t_is_number (fun C fs _ M => FE C fs M) { nx := fun _ M => F .non M, rt := F } (startD ["value", "above", "below"] ds) M := by
  rintro ds M F FE ⟨v, rfl, hp, k⟩
  unfold t_is_number
  walk_at "z"
  refine ⟨_, _, rfl, hp, ?_⟩
  walk_at "z"
  cases hs : seqD v with
  | none =>
    have e1 : rowB 2 v = false := by unfold rowB; rw [hs]
    rw [e1]
    refine w_true ?_
    walk_at "z"
    refine f1_do hp ?_
    have e2 : isIntB v = isNumB v := by cases v <;> first | rfl | (cases hs)
    rw [e2]
    exact k
  | some xs =>
    have hv := seqD_some hs
    have hxs : plainDs xs = true := seq_plain hp hs
    have h2 : ∀ x y, xs = [x, y] → pairB x y = isNumB v := fun x y e => by subst e; rcases hv with rfl | rfl <;> cases x <;> cases y <;> rfl
    have h3 : xs.length ≠ 2 → isNumB v = false := fun h => by rcases hv with rfl | rfl <;> (unfold isNumB; split <;> first | rfl | simp_all)
    have h4 : isIntB v = false := by rcases hv with rfl | rfl <;> rfl
    have hr : rowB 2 v = decide ((xs.length : Int) = 2) := by rcases hv with rfl | rfl <;> rfl
    rw [hr]
    refine w_ndec (fun c => ?_) (fun c => ?_)
    · walk_at "z"
      refine f1_do hp ?_
      rw [h4]
      rw [h3 (by omega)] at k
      exact k
    · obtain ⟨x, y, rfl⟩ : ∃ x y, xs = [x, y] := by
        match xs, c with
        | [x, y], _ => exact ⟨x, y, rfl⟩
        | [], c => simp at c
        | [_], c => simp at c
        | _ :: _ :: _ :: r, c => simp at c; omega
      rw [← h2 x y rfl] at k
      have hx : plainD x = true := plainDs_iff.mp hxs x (by simp)
      have hy : plainD y = true := plainDs_iff.mp hxs y (by simp)
      walk_at "z"
      refine w_gtup (xs := [x, y]) (by rcases hv with rfl | rfl <;> rfl) rfl ?_
      walk_at "z"
      refine f1_do hx ?_
      cases x <;> first | exact w_false k | skip
      refine w_true ?_
      walk_at "z"
      refine ⟨_, _, _, rfl, hy, rfl, rfl, ?_⟩
      cases y <;> first | exact w_false k | skip
      rename_i a b
      have e1 : withinB (.int b) (.int 2) .non = decide (2 ≤ b) := by show (decide (2 ≤ b) && true) = _; rw [Bool.and_true]
      rw [e1]
      refine w_dec (fun c => ?_) (fun c => ?_)
      · walk_at "z"
        refine w_eq rfl ?_
        have e2 : pairB (.int a) (.int b) = decide (((Nat.gcd a.natAbs b.natAbs : Nat) : Int) = 1) := by
          show (decide (2 ≤ b) && decide (Nat.gcd a.natAbs b.natAbs = 1)) = _
          rw [decide_eq_true c, Bool.true_and]
          exact decide_eq_decide.mpr ⟨fun h => by omega, fun h => by omega⟩
        rw [e2] at k
        exact k
      · have e2 : pairB (.int a) (.int b) = false := by
          show (decide (2 ≤ b) && _) = _
          rw [decide_eq_false c, Bool.false_and]
        rw [e2] at k
        exact k
theorem wp_is_spot : ∀ ds M F FE, sp_is_spot ds M F FE → t_is_spot (fun C fs _ M => FE C fs M) { nx := fun _ M => F .non M, rt := F } (startD ["value"] ds) M := by
  rintro ds M F FE ⟨v, rfl, hp, k⟩
  unfold t_is_spot
  walk_at "z"
  refine ⟨_, _, rfl, hp, ?_⟩
  cases hs : seqD v with
  | none =>
    have e1 : rowB 2 v = false := by unfold rowB; rw [hs]
    have e2 : isSpotB v = false := by unfold isSpotB; rw [hs]
    rw [e1]
    rw [e2] at k
    exact w_false k
  | some xs =>
    have hv := seqD_some hs
    have hxs : plainDs xs = true := seq_plain hp hs
    have hr : rowB 2 v = decide ((xs.length : Int) = 2) := by rcases hv with rfl | rfl <;> rfl
    rw [hr]
    refine w_dec (fun c => ?_) (fun c => ?_)
    · obtain ⟨x, y, rfl⟩ : ∃ x y, xs = [x, y] := by
        match xs, c with
        | [x, y], _ => exact ⟨x, y, rfl⟩
        | [], c => simp at c
        | [_], c => simp at c
        | _ :: _ :: _ :: r, c => simp at c; omega
      have hx : plainD x = true := plainDs_iff.mp hxs x (by simp)
      have hy : plainD y = true := plainDs_iff.mp hxs y (by simp)
      have es : isSpotB v = (isNumB x && isNumB y) := by rcases hv with rfl | rfl <;> rfl
      have ix : ∀ (i : Int) (z : D) (Q : QD), atI [x, y] i = some z → Q z M → rdIx v (.int i) M Q := fun i z Q h q => by rcases hv with rfl | rfl; exact w_ixL h q; exact w_ixT h q
      rw [es] at k
      walk_at "z"
      refine ix 0 x _ rfl ?_
      walk_at "z"
      refine f1_do hx ?_
      refine w_bool (fun c => ?_) (fun c => ?_)
      · walk_at "z"
        refine ix 1 y _ rfl ?_
        walk_at "z"
        refine f1_do hy ?_
        rw [c, Bool.true_and] at k
        exact k
      · rw [c, Bool.false_and] at k
        exact k
    · have es : isSpotB v = false := by
        unfold isSpotB
        rcases hv with rfl | rfl <;> (dsimp only [seqD]; split <;> first | rfl | (rename_i h; cases h; simp at c))
      rw [es] at k
      exact k
/-! ### the law's own defs -/
def sp__law_part : SpD := fun ds M F _ => ∃ a b : Int, ds = [.int a, .int b] ∧ F (.bl (!decide (Nat.gcd a.natAbs b.natAbs = 1))) M
def sp__law_is_integer : SpD := spF1 isIntB
def sp__law_is_number : SpD := spF1 isNumB
def sp__law_integer : SpD := spDraw 2 (fun r => r = []) (fun _ d => ∃ i : Int, d = .int i)
def cV : Nat → Int | 0 => 6 | n + 1 => 3 + 3 * cV n
def sp_value (n : Nat) : SpD := spDraw (cV n) (fun r => r = [.int n]) (fun _ d => plainD d = true)
def sp__law_value : SpD := sp_value 2
def t__law_part : TSD := (tSeqD (tParD 0 1 (tConsD (tCBD rdAbs (tConsD (tVarD 0) tNilD)) (tConsD (tCBD rdAbs (tConsD (tVarD 1) tNilD)) tNilD)))
  (tSeqD (tWhileD (tTestB (tOpD (rdB fun i j => decide (j < i)) (tVarD 1) (tCD (.int 0))))
    (tParD 0 1 (tConsD (tVarD 1) (tConsD (tOpD (rdIC (fun _ j => 0 < j) fun i j => i % j) (tCBD rdInt (tConsD (tVarD 0) tNilD)) (tVarD 1)) tNilD))))
  (tRetD (tOpD rdNe (tVarD 0) (tCD (.int 1))))))
def t__law_is_integer : TSD := (tRetD (tAndE (tIs (isTag .int) (tVarD 0)) (tNotE (tIs (isTag .bool) (tVarD 0)))))
def t__law_is_number : TSD := (tSeqD (tIfD (tTruD (tCallD sp__law_is_integer (tConsD (tVarD 0) tNilD)))
    (tRetD (tCD (.bl true)))
    tNextD)
  (tSeqD (tIfD (tOrD (tNotD (tTruD (tIs (isTag2 .list .tuple) (tVarD 0)))) (tOrD (tTestB (tOpD rdNe (tCBD rdLen (tConsD (tVarD 0) tNilD)) (tCD (.int 2)))) (tOrD (tNotD (tTruD (tCallD sp__law_is_integer (tConsD (tOpD rdIx (tVarD 0) (tCD (.int 0))) tNilD)))) (tNotD (tTruD (tCallD sp__law_is_integer (tConsD (tOpD rdIx (tVarD 0) (tCD (.int 1))) tNilD)))))))
    (tRetD (tCD (.bl false)))
    tNextD)
  (tRetD (tAndE (tOpD (rdB fun i j => decide (j ≤ i)) (tOpD rdIx (tVarD 0) (tCD (.int 1))) (tCD (.int 2))) (tNotE (tCallD sp__law_part (tConsD (tOpD rdIx (tVarD 0) (tCD (.int 0))) (tConsD (tOpD rdIx (tVarD 0) (tCD (.int 1))) tNilD))))))))
def t__law_integer : TSD := (tSeqD (tSetD 1 (tCallD spPick (tConsD (tVarD 0) (tConsD (tLstD (tConsD (tCD (.int 3)) (tConsD (tCD (.int 7)) (tConsD (tCD (.int 30)) (tConsD (tOpD (rdIC CPow fun i j => i ^ j.toNat) (tCD (.int 10)) (tCD (.int 9))) (tConsD (tOpD (rdIC CPow fun i j => i ^ j.toNat) (tCD (.int 10)) (tCD (.int 25))) tNilD)))))) tNilD))))
  (tRetD (tOpD (rdI fun i j => i - j) (tCallD spSieve (tConsD (tVarD 0) (tConsD (tOpD rdAdd (tOpD rdMul (tCD (.int 2)) (tVarD 1)) (tCD (.int 1))) tNilD))) (tVarD 1))))
def t__law_value (spR : SpD) : TSD := (tSeqD (tSetD 2 (tCallD spSieve (tConsD (tVarD 0) (tConsD (tCD (.int 9)) tNilD))))
  (tSeqD (tIfD (tTestB (tOpD (rdB fun i j => decide (i < j)) (tVarD 2) (tCD (.int 2))))
    (tRetD (tCallD sp__law_integer (tConsD (tVarD 0) tNilD)))
    tNextD)
  (tSeqD (tIfD (tTestB (tOpD (rdB fun i j => decide (i < j)) (tVarD 2) (tCD (.int 5))))
    (tSeqD (tSetD 3 (tCallD spPick (tConsD (tVarD 0) (tConsD (tLstD (tConsD (tCD (.int 1)) (tConsD (tCD (.int 1)) (tConsD (tCD (.int 2)) (tConsD (tCD (.int 3)) (tConsD (tCD (.int 0)) (tConsD (tUnD rdNeg (tCD (.int 1))) tNilD))))))) tNilD))))
  (tSeqD (tSetD 4 (tLstD (tConsD (tOpD rdMul (tVarD 3) (tCallD sp__law_integer (tConsD (tVarD 0) tNilD))) (tConsD (tOpD rdMul (tVarD 3) (tCallD spPick (tConsD (tVarD 0) (tConsD (tLstD (tConsD (tCD (.int 2)) (tConsD (tCD (.int 3)) (tConsD (tCD (.int 5)) (tConsD (tCD (.int 6)) (tConsD (tCD (.int 7)) (tConsD (tCD (.int 1)) (tConsD (tCD (.int 0)) (tConsD (tUnD rdNeg (tCD (.int 2))) (tConsD (tOpD rdAdd (tOpD (rdIC CPow fun i j => i ^ j.toNat) (tCD (.int 10)) (tCD (.int 12))) (tCD (.int 39))) tNilD)))))))))) tNilD)))) tNilD))))
  (tRetD (tIfE (tTestB (tOpD rdEq (tCallD spSieve (tConsD (tVarD 0) (tConsD (tCD (.int 2)) tNilD))) (tCD (.int 0)))) (tVarD 4) (tTupOf (tVarD 4))))))
    tNextD)
  (tSeqD (tIfD (tAndD (tTestB (tOpD (rdB fun i j => decide (i < j)) (tVarD 2) (tCD (.int 7)))) (tTestB (tOpD (rdB fun i j => decide (j < i)) (tVarD 1) (tCD (.int 0)))))
    (tSeqD (tSetD 5 (tLcD (iRngD (tConsD (tCallD spPick (tConsD (tVarD 0) (tConsD (tLstD (tConsD (tCD (.int 2)) (tConsD (tCD (.int 2)) (tConsD (tCD (.int 2)) (tConsD (tCD (.int 1)) (tConsD (tCD (.int 3)) (tConsD (tCD (.int 0)) tNilD))))))) tNilD))) tNilD)) (gNameD 6) tYesD (tCallD spR (tConsD (tVarD 0) (tConsD (tOpD (rdI fun i j => i - j) (tVarD 1) (tCD (.int 1))) tNilD))) [6]))
  (tRetD (tIfE (tTestB (tOpD rdEq (tCallD spSieve (tConsD (tVarD 0) (tConsD (tCD (.int 2)) tNilD))) (tCD (.int 0)))) (tVarD 5) (tTupOf (tVarD 5)))))
    tNextD)
  (tRetD (tCallD spPick (tConsD (tVarD 0) (tConsD (tLstD (tConsD (tCD .non) (tConsD (tCD (.bl true)) (tConsD (tCD (.bl false)) (tConsD (tCD (.str "7")) (tConsD (tCD (.str "")) (tConsD (tCD (.str "7/2")) (tConsD (tTupD (tConsD (tCD (.bl true)) (tConsD (tCD (.int 2)) tNilD))) (tConsD (tTupD (tConsD (tCD (.int 1)) (tConsD (tCD (.bl true)) tNilD))) (tConsD (tTupD (tConsD (tCD (.int 1)) (tConsD (tCD .non) tNilD))) (tConsD (tTupD (tConsD (tCD (.str "1")) (tConsD (tCD (.int 2)) tNilD))) (tConsD (tCD (.dct [])) (tConsD (tDictD (tConsP (Sum.inl 0) (tCD (.int 1)) (tConsP (Sum.inl 1) (tCD (.int 2)) tNilP))) (tConsD (tLstD (tConsD (tCD .non) (tConsD (tCD (.int 2)) tNilD))) tNilD)))))))))))))) tNilD))))))))
def t_law : TSD := (tSeqD (tSetD 1 (tCallD spGrit (tConsD (tVarD 0) tNilD)))
  (tSeqD (tForD (iRngD (tConsD (tCD (.int 12)) tNilD)) (gNameD 2)
    (tSeqD (tSetD 3 (tCallD sp__law_value (tConsD (tVarD 1) (tConsD (tCD (.int 2)) tNilD))))
  (tSeqD (tAsgD (tLcD (iSeqD (tTupD (tConsD (tCD (.int 0)) (tConsD (tCD (.int 1)) tNilD)))) (gNameD 11) tYesD (tCallD spPick (tConsD (tVarD 1) (tConsD (tLstD (tConsD (tCD .non) (tConsD (tCallD sp__law_integer (tConsD (tVarD 1) tNilD)) (tConsD (tIfE (tTruD (tCallD sp__law_is_integer (tConsD (tVarD 3) tNilD))) (tVarD 3) (tCD (.int 0))) tNilD)))) tNilD))) [11]) (gTupD 2 (gConsD (gNameD 4) (gConsD (gNameD 5) gNilD))))
  (tSeqD (tSetD 6 (tAndE (tCallD sp__law_is_integer (tConsD (tVarD 3) tNilD)) (tAndE (tOrE (tIsND (tVarD 4)) (tOpD (rdB fun i j => decide (i ≤ j)) (tVarD 4) (tVarD 3))) (tOrE (tIsND (tVarD 5)) (tOpD (rdB fun i j => decide (i ≤ j)) (tVarD 3) (tVarD 5))))))
  (tSeqD (tSetD 7 (tAndE (tIs (isTag2 .list .tuple) (tVarD 3)) (tOpD rdEq (tCBD rdLen (tConsD (tVarD 3) tNilD)) (tCD (.int 2)))))
  (tSeqD (tSetD 8 (tLstD (tConsD (tCallD sp__law_is_integer (tConsD (tVarD 3) tNilD)) (tConsD (tVarD 6) (tConsD (tCallD sp__law_is_number (tConsD (tVarD 3) tNilD)) (tConsD (tAndE (tVarD 7) (tAndE (tCallD sp__law_is_number (tConsD (tOpD rdIx (tVarD 3) (tCD (.int 0))) tNilD)) (tCallD sp__law_is_number (tConsD (tOpD rdIx (tVarD 3) (tCD (.int 1))) tNilD)))) tNilD))))))
  (tSeqD (tSetD 9 (tLstD (tConsD (tCallD sp_is_integer (tConsD (tVarD 3) tNilD)) (tConsD (tCallD sp_is_within (tConsD (tVarD 3) (tConsD (tVarD 4) (tConsD (tVarD 5) tNilD)))) (tConsD (tCallD sp_is_number (tConsD (tVarD 3) tNilD)) (tConsD (tCallD sp_is_spot (tConsD (tVarD 3) tNilD)) tNilD))))))
  (tSeqD (tSetD 10 (tLstD (tConsD (tCallKD sp_is_integer [0] (tConsD (tVarD 3) tNilD)) (tConsD (tCallKD sp_is_within [2, 1, 0] (tConsD (tVarD 5) (tConsD (tVarD 4) (tConsD (tVarD 3) tNilD)))) (tConsD (tCallKD sp_is_number [0] (tConsD (tVarD 3) tNilD)) (tConsD (tCallKD sp_is_spot [0] (tConsD (tVarD 3) tNilD)) tNilD))))))
  (tIfD (tOrD (tTestB (tOpD rdNe (tReprD (tVarD 9)) (tReprD (tVarD 8)))) (tTestB (tOpD rdNe (tReprD (tVarD 10)) (tReprD (tVarD 8)))))
    (tRetD (tCD (.bl false)))
    tNextD)))))))))
  (tRetD (tCD (.bl true)))))
theorem len__law_part : ∀ ds M F E, sp__law_part ds M F E → ds.length = 2 := fun ds M F E ⟨_, _, e, _⟩ => by rw [e]; rfl
theorem len__law_is_integer : ∀ ds M F E, sp__law_is_integer ds M F E → ds.length = 1 := len1
theorem len__law_is_number : ∀ ds M F E, sp__law_is_number ds M F E → ds.length = 1 := len1
theorem len__law_integer : ∀ ds M F E, sp__law_integer ds M F E → ds.length = 1 := fun ds M F E ⟨_, _, _, e, e2, _⟩ => by rw [e, e2]; rfl
theorem len_value {n : Nat} : ∀ ds M F E, sp_value n ds M F E → ds.length = 2 := fun ds M F E ⟨_, _, _, e, e2, _⟩ => by rw [e, e2]; rfl
theorem len_sieve : ∀ ds M F E, spSieve ds M F E → ds.length = 2 := fun ds M F E ⟨_, _, _, e, ⟨_, e2, _⟩, _⟩ => by rw [e, e2]; rfl
theorem len_pick : ∀ ds M F E, spPick ds M F E → ds.length = 2 := fun ds M F E ⟨_, _, _, e, ⟨_, e2, _⟩, _⟩ => by rw [e, e2]; rfl
theorem len_grit : ∀ ds M F E, spGrit ds M F E → ds.length = 1 := fun ds M F E ⟨_, e, _⟩ => by rw [e]; rfl
theorem len_law : ∀ ds M F E, spLaw ds M F E → ds.length = 1 := fun ds M F E ⟨_, e, _⟩ => by rw [e]; rfl
theorem wp__law_is_integer : ∀ ds M F FE, sp__law_is_integer ds M F FE → t__law_is_integer (fun C fs _ M => FE C fs M) { nx := fun _ M => F .non M, rt := F } (startD ["_law_value_here"] ds) M := by
  rintro ds M F FE ⟨d, rfl, hp, k⟩
  exact int_val (n := 0) (τ := [some d]) hp rfl k
theorem wp__law_part : ∀ ds M F FE, sp__law_part ds M F FE → t__law_part (fun C fs _ M => FE C fs M) { nx := fun _ M => F .non M, rt := F } (startD ["_law_one", "_law_other"] ds) M := by
  rintro ds M F FE ⟨a, b, rfl, k⟩
  unfold t__law_part
  walk_at "z"
  refine ⟨fun τ' M' => M' = M ∧ ∃ x y : Nat, τ' = [some (.int x), some (.int y)] ∧ Nat.gcd x y = Nat.gcd a.natAbs b.natAbs, fun τ' _ => match τ' with | [_, some (.int y)] => y.toNat | _ => 0, ⟨rfl, a.natAbs, b.natAbs, ?_, rfl⟩, ?_⟩
  · have ab : ∀ z : Int, (if z < 0 then -z else z) = (z.natAbs : Int) := fun z => by split <;> omega
    show [some (D.int _), some (D.int _)] = _
    rw [ab, ab]
  · rintro τ' M' ⟨rfl, x, y, rfl, g⟩
    walk_at "z"
    refine w_dec (fun c => ?_) (fun c => ?_)
    · walk_at "z"
      refine w_rdIC c ?_
      walk_at "z"
      have e : (x : Int) % (y : Int) = ((x % y : Nat) : Int) := by omega
      refine ⟨⟨rfl, y, x % y, by rw [e]; rfl, ?_⟩, ?_⟩
      · rw [← g, Nat.gcd_comm x y, Nat.gcd_rec y x, Nat.gcd_comm]
      · show ((x : Int) % (y : Int)).toNat < (y : Int).toNat
        rw [e]
        have := Nat.mod_lt x (show 0 < y by omega)
        omega
    · have y0 : y = 0 := by omega
      subst y0
      rw [Nat.gcd_zero_right] at g
      walk_at "z"
      refine w_ne rfl ?_
      have e : decide ((x : Int) = 1) = decide (Nat.gcd a.natAbs b.natAbs = 1) := decide_eq_decide.mpr ⟨fun h => by omega, fun h => by omega⟩
      rw [e]
      exact k
theorem wp__law_is_number : ∀ ds M F FE, sp__law_is_number ds M F FE → t__law_is_number (fun C fs _ M => FE C fs M) { nx := fun _ M => F .non M, rt := F } (startD ["_law_value_here"] ds) M := by
  rintro ds M F FE ⟨v, rfl, hp, k⟩
  unfold t__law_is_number
  walk_at "z"
  refine f1_do hp ?_
  walk_at "z"
  cases hs : seqD v with
  | none =>
    have hn : isNumB v = isIntB v := by cases v <;> first | rfl | (cases hs)
    rw [hn] at k
    refine w_bool (fun c => ?_) (fun c => ?_)
    · rw [c] at k; walk_at "z"; exact k
    · rw [c] at k
      walk_at "z"
      rw [tag_lt hp, hs]
      refine w_true ?_
      refine w_true ?_
      walk_at "z"
      exact k
  | some xs =>
    have hv := seqD_some hs
    have hxs : plainDs xs = true := seq_plain hp hs
    have h4 : isIntB v = false := by rcases hv with rfl | rfl <;> rfl
    have h2 : ∀ x y, xs = [x, y] → pairB x y = isNumB v := fun x y e => by subst e; rcases hv with rfl | rfl <;> cases x <;> cases y <;> rfl
    have h3 : xs.length ≠ 2 → isNumB v = false := fun h => by rcases hv with rfl | rfl <;> (unfold isNumB; split <;> first | rfl | simp_all)
    have ix : ∀ (i : Int) (z : D) (Q : QD), atI xs i = some z → Q z M → rdIx v (.int i) M Q := fun i z Q h q => by rcases hv with rfl | rfl; exact w_ixL h q; exact w_ixT h q
    have ln : ∀ (Q : QD), Q (.int xs.length) M → rdLen [v] M Q := fun Q q => by rcases hv with rfl | rfl; exact w_lenL q; exact w_lenT q
    rw [h4]
    refine w_false ?_
    walk_at "z"
    rw [tag_lt hp, hs]
    dsimp only [Option.isSome]
    walk_at "z"
    refine w_false ?_
    walk_at "z"
    refine ln _ ?_
    walk_at "z"
    refine w_ne rfl ?_
    refine w_ndec (fun c => ?_) (fun c => ?_)
    · walk_at "z"
      rw [h3 (by omega)] at k
      exact k
    · obtain ⟨x, y, rfl⟩ : ∃ x y, xs = [x, y] := by
        match xs, c with
        | [x, y], _ => exact ⟨x, y, rfl⟩
        | [], c => simp at c
        | [_], c => simp at c
        | _ :: _ :: _ :: r, c => simp at c; omega
      rw [← h2 x y rfl] at k
      have hx : plainD x = true := plainDs_iff.mp hxs x (by simp)
      have hy : plainD y = true := plainDs_iff.mp hxs y (by simp)
      walk_at "z"
      refine ix 0 x _ rfl ?_
      walk_at "z"
      refine f1_do hx ?_
      walk_at "z"
      cases x <;> first | (refine w_true ?_; walk_at "z"; exact k) | skip
      refine w_false ?_
      walk_at "z"
      refine ix 1 y _ rfl ?_
      walk_at "z"
      refine f1_do hy ?_
      walk_at "z"
      rename_i a
      cases y <;> first | (refine w_true ?_; walk_at "z"; exact k) | skip
      refine w_false ?_
      walk_at "z"
      rename_i b
      refine ix 1 (.int b) _ rfl ?_
      walk_at "z"
      have e0 : pairB (.int a) (.int b) = (decide (2 ≤ b) && decide (Nat.gcd a.natAbs b.natAbs = 1)) := rfl
      rw [e0] at k
      refine w_dec (fun c => ?_) (fun c => ?_)
      · walk_at "z"
        refine ix 0 (.int a) _ rfl ?_
        walk_at "z"
        refine ix 1 (.int b) _ rfl ?_
        walk_at "z"
        refine ⟨a, b, rfl, ?_⟩
        rw [decide_eq_true c, Bool.true_and] at k
        show F (.bl (!!_)) M
        rw [Bool.not_not]
        exact k
      · rw [decide_eq_false c, Bool.false_and] at k
        exact k
theorem log2_lt {n : Nat} (h : n < 2 ^ 200) : n.log2 < 9000 := by
  by_cases h0 : n = 0
  · subst h0; decide
  · have h2 : n.log2 < 200 := (Nat.log2_lt h0).mpr h
    omega
theorem wp__law_integer : ∀ ds M F FE, sp__law_integer ds M F FE → t__law_integer (fun C fs _ M => FE C fs M) { nx := fun _ M => F .non M, rt := F } (startD ["_law_grit_here", "_law_most"] ds) M := by
  rintro ds M F FE ⟨a, t, rest, rfl, rfl, hN, ht, k⟩
  unfold t__law_integer
  walk_at "z"
  refine w_rdIC (by show CPow 10 9; unfold CPow; omega) ?_
  walk_at "z"
  refine w_rdIC (by show CPow 10 25; unfold CPow; omega) ?_
  walk_at "z"
  refine w_small (by decide) ?_
  walk_at "z"
  refine pick_do hN (by omega) (by decide) (by decide) fun d M1 hd n1 u1 => ?_
  obtain ⟨m, rfl, m0, m1⟩ : ∃ m : Int, d = .int m ∧ 0 ≤ m ∧ m ≤ 10000000000000000000000000 := by
    simp only [List.mem_cons, List.not_mem_nil, or_false] at hd
    rcases hd with rfl | rfl | rfl | rfl | rfl <;> exact ⟨_, rfl, by decide, by decide⟩
  walk_at "z"
  refine w_rdMul (mulOk_l ⟨by omega, by omega⟩) ?_
  walk_at "z"
  refine sieve_do n1 (by omega) (by omega) (log2_lt (by omega)) fun n M2 n0 nm n2 u2 => ?_
  walk_at "z"
  exact k _ _ (n2.mono (by omega)) (u1.trans u2) ⟨_, rfl⟩
theorem value_last {W : WD} {F : QD} {a : Addr} {t : Int} {M : MH} {τ : EnvD} {N : EnvD → MH → Prop} (hτ : getN τ 0 = some (.ref a)) (hN : NutAt M a t) (ht : t + 1 ≤ 8000000) (k : ∀ d M', plainD d = true → NutAt M' a (t + 1) → Upd1 M a M' → F d M') :
    (tRetD (tCallD spPick (tConsD (tVarD 0) (tConsD (tLstD (tConsD (tCD .non) (tConsD (tCD (.bl true)) (tConsD (tCD (.bl false)) (tConsD (tCD (.str "7")) (tConsD (tCD (.str "")) (tConsD (tCD (.str "7/2")) (tConsD (tTupD (tConsD (tCD (.bl true)) (tConsD (tCD (.int 2)) tNilD))) (tConsD (tTupD (tConsD (tCD (.int 1)) (tConsD (tCD (.bl true)) tNilD))) (tConsD (tTupD (tConsD (tCD (.int 1)) (tConsD (tCD .non) tNilD))) (tConsD (tTupD (tConsD (tCD (.str "1")) (tConsD (tCD (.int 2)) tNilD))) (tConsD (tCD (.dct [])) (tConsD (tDictD (tConsP (Sum.inl 0) (tCD (.int 1)) (tConsP (Sum.inl 1) (tCD (.int 2)) tNilP))) (tConsD (tLstD (tConsD (tCD .non) (tConsD (tCD (.int 2)) tNilD))) tNilD)))))))))))))) tNilD)))) W { nx := N, rt := F } τ M := by
  refine w_ret ?_
  refine w_call ?_
  refine w_cons (w_var hτ ?_)
  walk_at "z"
  refine w_small (by show 2 ≤ 16777216; decide) ?_
  walk_at "z"
  refine w_small (by show 2 ≤ 16777216; decide) ?_
  walk_at "z"
  refine w_small (by show 2 ≤ 16777216; decide) ?_
  walk_at "z"
  refine w_small (by show 2 ≤ 16777216; decide) ?_
  walk_at "z"
  refine w_dict fun p hp => ?_
  walk_at "z"
  refine ⟨mput_same, ?_⟩
  rw [mdel_mput hp]
  walk_at "z"
  refine w_small (by show 2 ≤ 16777216; decide) ?_
  walk_at "z"
  refine w_small (by show 13 ≤ 16777216; decide) ?_
  walk_at "z"
  refine pick_do hN ht (by show 0 < 13; decide) (by show 13 ≤ 1000; decide) fun d M' hd n' u' => k d M' ?_ n' u'
  simp only [List.mem_cons, List.not_mem_nil, or_false] at hd
  rcases hd with rfl | rfl | rfl | rfl | rfl | rfl | rfl | rfl | rfl | rfl | rfl | rfl | rfl <;> rfl
theorem wp_value0 : ∀ ds M F FE, sp_value 0 ds M F FE → t__law_value (fun _ _ _ _ => False) (fun C fs _ M => FE C fs M) { nx := fun _ M => F .non M, rt := F } (startD ["_law_grit_here", "_law_deep", "_law_way", "_law_part_here", "_law_pair", "_law_some", "_law_turn"] ds) M := by
  rintro ds M F FE ⟨a, t, rest, rfl, rfl, hN, ht, k⟩
  have c1 : cV 0 = 6 := rfl
  have k' : ∀ d M' t', NutAt M' a t' → t' ≤ t + cV 0 → Upd1 M a M' → plainD d = true → F d M' := fun d M' t' h1 h2 h3 h4 => k d M' (h1.mono h2) h3 h4
  unfold t__law_value
  walk_at "z"
  refine sieve_do hN (by omega) (by decide) (by decide) fun way M1 _ _ n1 u1 => ?_
  walk_at "z"
  refine w_dec (fun c => ?_) (fun c => ?_)
  · walk_at "z"
    refine draw_do n1 (by omega) rfl fun d M2 n2 u2 ⟨i, e⟩ => ?_
    subst e
    exact k' _ _ _ n2 (by omega) (u1.trans u2) rfl
  walk_at "z"
  refine w_dec (fun c => ?_) (fun c => ?_)
  · walk_at "z"
    refine w_small (by decide) ?_
    walk_at "z"
    refine pick_do n1 (by omega) (by decide) (by decide) fun d M2 hd n2 u2 => ?_
    obtain ⟨p, rfl, p0, p1⟩ : ∃ m : Int, d = .int m ∧ -3 ≤ m ∧ m ≤ 3 := by
      simp only [List.mem_cons, List.not_mem_nil, or_false] at hd
      rcases hd with rfl | rfl | rfl | rfl | rfl | rfl <;> exact ⟨_, rfl, by decide, by decide⟩
    walk_at "z"
    refine draw_do n2 (by omega) rfl fun d M3 n3 u3 ⟨i, e⟩ => ?_
    subst e
    refine w_rdMul (mulOk_l ⟨by omega, by omega⟩) ?_
    walk_at "z"
    refine w_rdIC (by show CPow 10 12; unfold CPow; omega) ?_
    walk_at "z"
    refine w_small (by decide) ?_
    walk_at "z"
    refine pick_do n3 (by omega) (by decide) (by decide) fun d M4 hd n4 u4 => ?_
    obtain ⟨q, rfl⟩ : ∃ m : Int, d = .int m := by
      simp only [List.mem_cons, List.not_mem_nil, or_false] at hd
      rcases hd with rfl | rfl | rfl | rfl | rfl | rfl | rfl | rfl | rfl <;> exact ⟨_, rfl⟩
    refine w_rdMul (mulOk_l ⟨by omega, by omega⟩) ?_
    walk_at "z"
    refine w_small (by show 2 ≤ 16777216; decide) ?_
    walk_at "z"
    refine sieve_do n4 (by omega) (by decide) (by decide) fun n M5 _ _ n5 u5 => ?_
    walk_at "z"
    refine w_eq rfl ?_
    have u := (((u1.trans u2).trans u3).trans u4).trans u5
    refine w_dec (fun c => ?_) (fun c => ?_) <;> walk_at "z" <;> exact k' _ _ _ n5 (by omega) u rfl
  walk_at "z"
  refine w_dec (fun c => ?_) (fun c => ?_)
  · walk_at "z"
    refine w_dec (fun c => absurd c (by decide)) (fun c => ?_)
    refine w_next ?_
    refine value_last (τ := [some (.ref a), some (.int _), some (.int way), none, none, none, none]) rfl n1 (by omega) fun d M2 hd n2 u2 => k' _ _ _ n2 (by omega) (u1.trans u2) hd
  · refine w_false (w_next ?_)
    refine value_last (τ := [some (.ref a), some (.int _), some (.int way), none, none, none, none]) rfl n1 (by omega) fun d M2 hd n2 u2 => k' _ _ _ n2 (by omega) (u1.trans u2) hd
theorem wp_valueS (deep : Nat) (hd : deep ≤ 10) : ∀ ds M F FE, sp_value (deep + 1) ds M F FE → t__law_value (sp_value deep) (fun C fs _ M => FE C fs M) { nx := fun _ M => F .non M, rt := F } (startD ["_law_grit_here", "_law_deep", "_law_way", "_law_part_here", "_law_pair", "_law_some", "_law_turn"] ds) M := by
  rintro ds M F FE ⟨a, t, rest, rfl, rfl, hN, ht, k⟩
  have c0 : ∀ n, 6 ≤ cV n := fun n => by induction n with | zero => exact Int.le_refl _ | succ n ih => show 6 ≤ 3 + 3 * cV n; omega
  have c1 : cV (deep + 1) = 3 + 3 * cV deep := rfl
  have c2 := c0 deep
  have k' : ∀ d M' t', NutAt M' a t' → t' ≤ t + cV (deep + 1) → Upd1 M a M' → plainD d = true → F d M' := fun d M' t' h1 h2 h3 h4 => k d M' (h1.mono h2) h3 h4
  unfold t__law_value
  walk_at "z"
  refine sieve_do hN (by omega) (by decide) (by decide) fun way M1 _ _ n1 u1 => ?_
  walk_at "z"
  refine w_dec (fun c => ?_) (fun c => ?_)
  · walk_at "z"
    refine draw_do n1 (by omega) rfl fun d M2 n2 u2 ⟨i, e⟩ => ?_
    subst e
    exact k' _ _ _ n2 (by omega) (u1.trans u2) rfl
  walk_at "z"
  refine w_dec (fun c => ?_) (fun c => ?_)
  · walk_at "z"
    refine w_small (by decide) ?_
    walk_at "z"
    refine pick_do n1 (by omega) (by decide) (by decide) fun d M2 hd n2 u2 => ?_
    obtain ⟨p, rfl, p0, p1⟩ : ∃ m : Int, d = .int m ∧ -3 ≤ m ∧ m ≤ 3 := by
      simp only [List.mem_cons, List.not_mem_nil, or_false] at hd
      rcases hd with rfl | rfl | rfl | rfl | rfl | rfl <;> exact ⟨_, rfl, by decide, by decide⟩
    walk_at "z"
    refine draw_do n2 (by omega) rfl fun d M3 n3 u3 ⟨i, e⟩ => ?_
    subst e
    refine w_rdMul (mulOk_l ⟨by omega, by omega⟩) ?_
    walk_at "z"
    refine w_rdIC (by show CPow 10 12; unfold CPow; omega) ?_
    walk_at "z"
    refine w_small (by decide) ?_
    walk_at "z"
    refine pick_do n3 (by omega) (by decide) (by decide) fun d M4 hd n4 u4 => ?_
    obtain ⟨q, rfl⟩ : ∃ m : Int, d = .int m := by
      simp only [List.mem_cons, List.not_mem_nil, or_false] at hd
      rcases hd with rfl | rfl | rfl | rfl | rfl | rfl | rfl | rfl | rfl <;> exact ⟨_, rfl⟩
    refine w_rdMul (mulOk_l ⟨by omega, by omega⟩) ?_
    walk_at "z"
    refine w_small (by show 2 ≤ 16777216; decide) ?_
    walk_at "z"
    refine sieve_do n4 (by omega) (by decide) (by decide) fun n M5 _ _ n5 u5 => ?_
    walk_at "z"
    refine w_eq rfl ?_
    have u := (((u1.trans u2).trans u3).trans u4).trans u5
    refine w_dec (fun c => ?_) (fun c => ?_) <;> walk_at "z" <;> exact k' _ _ _ n5 (by omega) u rfl
  walk_at "z"
  refine w_dec (fun c => ?_) (fun c => ?_)
  · walk_at "z"
    refine w_dec (fun c => ?_) (fun c => ?_)
    · walk_at "z"
      refine w_lc ?_
      walk_at "z"
      refine w_small (by decide) ?_
      walk_at "z"
      refine pick_do n1 (by omega) (by decide) (by decide) fun d M2 hd n2 u2 => ?_
      obtain ⟨m, rfl, m0, m1⟩ : ∃ m : Int, d = .int m ∧ 0 ≤ m ∧ m ≤ 3 := by
        simp only [List.mem_cons, List.not_mem_nil, or_false] at hd
        rcases hd with rfl | rfl | rfl | rfl | rfl | rfl <;> exact ⟨_, rfl, by decide, by decide⟩
      refine ⟨⟨by omega, by omega⟩, ?_⟩
      have le : ((upFrom 0 m.toNat).length : Int) * cV deep ≤ 3 * cV deep := Int.mul_le_mul_of_nonneg_right (by rw [upFrom_len]; omega) (by omega)
      refine lc_draw (P := fun d => plainD d = true) (c := cV deep) (upFrom 0 m.toNat) M2 n2 (by omega) (by rw [upFrom_len]; omega) ?_ ?_ (fun R h => h)
      · intro x hx t' M3 R n3 t1 t2 r
        walk_at "z"
        have e : ((deep + 1 : Nat) : Int) - 1 = (deep : Int) := by omega
        rw [e]
        exact draw_do n3 (by omega) rfl r
      · intro ds M3 n3 u3 hl hd
        walk_at "z"
        refine sieve_do n3 (by omega) (by decide) (by decide) fun n M4 _ _ n4 u4 => ?_
        walk_at "z"
        refine w_eq rfl ?_
        have u := ((u1.trans u2).trans u3).trans u4
        refine w_dec (fun c => ?_) (fun c => ?_) <;> walk_at "z" <;> exact k' _ _ _ n4 (by omega) u (plainDs_iff.mpr hd)
    · exact absurd (show (0 : Int) < ((deep + 1 : Nat) : Int) by omega) c
  · refine w_false (w_next ?_)
    refine value_last (τ := [some (.ref a), some (.int _), some (.int way), none, none, none, none]) rfl n1 (by omega) fun d M2 hd n2 u2 => k' _ _ _ n2 (by omega) (u1.trans u2) hd
theorem bools_py (b1 b2 b3 b4 : Bool) : toPy (.lst [.bl b1, .bl b2, .bl b3, .bl b4]) = some (.list [.bool b1, .bool b2, .bool b3, .bool b4]) := rfl
theorem bools_ok (b1 b2 b3 b4 : Bool) : okRepr (.list [.bool b1, .bool b2, .bool b3, .bool b4]) := by
  refine ⟨rfl, ?_, by show 1 ≤ 64; decide⟩
  cases b1 <;> cases b2 <;> cases b3 <;> cases b4 <;> decide +kernel
theorem eq_self_str (x : Str) : eqD (.str x) (.str x) = some true := by show some (decide (x = x)) = _; rw [decide_eq_true rfl]
section
variable {W : WD} {τ : EnvD} {M : MH} {Q : QD} {v l m : D}
theorem law_within (h3 : getN τ 3 = some v) (h4 : getN τ 4 = some l) (h5 : getN τ 5 = some m) (hv : plainD v = true) (hl : boundB l = true) (hm : boundB m = true) (k : Q (.bl (withinB v l m)) M) :
    tAndE (tCallD sp__law_is_integer (tConsD (tVarD 3) tNilD)) (tAndE (tOrE (tIsND (tVarD 4)) (tOpD (rdB fun i j => decide (i ≤ j)) (tVarD 4) (tVarD 3))) (tOrE (tIsND (tVarD 5)) (tOpD (rdB fun i j => decide (i ≤ j)) (tVarD 3) (tVarD 5)))) W τ M Q := by
  refine w_andE (w_call (w_cons (w_var h3 (w_nil (f1_do hv ?_)))))
  cases v <;> first | exact w_false k | skip
  rename_i i
  refine w_true (w_andE (w_orE (w_isN (w_var h4 ?_))))
  have two : ∀ b1 : Bool, (∀ c : D, withinB (.int i) l m = (b1 && topB i m)) → (b1 = true → tOrE (tIsND (tVarD 5)) (tOpD (rdB fun i j => decide (i ≤ j)) (tVarD 3) (tVarD 5)) W τ M Q) ∧ (b1 = false → Q (.bl false) M) := fun b1 e => by
    refine w_bool (fun c => ?_) (fun c => ?_)
    · rw [e .non, c, Bool.true_and] at k
      refine w_orE (w_isN (w_var h5 ?_))
      cases m <;> first | (cases hm; done) | skip
      · exact w_true k
      · exact w_false (w_op (w_var h3 (w_var h5 (w_rdB k))))
    · rw [e .non, c, Bool.false_and] at k
      exact k
  cases l <;> first | (cases hl; done) | skip
  · exact w_true (two true fun _ => rfl)
  · exact w_false (w_op (w_var h4 (w_var h3 (w_rdB (two _ fun _ => rfl)))))
theorem law_pair (h3 : getN τ 3 = some v) (hv : plainD v = true) (k : Q (.bl (rowB 2 v)) M) : tAndE (tIs (isTag2 .list .tuple) (tVarD 3)) (tOpD rdEq (tCBD rdLen (tConsD (tVarD 3) tNilD)) (tCD (.int 2))) W τ M Q := by
  refine w_andE (w_is (w_var h3 ?_))
  rw [tag_lt hv]
  unfold rowB at k
  cases v <;> first
    | exact w_false k
    | exact w_true (w_op (w_cb (w_cons (w_var h3 (w_nil (w_lenL (w_c (w_eq rfl k))))))))
    | exact w_true (w_op (w_cb (w_cons (w_var h3 (w_nil (w_lenT (w_c (w_eq rfl k))))))))
theorem law_spot (h3 : getN τ 3 = some v) (h7 : getN τ 7 = some (.bl (rowB 2 v))) (hv : plainD v = true) (k : Q (.bl (isSpotB v)) M) :
    tAndE (tVarD 7) (tAndE (tCallD sp__law_is_number (tConsD (tOpD rdIx (tVarD 3) (tCD (.int 0))) tNilD)) (tCallD sp__law_is_number (tConsD (tOpD rdIx (tVarD 3) (tCD (.int 1))) tNilD))) W τ M Q := by
  refine w_andE (w_var h7 ?_)
  cases hs : seqD v with
  | none =>
    have e1 : rowB 2 v = false := by unfold rowB; rw [hs]
    have e2 : isSpotB v = false := by unfold isSpotB; rw [hs]
    rw [e1]
    rw [e2] at k
    exact w_false k
  | some xs =>
    have hv' := seqD_some hs
    have hxs : plainDs xs = true := seq_plain hv hs
    have hr : rowB 2 v = decide ((xs.length : Int) = 2) := by rcases hv' with rfl | rfl <;> rfl
    rw [hr]
    refine w_dec (fun c => ?_) (fun c => ?_)
    · obtain ⟨x, y, rfl⟩ : ∃ x y, xs = [x, y] := by
        match xs, c with
        | [x, y], _ => exact ⟨x, y, rfl⟩
        | [], c => simp at c
        | [_], c => simp at c
        | _ :: _ :: _ :: r, c => simp at c; omega
      have hx : plainD x = true := plainDs_iff.mp hxs x (by simp)
      have hy : plainD y = true := plainDs_iff.mp hxs y (by simp)
      have es : isSpotB v = (isNumB x && isNumB y) := by rcases hv' with rfl | rfl <;> rfl
      have ix : ∀ (i : Int) (z : D) (Q : QD), atI [x, y] i = some z → Q z M → rdIx v (.int i) M Q := fun i z Q h q => by rcases hv' with rfl | rfl; exact w_ixL h q; exact w_ixT h q
      rw [es] at k
      refine w_andE (w_call (w_cons (w_op (w_var h3 (w_c (ix 0 x _ rfl (w_nil (f1_do hx ?_))))))))
      refine w_bool (fun c => ?_) (fun c => ?_)
      · refine w_call (w_cons (w_op (w_var h3 (w_c (ix 1 y _ rfl (w_nil (f1_do hy ?_)))))))
        rw [c, Bool.true_and] at k
        exact k
      · rw [c, Bool.false_and] at k
        exact k
    · have es : isSpotB v = false := by
        unfold isSpotB
        rcases hv' with rfl | rfl <;> (dsimp only [seqD]; split <;> first | rfl | (rename_i h; cases h; simp at c))
      rw [es] at k
      exact k
end
theorem wp_law : ∀ ds M F FE, spLaw ds M F FE → t_law (fun C fs _ M => FE C fs M) { nx := fun _ M => F .non M, rt := F } (startD ["_law_script", "_law_grit_here", "_law_turn", "_law_value_here", "_law_least", "_law_most", "_law_within", "_law_is_pair", "_law_due", "_law_told", "_law_named", "_law_side"] ds) M := by
  rintro ds M F FE ⟨ns, rfl, hl, rfl, k⟩
  unfold t_law
  walk_at "z"
  refine ⟨ns, rfl, hl, fun p M1 _ n1 u1 => ?_⟩
  walk_at "z"
  refine w_for ?_
  walk_at "z"
  refine ⟨⟨by omega, by omega⟩, ?_⟩
  refine ⟨fun i τ' M' => NutAt M' p (i * 80) ∧ ∃ x2 x3 x4 x5 x6 x7 x8 x9 x10 x11, τ' = [some (.lst (ns.map D.int)), some (.ref p), x2, x3, x4, x5, x6, x7, x8, x9, x10, x11], ⟨by simpa using n1, _, _, _, _, _, _, _, _, _, _, rfl⟩, ?_, ?_⟩
  · rintro i x τ' M' hx ⟨nn, x2, x3, x4, x5, x6, x7, x8, x9, x10, x11, rfl⟩
    have hi : i < 12 := (upFrom_get hx).1
    walk_at "z"
    have c2 : cV 2 = 66 := by decide
    refine draw_do (E := fun _ _ _ => False) nn (by omega) rfl fun v M2 n2 u2 hv => ?_
    walk_at "z"
    refine w_lc ?_
    walk_at "z"
    refine w_small (by show 2 ≤ 16777216; decide) ?_
    walk_at "z"
    refine lc_draw (P := fun d => boundB d = true) (c := 3) [.int 0, .int 1] M2 n2 (by decide) (by show 2 ≤ 16777216; decide) ?_ ?_ (fun R h => h)
    · intro x hx t' M3 R n3 t1 t2 r
      have t3 : t' + 3 ≤ 8000000 := by
        have : t' + 3 ≤ (i : Int) * 80 + cV 2 + 2 * 3 := t2
        omega
      walk_at "z"
      refine draw_do n3 (by omega) rfl fun d M4 n4 u4 ⟨i1, e⟩ => ?_
      subst e
      walk_at "z"
      refine f1_do hv ?_
      walk_at "z"
      have pk : ∀ z : D, boundB z = true → spPick [.ref p, .lst [.non, .int i1, z]] M4 R (fun C fs M' => False) := fun z hz => by
        refine pick_do n4 (by omega) (by show 0 < 3; decide) (by show 3 ≤ 1000; decide) fun d M5 hd n5 u5 => r d M5 (n5.mono (by omega)) (u4.trans u5) ?_
        simp only [List.mem_cons, List.not_mem_nil, or_false] at hd
        rcases hd with rfl | rfl | rfl
        · rfl
        · rfl
        · exact hz
      refine w_bool (fun c => ?_) (fun c => ?_)
      · walk_at "z"
        refine w_small (by show 3 ≤ 16777216; decide) ?_
        walk_at "z"
        exact pk v (by cases v <;> first | rfl | (cases c))
      · walk_at "z"
        refine w_small (by show 3 ≤ 16777216; decide) ?_
        walk_at "z"
        exact pk (.int 0) rfl
    · intro ds M3 n3 u3 hl hd
      obtain ⟨l, m, rfl⟩ : ∃ l m, ds = [l, m] := by
        match ds, hl with
        | [l, m], _ => exact ⟨l, m, rfl⟩
      have hbl := hd l (by simp)
      have hbm := hd m (by simp)
      refine w_gtup rfl rfl (w_gcons (w_gname (w_gcons (w_gname (w_gnil ?_)))))
      with_reducible refine w_seq ?_
      with_reducible refine w_set ?_
      refine law_within (by exact rfl) (by exact rfl) (by exact rfl) hv hbl hbm ?_
      with_reducible refine w_seq ?_
      with_reducible refine w_set ?_
      refine law_pair (by exact rfl) hv ?_
      with_reducible refine w_seq ?_
      with_reducible refine w_set ?_
      with_reducible refine w_lst ?_
      walk_at "z"
      refine f1_do hv ?_
      walk_at "z"
      refine f1_do hv ?_
      with_reducible refine w_cons ?_
      refine (law_spot (by exact rfl) (by exact rfl) hv ?_)
      walk_at "z"
      refine w_small (by show 4 ≤ 16777216; decide) ?_
      walk_at "z"
      refine f1_do hv ?_
      walk_at "z"
      refine ⟨_, _, _, rfl, hv, hbl, hbm, ?_⟩
      walk_at "z"
      refine f1_do hv ?_
      walk_at "z"
      refine f1_do hv ?_
      walk_at "z"
      refine w_small (by show 4 ≤ 16777216; decide) ?_
      walk_at "z"
      refine f1_do hv ?_
      walk_at "z"
      refine ⟨_, _, _, rfl, hv, hbl, hbm, ?_⟩
      walk_at "z"
      refine f1_do hv ?_
      walk_at "z"
      refine f1_do hv ?_
      walk_at "z"
      refine w_small (by show 4 ≤ 16777216; decide) ?_
      walk_at "z"
      rw [bools_py]
      refine ⟨bools_ok _ _ _ _, ?_⟩
      walk_at "z"
      rw [bools_py]
      refine ⟨bools_ok _ _ _ _, ?_⟩
      refine w_ne (eq_self_str _) ?_
      walk_at "z"
      refine w_false ?_
      walk_at "z"
      rw [bools_py]
      refine ⟨bools_ok _ _ _ _, ?_⟩
      walk_at "z"
      rw [bools_py]
      refine ⟨bools_ok _ _ _ _, ?_⟩
      refine w_ne (eq_self_str _) ?_
      walk_at "z"
      refine w_false ?_
      walk_at "z"
      refine ⟨n3.mono ?_, _, _, _, _, _, _, _, _, _, _, rfl⟩
      show (i : Int) * 80 + cV 2 + 2 * 3 ≤ ((i + 1 : Nat) : Int) * 80
      omega
  · rintro τ' M' ⟨nn, x2, x3, x4, x5, x6, x7, x8, x9, x10, x11, rfl⟩
    walk_at "z"
    exact k _
def t__law_grit : TSD := (tRetD (tLstM (tConsD (tLcD (iSeqD (tSlD (tVarD 0) tNoPartD (tPartD (tCD (.int 59))))) (gNameD 1) tYesD (tCBD rdInt (tConsD (tVarD 1) tNilD)) [1]) (tConsD (tCD (.int 0)) (tConsD (tCD (.int 0)) tNilD)))))
def t__law_sieve : TSD := (tSeqD (tIfD (tTestB (tOpD (rdB fun i j => decide (j < i)) (tOpD rdIx (tVarD 0) (tCD (.int 2))) (tCD (.int 0))))
    (tSeqD (tSetD 2 (tCBD rdInt (tConsD (tOpD rdIx (tVarD 0) (tCD (.int 2))) tNilD)))
  (tSeqD (tSetIx (tOpD (rdIC DivOk fun i j => i.fdiv j) (tVarD 2) (tVarD 1)) (tVarD 0) (tCD (.int 2)))
  (tRetD (tOpD (rdIC (fun _ j => 0 < j) fun i j => i % j) (tCBD rdInt (tConsD (tVarD 2) tNilD)) (tVarD 1)))))
    tNextD)
  (tSeqD (tSetD 3 (tOpD rdIx (tVarD 0) (tCD (.int 1))))
  (tSeqD (tSetIx (tOpD rdAdd (tVarD 3) (tCD (.int 1))) (tVarD 0) (tCD (.int 1)))
  (tSeqD (tSetD 4 (tOpD rdAdd (tOpD rdMul (tCD (.int 108139)) (tVarD 3)) (tCD (.int 8123))))
  (tSeqD (tIfD (tTestB (tOpD rdNe (tOpD rdIx (tVarD 0) (tCD (.int 0))) (tLstD tNilD)))
    (tSetD 4 (tOpD rdIx (tOpD rdIx (tVarD 0) (tCD (.int 0))) (tOpD (rdIC (fun _ j => 0 < j) fun i j => i % j) (tCBD rdInt (tConsD (tVarD 3) tNilD)) (tCBD rdLen (tConsD (tOpD rdIx (tVarD 0) (tCD (.int 0))) tNilD)))))
    tNextD)
  (tSeqD (tIfD (tAndD (tTestB (tOpD (rdB fun i j => decide (i < j)) (tVarD 3) (tCBD rdLen (tConsD (tOpD rdIx (tVarD 0) (tCD (.int 0))) tNilD)))) (tTestB (tOpD (rdB fun i j => decide (j ≤ i)) (tCBD rdAbs (tConsD (tVarD 4) tNilD)) (tOpD (rdIC CPow fun i j => i ^ j.toNat) (tCD (.int 10)) (tCD (.int 18))))))
    (tSeqD (tSetD 2 (tOpD rdAdd (tOpD rdMul (tCD (.int 2)) (tOpD (rdI fun i j => i - j) (tCBD rdAbs (tConsD (tCBD rdInt (tConsD (tVarD 4) tNilD)) tNilD)) (tOpD (rdIC CPow fun i j => i ^ j.toNat) (tCD (.int 10)) (tCD (.int 18))))) (tCBD rdInt (tConsD (tOpD (rdB fun i j => decide (i < j)) (tVarD 4) (tCD (.int 0))) tNilD))))
  (tSeqD (tSetIx (tOpD (rdIC DivOk fun i j => i.fdiv j) (tVarD 2) (tVarD 1)) (tVarD 0) (tCD (.int 2)))
  (tRetD (tOpD (rdIC (fun _ j => 0 < j) fun i j => i % j) (tCBD rdInt (tConsD (tVarD 2) tNilD)) (tVarD 1)))))
    tNextD)
  (tSeqD (tSetD 5 (tOpD (rdIC (fun _ j => 0 < j) fun i j => i % j) (tCBD rdInt (tConsD (tOpD (rdIC CPow fun i j => i ^ j.toNat) (tOpD rdAdd (tOpD rdAdd (tOpD (rdIC (fun _ j => 0 < j) fun i j => i % j) (tCBD rdInt (tConsD (tVarD 4) tNilD)) (tCD (.int 2147483549))) (tOpD rdMul (tCD (.int 85121)) (tVarD 3))) (tCD (.int 8123))) (tCD (.int 5))) tNilD)) (tCD (.int 2147483579))))
  (tSeqD (tSetD 5 (tOpD (rdIC (fun _ j => 0 < j) fun i j => i % j) (tCBD rdInt (tConsD (tOpD (rdIC CPow fun i j => i ^ j.toNat) (tOpD rdAdd (tOpD rdAdd (tOpD rdMul (tVarD 5) (tOpD rdAdd (tOpD rdMul (tCD (.int 2)) (tVarD 3)) (tCD (.int 8123)))) (tOpD rdMul (tOpD rdMul (tCD (.int 108139)) (tVarD 3)) (tVarD 3))) (tCD (.int 85121))) (tCD (.int 3))) tNilD)) (tCD (.int 2147483563))))
  (tRetD (tOpD (rdIC (fun _ j => 0 < j) fun i j => i % j) (tCBD rdInt (tConsD (tOpD (rdIC DivOk fun i j => i.fdiv j) (tVarD 5) (tCD (.int 64))) tNilD)) (tVarD 1)))))))))))
def t__law_pick : TSD := (tRetD (tOpD rdIx (tVarD 1) (tCallD spSieve (tConsD (tVarD 0) (tConsD (tCBD rdLen (tConsD (tVarD 1) tNilD)) tNilD)))))
theorem len__law_grit : ∀ ds M F E, spGrit ds M F E → ds.length = 1 := len_grit
theorem len__law_sieve : ∀ ds M F E, spSieve ds M F E → ds.length = 2 := len_sieve
theorem len__law_pick : ∀ ds M F E, spPick ds M F E → ds.length = 2 := len_pick
theorem wp__law_grit : ∀ ds M F FE, spGrit ds M F FE → t__law_grit (fun C fs _ M => FE C fs M) { nx := fun _ M => F .non M, rt := F } (startD ["_law_script", "_law_cell"] ds) M := fun ds M F FE h => wp_grit (n := 59) rfl _ ds M F FE h
theorem wp__law_pick : ∀ ds M F FE, spPick ds M F FE → t__law_pick (fun C fs _ M => FE C fs M) { nx := fun _ M => F .non M, rt := F } (startD ["_law_grit_here", "_law_some"] ds) M := fun ds M F FE h => wp_pick rfl _ ds M F FE h
theorem wp__law_sieve : ∀ ds M F FE, spSieve ds M F FE → t__law_sieve (fun C fs _ M => FE C fs M) { nx := fun _ M => F .non M, rt := F } (startD ["_law_grit_here", "_law_many", "_law_left", "_law_turn", "_law_cell", "_law_mixed"] ds) M :=
  fun ds M F FE h => wp_sieve (c1 := 108139) (c2 := 8123) (m1 := 2147483549) (c3 := 85121) (m2 := 2147483579) (m3 := 2147483563) rfl (by decide) _ ds M F FE h
section
open PySem.Spec
variable {P : Program} {w : World} {K : PySem.W.Frag} {mg : Str → Option Value} {base : Heap}
theorem fn_false {k : Nat} {f : Addr} {fd : FuncData} {ps : List Str} : FnZ P w K mg base k f fd ps (fun _ _ _ _ => False) :=
  ⟨fun _ _ _ _ h => h.elim, fun _ _ _ _ _ _ _ _ _ _ _ _ _ _ h => by obtain ⟨_, _, _, _, _, _, h, _⟩ := h; exact h.elim⟩
theorem ok_is_integer (T : Txt K mg) : FnZ P w K mg base 1 T.a_is_integer T.d_is_integer ["value"] sp_is_integer :=
  fnZ (k := 0) (t := t_is_integer) T.F_is_integer sc_is_integer len_is_integer (fun cdv A outer s H E hr hgd => by exact (pdb_one (pds_ret (pd_and (pd_isA (T := .int) T.n_isinstance (pd_var 0) (pe_tag T.n_int)) (pd_one (pd_not (pd_isA (T := .bool) T.n_isinstance (pd_var 0) (pe_tag T.n_bool)))))))) wp_is_integer
theorem ok_is_row_of (T : Txt K mg) : FnZ P w K mg base 1 T.a_is_row_of T.d_is_row_of ["value", "length"] sp_is_row_of :=
  fnZ (k := 0) (t := t_is_row_of) T.F_is_row_of sc_is_row_of len_is_row_of (fun cdv A outer s H E hr hgd => by exact (pdb_one (pds_ret (pd_and (pd_isA2 (T := .list) (T' := .tuple) T.n_isinstance (pd_var 0) (pe_tag T.n_list) (pe_tag T.n_tuple)) (pd_one (pd_eq (hrU hr) (pd_len T.n_len (pda_cons (pd_var 0) pda_nil)) (pd_var 1))))))) wp_is_row_of
theorem ok_is_within (T : Txt K mg) : FnZ P w K mg base 2 T.a_is_within T.d_is_within ["value", "least", "most"] sp_is_within :=
  fnZ (k := 1) (t := t_is_within) T.F_is_within sc_is_within len_is_within (fun cdv A outer s H E hr hgd => by exact (pdb_cons (pds_if (pdt_not (pdt_tru (pd_callZ (ok_is_integer T) (hr.mono (by first | decide | omega)) hgd T.g_is_integer T.F_is_integer.kp (b_is_integer T) (pda_cons (pd_var 0) pda_nil)))) (pdb_one (pds_ret pd_bl)) pdb_nil) (pdb_one (pds_ret (pd_and (pd_or (pd_isN (pd_var 1)) (pd_one (pd_ge (pd_var 0) (pd_var 1)))) (pd_one (pd_or (pd_isN (pd_var 2)) (pd_one (pd_le (pd_var 0) (pd_var 2)))))))))) wp_is_within
theorem ok_is_number (T : Txt K mg) : FnZ P w K mg base 3 T.a_is_number T.d_is_number ["value"] sp_is_number :=
  fnZ (k := 2) (t := t_is_number) T.F_is_number sc_is_number len_is_number (fun cdv A outer s H E hr hgd => by exact (pdb_cons (pds_if (pdt_not (pdt_tru (pd_callZ (ok_is_row_of T) (hr.mono (by first | decide | omega)) hgd T.g_is_row_of T.F_is_row_of.kp (b_is_row_of T) (pda_cons (pd_var 0) (pda_cons pd_int pda_nil))))) (pdb_one (pds_ret (pd_callZ (ok_is_integer T) (hr.mono (by first | decide | omega)) hgd T.g_is_integer T.F_is_integer.kp (b_is_integer T) (pda_cons (pd_var 0) pda_nil)))) pdb_nil) (pdb_cons (pds_asg (pd_var 0) (pdg_tup rfl (pdgs_cons (pdg_name (i := 1) sc_is_number.nd) (pdgs_cons (pdg_name (i := 2) sc_is_number.nd) pdgs_nil)))) (pdb_one (pds_ret (pd_and (pd_callZ (ok_is_integer T) (hr.mono (by first | decide | omega)) hgd T.g_is_integer T.F_is_integer.kp (b_is_integer T) (pda_cons (pd_var 1) pda_nil)) (pd_and (pd_callZ (ok_is_within T) (hr.mono (by first | decide | omega)) hgd T.g_is_within T.F_is_within.kp (b_is_within T) (pda_cons (pd_var 2) (pda_cons pd_int (pda_cons pd_non pda_nil)))) (pd_one (pd_eq (hrU hr) (pd_gcd T.n_gcd (pda_cons (pd_var 1) (pda_cons (pd_var 2) pda_nil))) pd_int))))))))) wp_is_number
theorem ok_is_spot (T : Txt K mg) : FnZ P w K mg base 4 T.a_is_spot T.d_is_spot ["value"] sp_is_spot :=
  fnZ (k := 3) (t := t_is_spot) T.F_is_spot sc_is_spot len_is_spot (fun cdv A outer s H E hr hgd => by exact (pdb_one (pds_ret (pd_and (pd_callZ (ok_is_row_of T) (hr.mono (by first | decide | omega)) hgd T.g_is_row_of T.F_is_row_of.kp (b_is_row_of T) (pda_cons (pd_var 0) (pda_cons pd_int pda_nil))) (pd_and (pd_callZ (ok_is_number T) (hr.mono (by first | decide | omega)) hgd T.g_is_number T.F_is_number.kp (b_is_number T) (pda_cons (pd_ix (pd_var 0) pd_int) pda_nil)) (pd_one (pd_callZ (ok_is_number T) (hr.mono (by first | decide | omega)) hgd T.g_is_number T.F_is_number.kp (b_is_number T) (pda_cons (pd_ix (pd_var 0) pd_int) pda_nil)))))))) wp_is_spot
theorem ok__law_part (T : Txt K mg) : FnZ P w K mg base 1 T.a__law_part T.d__law_part ["_law_one", "_law_other"] sp__law_part :=
  fnZ (k := 0) (t := t__law_part) T.F__law_part sc__law_part len__law_part (fun cdv A outer s H E hr hgd => by exact (pdb_cons (pds_par (i := 0) (j := 1) rfl sc__law_part.nd (pda_cons (pd_abs T.n_abs (pda_cons (pd_var 0) pda_nil)) (pda_cons (pd_abs T.n_abs (pda_cons (pd_var 1) pda_nil)) pda_nil))) (pdb_cons (pds_while (pdt_gt (pd_var 1) pd_int) (pdb_one (pds_par (i := 0) (j := 1) rfl sc__law_part.nd (pda_cons (pd_var 1) (pda_cons (pd_mod (pd_int1 T.n_int (pda_cons (pd_var 0) pda_nil)) (pd_var 1)) pda_nil))))) (pdb_one (pds_ret (pd_ne (hrU hr) (pd_var 0) pd_int)))))) wp__law_part
theorem ok__law_is_integer (T : Txt K mg) : FnZ P w K mg base 1 T.a__law_is_integer T.d__law_is_integer ["_law_value_here"] sp__law_is_integer :=
  fnZ (k := 0) (t := t__law_is_integer) T.F__law_is_integer sc__law_is_integer len__law_is_integer (fun cdv A outer s H E hr hgd => by exact (pdb_one (pds_ret (pd_and (pd_isA (T := .int) T.n_isinstance (pd_var 0) (pe_tag T.n_int)) (pd_one (pd_not (pd_isA (T := .bool) T.n_isinstance (pd_var 0) (pe_tag T.n_bool)))))))) wp__law_is_integer
theorem ok__law_is_number (T : Txt K mg) : FnZ P w K mg base 2 T.a__law_is_number T.d__law_is_number ["_law_value_here"] sp__law_is_number :=
  fnZ (k := 1) (t := t__law_is_number) T.F__law_is_number sc__law_is_number len__law_is_number (fun cdv A outer s H E hr hgd => by exact (pdb_cons (pds_if (pdt_tru (pd_callZ (ok__law_is_integer T) (hr.mono (by first | decide | omega)) hgd T.g__law_is_integer T.F__law_is_integer.kp (b__law_is_integer T) (pda_cons (pd_var 0) pda_nil))) (pdb_one (pds_ret pd_bl)) pdb_nil) (pdb_cons (pds_if (pdt_w (pdw_or (pdt_not (pdt_tru (pd_isA2 (T := .list) (T' := .tuple) T.n_isinstance (pd_var 0) (pe_tag T.n_list) (pe_tag T.n_tuple)))) (pdw_or (pdt_ne (hrU hr) (pd_len T.n_len (pda_cons (pd_var 0) pda_nil)) pd_int) (pdw_or (pdt_not (pdt_tru (pd_callZ (ok__law_is_integer T) (hr.mono (by first | decide | omega)) hgd T.g__law_is_integer T.F__law_is_integer.kp (b__law_is_integer T) (pda_cons (pd_ix (pd_var 0) pd_int) pda_nil)))) (pdw_or1 (pdt_not (pdt_tru (pd_callZ (ok__law_is_integer T) (hr.mono (by first | decide | omega)) hgd T.g__law_is_integer T.F__law_is_integer.kp (b__law_is_integer T) (pda_cons (pd_ix (pd_var 0) pd_int) pda_nil))))))))) (pdb_one (pds_ret pd_bl)) pdb_nil) (pdb_one (pds_ret (pd_and (pd_ge (pd_ix (pd_var 0) pd_int) pd_int) (pd_one (pd_not (pd_callZ (ok__law_part T) (hr.mono (by first | decide | omega)) hgd T.g__law_part T.F__law_part.kp (b__law_part T) (pda_cons (pd_ix (pd_var 0) pd_int) (pda_cons (pd_ix (pd_var 0) pd_int) pda_nil))))))))))) wp__law_is_number
theorem ok__law_grit (T : Txt K mg) : FnZ P w K mg base 1 T.a__law_grit T.d__law_grit ["_law_script"] spGrit :=
  fnZ (k := 0) (t := t__law_grit) T.F__law_grit sc__law_grit len__law_grit (fun cdv A outer s H E hr hgd => by exact (pdb_one (pds_ret (pd_lstM (pda_cons (pd_lc (own := [("_law_cell", 1)]) (gd := (gNameD 1)) rfl sc__law_grit.nd (pdi_seq (pd_slice (pd_var 0) pdo_none (pdo_some pd_int))) (blkOk_by (N := ["_law_script", "_law_cell"]) (sc := defScope s__law_grit) (by decide +kernel)) (fun _ _ _ _ _ => pg_name (i := 1) sc__law_grit.nd rfl (Or.inl rfl)) (tgt_name (by decide)) (fun _ _ _ _ _ => pdts_nil) (fun _ _ _ _ _ => (pd_int1 T.n_int (pda_cons (pd_var 1) pda_nil)))) (pda_cons pd_int (pda_cons pd_int pda_nil))))))) wp__law_grit
theorem ok__law_sieve (T : Txt K mg) : FnZ P w K mg base 1 T.a__law_sieve T.d__law_sieve ["_law_grit_here", "_law_many"] spSieve :=
  fnZ (k := 0) (t := t__law_sieve) T.F__law_sieve sc__law_sieve len__law_sieve (fun cdv A outer s H E hr hgd => by exact (pdb_cons (pds_if (pdt_gt (pd_ix (pd_var 0) pd_int) pd_int) (pdb_cons (pds_set (i := 2) (pd_int1 T.n_int (pda_cons (pd_ix (pd_var 0) pd_int) pda_nil)) sc__law_sieve.nd) (pdb_cons (pds_setix (pd_fdiv (pd_var 2) (pd_var 1)) (pd_var 0) pd_int) (pdb_one (pds_ret (pd_mod (pd_int1 T.n_int (pda_cons (pd_var 2) pda_nil)) (pd_var 1)))))) pdb_nil) (pdb_cons (pds_set (i := 3) (pd_ix (pd_var 0) pd_int) sc__law_sieve.nd) (pdb_cons (pds_setix (pd_addA (pd_var 3) pd_int) (pd_var 0) pd_int) (pdb_cons (pds_set (i := 4) (pd_addA (pd_mulA pd_int (pd_var 3)) pd_int) sc__law_sieve.nd) (pdb_cons (pds_if (pdt_ne (hrU hr) (pd_ix (pd_var 0) pd_int) (pd_lst pda_nil)) (pdb_one (pds_set (i := 4) (pd_ix (pd_ix (pd_var 0) pd_int) (pd_mod (pd_int1 T.n_int (pda_cons (pd_var 3) pda_nil)) (pd_len T.n_len (pda_cons (pd_ix (pd_var 0) pd_int) pda_nil)))) sc__law_sieve.nd)) pdb_nil) (pdb_cons (pds_if (pdt_w (pdw_and (pdt_lt (pd_var 3) (pd_len T.n_len (pda_cons (pd_ix (pd_var 0) pd_int) pda_nil))) (pdw_and1 (pdt_ge (pd_abs T.n_abs (pda_cons (pd_var 4) pda_nil)) (pd_pow pd_int pd_int))))) (pdb_cons (pds_set (i := 2) (pd_addA (pd_mulA pd_int (pd_sub (pd_abs T.n_abs (pda_cons (pd_int1 T.n_int (pda_cons (pd_var 4) pda_nil)) pda_nil)) (pd_pow pd_int pd_int))) (pd_int1 T.n_int (pda_cons (pd_lt (pd_var 4) pd_int) pda_nil))) sc__law_sieve.nd) (pdb_cons (pds_setix (pd_fdiv (pd_var 2) (pd_var 1)) (pd_var 0) pd_int) (pdb_one (pds_ret (pd_mod (pd_int1 T.n_int (pda_cons (pd_var 2) pda_nil)) (pd_var 1)))))) pdb_nil) (pdb_cons (pds_set (i := 5) (pd_mod (pd_int1 T.n_int (pda_cons (pd_pow (pd_addA (pd_addA (pd_mod (pd_int1 T.n_int (pda_cons (pd_var 4) pda_nil)) pd_int) (pd_mulA pd_int (pd_var 3))) pd_int) pd_int) pda_nil)) pd_int) sc__law_sieve.nd) (pdb_cons (pds_set (i := 5) (pd_mod (pd_int1 T.n_int (pda_cons (pd_pow (pd_addA (pd_addA (pd_mulA (pd_var 5) (pd_addA (pd_mulA pd_int (pd_var 3)) pd_int)) (pd_mulA (pd_mulA pd_int (pd_var 3)) (pd_var 3))) pd_int) pd_int) pda_nil)) pd_int) sc__law_sieve.nd) (pdb_one (pds_ret (pd_mod (pd_int1 T.n_int (pda_cons (pd_fdiv (pd_var 5) pd_int) pda_nil)) (pd_var 1))))))))))))) wp__law_sieve
theorem ok__law_pick (T : Txt K mg) : FnZ P w K mg base 2 T.a__law_pick T.d__law_pick ["_law_grit_here", "_law_some"] spPick :=
  fnZ (k := 1) (t := t__law_pick) T.F__law_pick sc__law_pick len__law_pick (fun cdv A outer s H E hr hgd => by exact (pdb_one (pds_ret (pd_ix (pd_var 1) (pd_callZ (ok__law_sieve T) (hr.mono (by first | decide | omega)) hgd T.g__law_sieve T.F__law_sieve.kp (b__law_sieve T) (pda_cons (pd_var 0) (pda_cons (pd_len T.n_len (pda_cons (pd_var 1) pda_nil)) pda_nil))))))) wp__law_pick
theorem ok__law_integer (T : Txt K mg) : FnZ P w K mg base 3 T.a__law_integer T.d__law_integer ["_law_grit_here"] sp__law_integer :=
  fnZ (k := 2) (t := t__law_integer) T.F__law_integer sc__law_integer len__law_integer (fun cdv A outer s H E hr hgd => by exact (pdb_cons (pds_set (i := 1) (pd_callZ (ok__law_pick T) (hr.mono (by first | decide | omega)) hgd T.g__law_pick T.F__law_pick.kp (b__law_pick T) (pda_cons (pd_var 0) (pda_cons (pd_lst (pda_cons pd_int (pda_cons pd_int (pda_cons pd_int (pda_cons (pd_pow pd_int pd_int) (pda_cons (pd_pow pd_int pd_int) pda_nil)))))) pda_nil))) sc__law_integer.nd) (pdb_one (pds_ret (pd_sub (pd_callZ (ok__law_sieve T) (hr.mono (by first | decide | omega)) hgd T.g__law_sieve T.F__law_sieve.kp (b__law_sieve T) (pda_cons (pd_var 0) (pda_cons (pd_addA (pd_mulA pd_int (pd_var 1)) pd_int) pda_nil))) (pd_var 1)))))) wp__law_integer
theorem okr__law_value {k : Nat} {sp spR : SpD} (T : Txt K mg) (hk : 3 ≤ k) (R : FnZ P w K mg base k T.a__law_value T.d__law_value ["_law_grit_here", "_law_deep"] spR) (len : ∀ ds M F E, sp ds M F E → ds.length = 2) (wp : ∀ ds M F FE, sp ds M F FE → t__law_value spR (fun C fs _ M => FE C fs M) { nx := fun _ M => F .non M, rt := F } (startD ["_law_grit_here", "_law_deep", "_law_way", "_law_part_here", "_law_pair", "_law_some", "_law_turn"] ds) M) : FnZ P w K mg base (k + 1) T.a__law_value T.d__law_value ["_law_grit_here", "_law_deep"] sp :=
  fnZ (t := t__law_value spR) T.F__law_value sc__law_value len (fun cdv A outer s H E hr hgd => by exact (pdb_cons (pds_set (i := 2) (pd_callZ (ok__law_sieve T) (hr.mono (by first | decide | omega)) hgd T.g__law_sieve T.F__law_sieve.kp (b__law_sieve T) (pda_cons (pd_var 0) (pda_cons pd_int pda_nil))) sc__law_value.nd) (pdb_cons (pds_if (pdt_lt (pd_var 2) pd_int) (pdb_one (pds_ret (pd_callZ (ok__law_integer T) (hr.mono (by first | decide | omega)) hgd T.g__law_integer T.F__law_integer.kp (b__law_integer T) (pda_cons (pd_var 0) pda_nil)))) pdb_nil) (pdb_cons (pds_if (pdt_lt (pd_var 2) pd_int) (pdb_cons (pds_set (i := 3) (pd_callZ (ok__law_pick T) (hr.mono (by first | decide | omega)) hgd T.g__law_pick T.F__law_pick.kp (b__law_pick T) (pda_cons (pd_var 0) (pda_cons (pd_lst (pda_cons pd_int (pda_cons pd_int (pda_cons pd_int (pda_cons pd_int (pda_cons pd_int (pda_cons (pd_neg pd_int) pda_nil))))))) pda_nil))) sc__law_value.nd) (pdb_cons (pds_set (i := 4) (pd_lst (pda_cons (pd_mulA (pd_var 3) (pd_callZ (ok__law_integer T) (hr.mono (by first | decide | omega)) hgd T.g__law_integer T.F__law_integer.kp (b__law_integer T) (pda_cons (pd_var 0) pda_nil))) (pda_cons (pd_mulA (pd_var 3) (pd_callZ (ok__law_pick T) (hr.mono (by first | decide | omega)) hgd T.g__law_pick T.F__law_pick.kp (b__law_pick T) (pda_cons (pd_var 0) (pda_cons (pd_lst (pda_cons pd_int (pda_cons pd_int (pda_cons pd_int (pda_cons pd_int (pda_cons pd_int (pda_cons pd_int (pda_cons pd_int (pda_cons (pd_neg pd_int) (pda_cons (pd_addA (pd_pow pd_int pd_int) pd_int) pda_nil)))))))))) pda_nil)))) pda_nil))) sc__law_value.nd) (pdb_one (pds_ret (pd_ifE (pdt_eq (hrU hr) (pd_callZ (ok__law_sieve T) (hr.mono (by first | decide | omega)) hgd T.g__law_sieve T.F__law_sieve.kp (b__law_sieve T) (pda_cons (pd_var 0) (pda_cons pd_int pda_nil))) pd_int) (pd_var 4) (pd_tupOf T.n_tuple (pd_var 4))))))) pdb_nil) (pdb_cons (pds_if (pdt_w (pdw_and (pdt_lt (pd_var 2) pd_int) (pdw_and1 (pdt_gt (pd_var 1) pd_int)))) (pdb_cons (pds_setLc (i := 5) sc__law_value.nd rfl rfl rfl (sw_true rfl rfl rfl (by decide +kernel)) (own := [("_law_turn", 6)]) (gd := (gNameD 6)) (pdi_rng1 T.n_range (pdn_cons (pd_callZ (ok__law_pick T) (hr.mono (by first | decide | omega)) hgd T.g__law_pick T.F__law_pick.kp (b__law_pick T) (pda_cons (pd_var 0) (pda_cons (pd_lst (pda_cons pd_int (pda_cons pd_int (pda_cons pd_int (pda_cons pd_int (pda_cons pd_int (pda_cons pd_int pda_nil))))))) pda_nil))) pdn_nil)) (blkOk_by (N := ["_law_grit_here", "_law_deep", "_law_way", "_law_part_here", "_law_pair", "_law_some", "_law_turn"]) (sc := defScope s__law_value) (by decide +kernel)) (fun _ _ _ _ _ => pg_name (i := 6) sc__law_value.nd rfl (Or.inl rfl)) (tgt_name (by decide)) (fun _ _ _ _ _ => pdts_nil) (fun _ _ _ _ _ => (pd_callZ R (hr.mono (by first | decide | omega)) hgd T.g__law_value T.F__law_value.kp (b__law_value T) (pda_cons (pd_var 0) (pda_cons (pd_sub (pd_var 1) pd_int) pda_nil))))) (pdb_one (pds_ret (pd_ifE (pdt_eq (hrU hr) (pd_callZ (ok__law_sieve T) (hr.mono (by first | decide | omega)) hgd T.g__law_sieve T.F__law_sieve.kp (b__law_sieve T) (pda_cons (pd_var 0) (pda_cons pd_int pda_nil))) pd_int) (pd_var 5) (pd_tupOf T.n_tuple (pd_var 5)))))) pdb_nil) (pdb_one (pds_ret (pd_callZ (ok__law_pick T) (hr.mono (by first | decide | omega)) hgd T.g__law_pick T.F__law_pick.kp (b__law_pick T) (pda_cons (pd_var 0) (pda_cons (pd_lst (pda_cons pd_non (pda_cons pd_bl (pda_cons pd_bl (pda_cons pd_str (pda_cons pd_str (pda_cons pd_str (pda_cons (pd_tup (pda_cons pd_bl (pda_cons pd_int pda_nil))) (pda_cons (pd_tup (pda_cons pd_int (pda_cons pd_bl pda_nil))) (pda_cons (pd_tup (pda_cons pd_int (pda_cons pd_non pda_nil))) (pda_cons (pd_tup (pda_cons pd_str (pda_cons pd_int pda_nil))) (pda_cons pd_dict0 (pda_cons (pd_dict (pdps_cons (k := (Sum.inl 0)) (fun _ _ => pe_int) pd_int (pdps_cons (k := (Sum.inl 1)) (fun _ _ => pe_int) pd_int pdps_nil))) (pda_cons (pd_lst (pda_cons pd_non (pda_cons pd_int pda_nil))) pda_nil)))))))))))))) pda_nil)))))))))) wp
theorem ok__law_value (T : Txt K mg) : FnZ P w K mg base 6 T.a__law_value T.d__law_value ["_law_grit_here", "_law_deep"] sp__law_value :=
  okr__law_value T (by decide) (okr__law_value T (by decide) (okr__law_value (k := 3) T (by decide) fn_false len_value wp_value0) len_value (wp_valueS 0 (by decide))) len_value (wp_valueS 1 (by decide))
theorem ok_law (T : Txt K mg) : FnZ P w K mg base 7 T.a_law T.d_law ["_law_script"] spLaw :=
  fnZ (k := 6) (t := t_law) T.F_law sc_law len_law (fun cdv A outer s H E hr hgd => by exact (pdb_cons (pds_set (i := 1) (pd_callZ (ok__law_grit T) (hr.mono (by first | decide | omega)) hgd T.g__law_grit T.F__law_grit.kp (b__law_grit T) (pda_cons (pd_var 0) pda_nil)) sc_law.nd) (pdb_cons (pds_for rfl (pdi_rng1 T.n_range (pdn_cons pd_int pdn_nil)) (pdg_name (i := 2) sc_law.nd) (pdb_cons (pds_set (i := 3) (pd_callZ (ok__law_value T) (hr.mono (by first | decide | omega)) hgd T.g__law_value T.F__law_value.kp (b__law_value T) (pda_cons (pd_var 1) (pda_cons pd_int pda_nil))) sc_law.nd) (pdb_cons (pds_asg (pd_lc (own := [("_law_side", 11)]) (gd := (gNameD 11)) rfl sc_law.nd (pdi_seq (pd_tup (pda_cons pd_int (pda_cons pd_int pda_nil)))) (blkOk_by (N := ["_law_script", "_law_grit_here", "_law_turn", "_law_value_here", "_law_least", "_law_most", "_law_within", "_law_is_pair", "_law_due", "_law_told", "_law_named", "_law_side"]) (sc := defScope s_law) (by decide +kernel)) (fun _ _ _ _ _ => pg_name (i := 11) sc_law.nd rfl (Or.inl rfl)) (tgt_name (by decide)) (fun _ _ _ _ _ => pdts_nil) (fun _ _ _ _ _ => (pd_callZ (ok__law_pick T) (hr.mono (by first | decide | omega)) hgd T.g__law_pick T.F__law_pick.kp (b__law_pick T) (pda_cons (pd_var 1) (pda_cons (pd_lst (pda_cons pd_non (pda_cons (pd_callZ (ok__law_integer T) (hr.mono (by first | decide | omega)) hgd T.g__law_integer T.F__law_integer.kp (b__law_integer T) (pda_cons (pd_var 1) pda_nil)) (pda_cons (pd_ifE (pdt_tru (pd_callZ (ok__law_is_integer T) (hr.mono (by first | decide | omega)) hgd T.g__law_is_integer T.F__law_is_integer.kp (b__law_is_integer T) (pda_cons (pd_var 3) pda_nil))) (pd_var 3) pd_int) pda_nil)))) pda_nil))))) (pdg_tup rfl (pdgs_cons (pdg_name (i := 4) sc_law.nd) (pdgs_cons (pdg_name (i := 5) sc_law.nd) pdgs_nil)))) (pdb_cons (pds_set (i := 6) (pd_and (pd_callZ (ok__law_is_integer T) (hr.mono (by first | decide | omega)) hgd T.g__law_is_integer T.F__law_is_integer.kp (b__law_is_integer T) (pda_cons (pd_var 3) pda_nil)) (pd_and (pd_or (pd_isN (pd_var 4)) (pd_one (pd_le (pd_var 4) (pd_var 3)))) (pd_one (pd_or (pd_isN (pd_var 5)) (pd_one (pd_le (pd_var 3) (pd_var 5))))))) sc_law.nd) (pdb_cons (pds_set (i := 7) (pd_and (pd_isA2 (T := .list) (T' := .tuple) T.n_isinstance (pd_var 3) (pe_tag T.n_list) (pe_tag T.n_tuple)) (pd_one (pd_eq (hrU hr) (pd_len T.n_len (pda_cons (pd_var 3) pda_nil)) pd_int))) sc_law.nd) (pdb_cons (pds_set (i := 8) (pd_lst (pda_cons (pd_callZ (ok__law_is_integer T) (hr.mono (by first | decide | omega)) hgd T.g__law_is_integer T.F__law_is_integer.kp (b__law_is_integer T) (pda_cons (pd_var 3) pda_nil)) (pda_cons (pd_var 6) (pda_cons (pd_callZ (ok__law_is_number T) (hr.mono (by first | decide | omega)) hgd T.g__law_is_number T.F__law_is_number.kp (b__law_is_number T) (pda_cons (pd_var 3) pda_nil)) (pda_cons (pd_and (pd_var 7) (pd_and (pd_callZ (ok__law_is_number T) (hr.mono (by first | decide | omega)) hgd T.g__law_is_number T.F__law_is_number.kp (b__law_is_number T) (pda_cons (pd_ix (pd_var 3) pd_int) pda_nil)) (pd_one (pd_callZ (ok__law_is_number T) (hr.mono (by first | decide | omega)) hgd T.g__law_is_number T.F__law_is_number.kp (b__law_is_number T) (pda_cons (pd_ix (pd_var 3) pd_int) pda_nil))))) pda_nil))))) sc_law.nd) (pdb_cons (pds_set (i := 9) (pd_lst (pda_cons (pd_callZ (ok_is_integer T) (hr.mono (by first | decide | omega)) hgd T.g_is_integer T.F_is_integer.kp (b_is_integer T) (pda_cons (pd_var 3) pda_nil)) (pda_cons (pd_callZ (ok_is_within T) (hr.mono (by first | decide | omega)) hgd T.g_is_within T.F_is_within.kp (b_is_within T) (pda_cons (pd_var 3) (pda_cons (pd_var 4) (pda_cons (pd_var 5) pda_nil)))) (pda_cons (pd_callZ (ok_is_number T) (hr.mono (by first | decide | omega)) hgd T.g_is_number T.F_is_number.kp (b_is_number T) (pda_cons (pd_var 3) pda_nil)) (pda_cons (pd_callZ (ok_is_spot T) (hr.mono (by first | decide | omega)) hgd T.g_is_spot T.F_is_spot.kp (b_is_spot T) (pda_cons (pd_var 3) pda_nil)) pda_nil))))) sc_law.nd) (pdb_cons (pds_set (i := 10) (pd_lst (pda_cons (pd_callKZ (ok_is_integer T) (hr.mono (by first | decide | omega)) hgd T.g_is_integer T.F_is_integer.kp (bk_is_integer_value T) (pdkn_cons (pd_var 3) pdkn_nil) rfl) (pda_cons (pd_callKZ (ok_is_within T) (hr.mono (by first | decide | omega)) hgd T.g_is_within T.F_is_within.kp (bk_is_within_most_least_value T) (pdkn_cons (pd_var 5) (pdkn_cons (pd_var 4) (pdkn_cons (pd_var 3) pdkn_nil))) rfl) (pda_cons (pd_callKZ (ok_is_number T) (hr.mono (by first | decide | omega)) hgd T.g_is_number T.F_is_number.kp (bk_is_number_value T) (pdkn_cons (pd_var 3) pdkn_nil) rfl) (pda_cons (pd_callKZ (ok_is_spot T) (hr.mono (by first | decide | omega)) hgd T.g_is_spot T.F_is_spot.kp (bk_is_spot_value T) (pdkn_cons (pd_var 3) pdkn_nil) rfl) pda_nil))))) sc_law.nd) (pdb_one (pds_if (pdt_w (pdw_or (pdt_ne (hrU hr) (pd_repr hgd (hrV hr) T.n_repr (pd_var 9)) (pd_repr hgd (hrV hr) T.n_repr (pd_var 8))) (pdw_or1 (pdt_ne (hrU hr) (pd_repr hgd (hrV hr) T.n_repr (pd_var 10)) (pd_repr hgd (hrV hr) T.n_repr (pd_var 8)))))) (pdb_one (pds_ret pd_bl)) pdb_nil)))))))))) (pdb_one (pds_ret pd_bl))))) wp_law
end
theorem all_mk {P : Program} {w : World} {K : PySem.W.Frag} {h : Heap} {mg : Str → Option Value} (X : K.In h) (G : h.Ns mainGlobals mg)
    {fa a_is_integer a_is_within a_is_row_of a_is_number a_is_spot a__law_grit a__law_sieve a__law_pick a__law_part a__law_is_integer a__law_is_number a__law_integer a__law_value a_law : Addr} {od_is_integer an_is_integer od_is_within an_is_within od_is_row_of an_is_row_of od_is_number an_is_number od_is_spot an_is_spot od__law_grit an__law_grit od__law_sieve an__law_sieve od__law_pick an__law_pick od__law_part an__law_part od__law_is_integer an__law_is_integer od__law_is_number an__law_is_number od__law_integer an__law_integer od__law_value an__law_value od_law an_law : Option Addr} {sl_is_integer sl_is_within sl_is_row_of sl_is_number sl_is_spot sl__law_grit sl__law_sieve sl__law_pick sl__law_part sl__law_is_integer sl__law_is_number sl__law_integer sl__law_value sl_law : Array (Option Value)} {oc_is_integer kV_is_integer dc_is_integer pm_is_integer cd_is_integer ct_is_integer oc_is_within kV_is_within dc_is_within pm_is_within cd_is_within ct_is_within oc_is_row_of kV_is_row_of dc_is_row_of pm_is_row_of cd_is_row_of ct_is_row_of oc_is_number kV_is_number dc_is_number pm_is_number cd_is_number ct_is_number oc_is_spot kV_is_spot dc_is_spot pm_is_spot cd_is_spot ct_is_spot oc__law_grit kV__law_grit dc__law_grit pm__law_grit cd__law_grit ct__law_grit oc__law_sieve kV__law_sieve dc__law_sieve pm__law_sieve cd__law_sieve ct__law_sieve oc__law_pick kV__law_pick dc__law_pick pm__law_pick cd__law_pick ct__law_pick oc__law_part kV__law_part dc__law_part pm__law_part cd__law_part ct__law_part oc__law_is_integer kV__law_is_integer dc__law_is_integer pm__law_is_integer cd__law_is_integer ct__law_is_integer oc__law_is_number kV__law_is_number dc__law_is_number pm__law_is_number cd__law_is_number ct__law_is_number oc__law_integer kV__law_integer dc__law_integer pm__law_integer cd__law_integer ct__law_integer oc__law_value kV__law_value dc__law_value pm__law_value cd__law_value ct__law_value oc_law kV_law dc_law pm_law cd_law ct_law : Value} (hfa : mg "law" = some (.ref fa))
    (g_is_integer : PySem.W.nsIn K mainGlobals "is_integer" = some (some (.ref a_is_integer))) (l_is_integer : K.lookup a_is_integer = some ⟨oc_is_integer, od_is_integer, .func (PySem.W.fnOf "is_integer" "is_integer" (defArgs s_is_integer) (defBody s_is_integer) (defScope s_is_integer) .none kV_is_integer dc_is_integer pm_is_integer an_is_integer cd_is_integer ct_is_integer), sl_is_integer⟩) (c_is_integer : PySem.W.codeIn K cd_is_integer "is_integer" = true) (k_is_integer : PySem.W.keepIn K (.ref a_is_integer) = true)
    (g_is_within : PySem.W.nsIn K mainGlobals "is_within" = some (some (.ref a_is_within))) (l_is_within : K.lookup a_is_within = some ⟨oc_is_within, od_is_within, .func (PySem.W.fnOf "is_within" "is_within" (defArgs s_is_within) (defBody s_is_within) (defScope s_is_within) .none kV_is_within dc_is_within pm_is_within an_is_within cd_is_within ct_is_within), sl_is_within⟩) (c_is_within : PySem.W.codeIn K cd_is_within "is_within" = true) (k_is_within : PySem.W.keepIn K (.ref a_is_within) = true)
    (g_is_row_of : PySem.W.nsIn K mainGlobals "is_row_of" = some (some (.ref a_is_row_of))) (l_is_row_of : K.lookup a_is_row_of = some ⟨oc_is_row_of, od_is_row_of, .func (PySem.W.fnOf "is_row_of" "is_row_of" (defArgs s_is_row_of) (defBody s_is_row_of) (defScope s_is_row_of) .none kV_is_row_of dc_is_row_of pm_is_row_of an_is_row_of cd_is_row_of ct_is_row_of), sl_is_row_of⟩) (c_is_row_of : PySem.W.codeIn K cd_is_row_of "is_row_of" = true) (k_is_row_of : PySem.W.keepIn K (.ref a_is_row_of) = true)
    (g_is_number : PySem.W.nsIn K mainGlobals "is_number" = some (some (.ref a_is_number))) (l_is_number : K.lookup a_is_number = some ⟨oc_is_number, od_is_number, .func (PySem.W.fnOf "is_number" "is_number" (defArgs s_is_number) (defBody s_is_number) (defScope s_is_number) .none kV_is_number dc_is_number pm_is_number an_is_number cd_is_number ct_is_number), sl_is_number⟩) (c_is_number : PySem.W.codeIn K cd_is_number "is_number" = true) (k_is_number : PySem.W.keepIn K (.ref a_is_number) = true)
    (g_is_spot : PySem.W.nsIn K mainGlobals "is_spot" = some (some (.ref a_is_spot))) (l_is_spot : K.lookup a_is_spot = some ⟨oc_is_spot, od_is_spot, .func (PySem.W.fnOf "is_spot" "is_spot" (defArgs s_is_spot) (defBody s_is_spot) (defScope s_is_spot) .none kV_is_spot dc_is_spot pm_is_spot an_is_spot cd_is_spot ct_is_spot), sl_is_spot⟩) (c_is_spot : PySem.W.codeIn K cd_is_spot "is_spot" = true) (k_is_spot : PySem.W.keepIn K (.ref a_is_spot) = true)
    (g__law_grit : PySem.W.nsIn K mainGlobals "_law_grit" = some (some (.ref a__law_grit))) (l__law_grit : K.lookup a__law_grit = some ⟨oc__law_grit, od__law_grit, .func (PySem.W.fnOf "_law_grit" "_law_grit" (defArgs s__law_grit) (defBody s__law_grit) (defScope s__law_grit) .none kV__law_grit dc__law_grit pm__law_grit an__law_grit cd__law_grit ct__law_grit), sl__law_grit⟩) (c__law_grit : PySem.W.codeIn K cd__law_grit "_law_grit" = true) (k__law_grit : PySem.W.keepIn K (.ref a__law_grit) = true)
    (g__law_sieve : PySem.W.nsIn K mainGlobals "_law_sieve" = some (some (.ref a__law_sieve))) (l__law_sieve : K.lookup a__law_sieve = some ⟨oc__law_sieve, od__law_sieve, .func (PySem.W.fnOf "_law_sieve" "_law_sieve" (defArgs s__law_sieve) (defBody s__law_sieve) (defScope s__law_sieve) .none kV__law_sieve dc__law_sieve pm__law_sieve an__law_sieve cd__law_sieve ct__law_sieve), sl__law_sieve⟩) (c__law_sieve : PySem.W.codeIn K cd__law_sieve "_law_sieve" = true) (k__law_sieve : PySem.W.keepIn K (.ref a__law_sieve) = true)
    (g__law_pick : PySem.W.nsIn K mainGlobals "_law_pick" = some (some (.ref a__law_pick))) (l__law_pick : K.lookup a__law_pick = some ⟨oc__law_pick, od__law_pick, .func (PySem.W.fnOf "_law_pick" "_law_pick" (defArgs s__law_pick) (defBody s__law_pick) (defScope s__law_pick) .none kV__law_pick dc__law_pick pm__law_pick an__law_pick cd__law_pick ct__law_pick), sl__law_pick⟩) (c__law_pick : PySem.W.codeIn K cd__law_pick "_law_pick" = true) (k__law_pick : PySem.W.keepIn K (.ref a__law_pick) = true)
    (g__law_part : PySem.W.nsIn K mainGlobals "_law_part" = some (some (.ref a__law_part))) (l__law_part : K.lookup a__law_part = some ⟨oc__law_part, od__law_part, .func (PySem.W.fnOf "_law_part" "_law_part" (defArgs s__law_part) (defBody s__law_part) (defScope s__law_part) .none kV__law_part dc__law_part pm__law_part an__law_part cd__law_part ct__law_part), sl__law_part⟩) (c__law_part : PySem.W.codeIn K cd__law_part "_law_part" = true) (k__law_part : PySem.W.keepIn K (.ref a__law_part) = true)
    (g__law_is_integer : PySem.W.nsIn K mainGlobals "_law_is_integer" = some (some (.ref a__law_is_integer))) (l__law_is_integer : K.lookup a__law_is_integer = some ⟨oc__law_is_integer, od__law_is_integer, .func (PySem.W.fnOf "_law_is_integer" "_law_is_integer" (defArgs s__law_is_integer) (defBody s__law_is_integer) (defScope s__law_is_integer) .none kV__law_is_integer dc__law_is_integer pm__law_is_integer an__law_is_integer cd__law_is_integer ct__law_is_integer), sl__law_is_integer⟩) (c__law_is_integer : PySem.W.codeIn K cd__law_is_integer "_law_is_integer" = true) (k__law_is_integer : PySem.W.keepIn K (.ref a__law_is_integer) = true)
    (g__law_is_number : PySem.W.nsIn K mainGlobals "_law_is_number" = some (some (.ref a__law_is_number))) (l__law_is_number : K.lookup a__law_is_number = some ⟨oc__law_is_number, od__law_is_number, .func (PySem.W.fnOf "_law_is_number" "_law_is_number" (defArgs s__law_is_number) (defBody s__law_is_number) (defScope s__law_is_number) .none kV__law_is_number dc__law_is_number pm__law_is_number an__law_is_number cd__law_is_number ct__law_is_number), sl__law_is_number⟩) (c__law_is_number : PySem.W.codeIn K cd__law_is_number "_law_is_number" = true) (k__law_is_number : PySem.W.keepIn K (.ref a__law_is_number) = true)
    (g__law_integer : PySem.W.nsIn K mainGlobals "_law_integer" = some (some (.ref a__law_integer))) (l__law_integer : K.lookup a__law_integer = some ⟨oc__law_integer, od__law_integer, .func (PySem.W.fnOf "_law_integer" "_law_integer" (defArgs s__law_integer) (defBody s__law_integer) (defScope s__law_integer) .none kV__law_integer dc__law_integer pm__law_integer an__law_integer cd__law_integer ct__law_integer), sl__law_integer⟩) (c__law_integer : PySem.W.codeIn K cd__law_integer "_law_integer" = true) (k__law_integer : PySem.W.keepIn K (.ref a__law_integer) = true)
    (g__law_value : PySem.W.nsIn K mainGlobals "_law_value" = some (some (.ref a__law_value))) (l__law_value : K.lookup a__law_value = some ⟨oc__law_value, od__law_value, .func (PySem.W.fnOf "_law_value" "_law_value" (defArgs s__law_value) (defBody s__law_value) (defScope s__law_value) .none kV__law_value dc__law_value pm__law_value an__law_value cd__law_value ct__law_value), sl__law_value⟩) (c__law_value : PySem.W.codeIn K cd__law_value "_law_value" = true) (k__law_value : PySem.W.keepIn K (.ref a__law_value) = true)
    (g_law : PySem.W.nsIn K mainGlobals "law" = some (some (.ref a_law))) (l_law : K.lookup a_law = some ⟨oc_law, od_law, .func (PySem.W.fnOf "law" "law" (defArgs s_law) (defBody s_law) (defScope s_law) .none kV_law dc_law pm_law an_law cd_law ct_law), sl_law⟩) (c_law : PySem.W.codeIn K cd_law "law" = true) (k_law : PySem.W.keepIn K (.ref a_law) = true)
    (n_abs : PySem.W.nsIn K mainGlobals "abs" = some none)
    (n_bool : PySem.W.nsIn K mainGlobals "bool" = some none)
    (n_gcd : PySem.W.nsIn K mainGlobals "gcd" = some (some (.builtin "math.gcd")))
    (n_int : PySem.W.nsIn K mainGlobals "int" = some none)
    (n_isinstance : PySem.W.nsIn K mainGlobals "isinstance" = some none)
    (n_len : PySem.W.nsIn K mainGlobals "len" = some none)
    (n_list : PySem.W.nsIn K mainGlobals "list" = some none)
    (n_range : PySem.W.nsIn K mainGlobals "range" = some none)
    (n_repr : PySem.W.nsIn K mainGlobals "repr" = some none)
    (n_tuple : PySem.W.nsIn K mainGlobals "tuple" = some none) :
    ∃ fd : FuncData, (∀ (s : Shared) (v : Value), BindsTo s fd ⟨[v], []⟩ [("_law_script", v)]) ∧ ∀ base : Heap, K.In base → base.Ns mainGlobals mg → FnZ P w K mg base 7 fa fd ["_law_script"] spLaw := by
  have e := hfa.symm.trans (PySem.W.mg_of X G g_law)
  cases e
  let T : Txt K mg := { a_is_integer := a_is_integer, d_is_integer := _, F_is_integer := fun_mk (st := s_is_integer) l_is_integer c_is_integer k_is_integer, g_is_integer := PySem.W.mg_of X G g_is_integer, a_is_within := a_is_within, d_is_within := _, F_is_within := fun_mk (st := s_is_within) l_is_within c_is_within k_is_within, g_is_within := PySem.W.mg_of X G g_is_within, a_is_row_of := a_is_row_of, d_is_row_of := _, F_is_row_of := fun_mk (st := s_is_row_of) l_is_row_of c_is_row_of k_is_row_of, g_is_row_of := PySem.W.mg_of X G g_is_row_of, a_is_number := a_is_number, d_is_number := _, F_is_number := fun_mk (st := s_is_number) l_is_number c_is_number k_is_number, g_is_number := PySem.W.mg_of X G g_is_number, a_is_spot := a_is_spot, d_is_spot := _, F_is_spot := fun_mk (st := s_is_spot) l_is_spot c_is_spot k_is_spot, g_is_spot := PySem.W.mg_of X G g_is_spot, a__law_grit := a__law_grit, d__law_grit := _, F__law_grit := fun_mk (st := s__law_grit) l__law_grit c__law_grit k__law_grit, g__law_grit := PySem.W.mg_of X G g__law_grit, a__law_sieve := a__law_sieve, d__law_sieve := _, F__law_sieve := fun_mk (st := s__law_sieve) l__law_sieve c__law_sieve k__law_sieve, g__law_sieve := PySem.W.mg_of X G g__law_sieve, a__law_pick := a__law_pick, d__law_pick := _, F__law_pick := fun_mk (st := s__law_pick) l__law_pick c__law_pick k__law_pick, g__law_pick := PySem.W.mg_of X G g__law_pick, a__law_part := a__law_part, d__law_part := _, F__law_part := fun_mk (st := s__law_part) l__law_part c__law_part k__law_part, g__law_part := PySem.W.mg_of X G g__law_part, a__law_is_integer := a__law_is_integer, d__law_is_integer := _, F__law_is_integer := fun_mk (st := s__law_is_integer) l__law_is_integer c__law_is_integer k__law_is_integer, g__law_is_integer := PySem.W.mg_of X G g__law_is_integer, a__law_is_number := a__law_is_number, d__law_is_number := _, F__law_is_number := fun_mk (st := s__law_is_number) l__law_is_number c__law_is_number k__law_is_number, g__law_is_number := PySem.W.mg_of X G g__law_is_number, a__law_integer := a__law_integer, d__law_integer := _, F__law_integer := fun_mk (st := s__law_integer) l__law_integer c__law_integer k__law_integer, g__law_integer := PySem.W.mg_of X G g__law_integer, a__law_value := a__law_value, d__law_value := _, F__law_value := fun_mk (st := s__law_value) l__law_value c__law_value k__law_value, g__law_value := PySem.W.mg_of X G g__law_value, a_law := fa, d_law := _, F_law := fun_mk (st := s_law) l_law c_law k_law, g_law := PySem.W.mg_of X G g_law, n_abs := PySem.W.mg_none_of X G n_abs, n_bool := PySem.W.mg_none_of X G n_bool, n_gcd := PySem.W.mg_of X G n_gcd, n_int := PySem.W.mg_none_of X G n_int, n_isinstance := PySem.W.mg_none_of X G n_isinstance, n_len := PySem.W.mg_none_of X G n_len, n_list := PySem.W.mg_none_of X G n_list, n_range := PySem.W.mg_none_of X G n_range, n_repr := PySem.W.mg_none_of X G n_repr, n_tuple := PySem.W.mg_none_of X G n_tuple }
  exact ⟨T.d_law, fun s v => .of_eq rfl, fun base _ _ => ok_law T⟩
end Z
open PySem PySem.W PyProof.Rows in
set_option maxRecDepth 100000 in
set_option maxHeartbeats 0 in
theorem PySem.Challenge.cw_lanecross_k02_integers_numbers_spots_jud_holds : PySem.Challenge.rw_lanecross_k02_integers_numbers_spots_jud.Holds := by
  w_on; o_law; k_head; (case hw => w_witness2)
  k_fill
  refine Z.walkZ (l := PySem.Challenge.rw_lanecross_k02_integers_numbers_spots_jud) (k := 7) (x := "_law_script") rfl rfl ⟨rfl, by decide, by decide⟩ (fun w h Y => PySem.W.kIn_of Y) ?F
  case F =>
    intro w mg fa h KX G hmg
    refine' Z.all_mk KX G hmg ?g_is_integer ?l_is_integer ?c_is_integer ?k_is_integer ?g_is_within ?l_is_within ?c_is_within ?k_is_within ?g_is_row_of ?l_is_row_of ?c_is_row_of ?k_is_row_of ?g_is_number ?l_is_number ?c_is_number ?k_is_number ?g_is_spot ?l_is_spot ?c_is_spot ?k_is_spot ?g__law_grit ?l__law_grit ?c__law_grit ?k__law_grit ?g__law_sieve ?l__law_sieve ?c__law_sieve ?k__law_sieve ?g__law_pick ?l__law_pick ?c__law_pick ?k__law_pick ?g__law_part ?l__law_part ?c__law_part ?k__law_part ?g__law_is_integer ?l__law_is_integer ?c__law_is_integer ?k__law_is_integer ?g__law_is_number ?l__law_is_number ?c__law_is_number ?k__law_is_number ?g__law_integer ?l__law_integer ?c__law_integer ?k__law_integer ?g__law_value ?l__law_value ?c__law_value ?k__law_value ?g_law ?l_law ?c_law ?k_law ?n_abs ?n_bool ?n_gcd ?n_int ?n_isinstance ?n_len ?n_list ?n_range ?n_repr ?n_tuple
    (case g_is_integer => k_is)
    (case l_is_integer => k_is)
    (case c_is_integer => k_is)
    (case k_is_integer => k_is)
    (case g_is_within => k_is)
    (case l_is_within => k_is)
    (case c_is_within => k_is)
    (case k_is_within => k_is)
    (case g_is_row_of => k_is)
    (case l_is_row_of => k_is)
    (case c_is_row_of => k_is)
    (case k_is_row_of => k_is)
    (case g_is_number => k_is)
    (case l_is_number => k_is)
    (case c_is_number => k_is)
    (case k_is_number => k_is)
    (case g_is_spot => k_is)
    (case l_is_spot => k_is)
    (case c_is_spot => k_is)
    (case k_is_spot => k_is)
    (case g__law_grit => k_is)
    (case l__law_grit => k_is)
    (case c__law_grit => k_is)
    (case k__law_grit => k_is)
    (case g__law_sieve => k_is)
    (case l__law_sieve => k_is)
    (case c__law_sieve => k_is)
    (case k__law_sieve => k_is)
    (case g__law_pick => k_is)
    (case l__law_pick => k_is)
    (case c__law_pick => k_is)
    (case k__law_pick => k_is)
    (case g__law_part => k_is)
    (case l__law_part => k_is)
    (case c__law_part => k_is)
    (case k__law_part => k_is)
    (case g__law_is_integer => k_is)
    (case l__law_is_integer => k_is)
    (case c__law_is_integer => k_is)
    (case k__law_is_integer => k_is)
    (case g__law_is_number => k_is)
    (case l__law_is_number => k_is)
    (case c__law_is_number => k_is)
    (case k__law_is_number => k_is)
    (case g__law_integer => k_is)
    (case l__law_integer => k_is)
    (case c__law_integer => k_is)
    (case k__law_integer => k_is)
    (case g__law_value => k_is)
    (case l__law_value => k_is)
    (case c__law_value => k_is)
    (case k__law_value => k_is)
    (case g_law => k_is)
    (case l_law => k_is)
    (case c_law => k_is)
    (case k_law => k_is)
    (case n_abs => k_is)
    (case n_bool => k_is)
    (case n_gcd => k_is)
    (case n_int => k_is)
    (case n_isinstance => k_is)
    (case n_len => k_is)
    (case n_list => k_is)
    (case n_range => k_is)
    (case n_repr => k_is)
    (case n_tuple => k_is)


