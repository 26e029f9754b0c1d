import PyProof.Rows.All
import Wide.All
import OpenK.AllK
import Wide.FinOn
import HandS.ForMost
import HandS.ForExc
import HandS.ExcInit
import HandS.IsInst
import HandS.Wide
import HandS.Conv
import HandS.Flow
import HandS.Lambda
import HandS.Gcd
import HandS.TryOnly
import PyProof.ReprRoads
import HandS.WordsExc
import KE.KExcIs
import HandS.Nested
import HandS.EndOwn
import PySem.Challenge.RW_lanecross_k03_numbers_reckoned
set_option Elab.async false
set_option linter.all false
set_option maxRecDepth 100000
set_option maxHeartbeats 4000000
/-! Values as trees over the hand layer: what is never changed is a tree, what is changed has an address. -/
namespace Z
open PySem L2 PySem.Spec PyProof.Rows

inductive D where
  | non | bl (b : Bool) | int (i : Int) | str (x : Str) | flt (b : UInt64) | ref (a : Addr) | ty (n : String)
  | lst (xs : List D) | tup (xs : List D) | dct (kvs : List (Key × D)) | obj (C : Addr) (fs : List (Str × D)) | exn (C : Addr) (fs : List (Str × D))
inductive MO where
  | lst (xs : List D) | dct (kvs : List (Key × D)) | ins (C : Addr) (fs : List (Str × D)) | tbl (q : Str) | clo (f : Addr) (o : Obj) (vs : List V) (ds : List D)
abbrev MH := Addr → Option MO
abbrev EnvD := List (Option D)
def mput (M : MH) (a : Addr) (o : MO) : MH := fun b => if b = a then some o else M b
theorem mput_same {M : MH} {a : Addr} {o : MO} : mput M a o a = some o := by unfold mput; rw [if_pos rfl]
theorem mput_ne {M : MH} {a b : Addr} {o : MO} (h : b ≠ a) : mput M a o b = M b := by unfold mput; rw [if_neg h]
def mdel (M : MH) (a : Addr) : MH := fun b => if b = a then none else M b
theorem mdel_same {M : MH} {a : Addr} : mdel M a a = none := by unfold mdel; rw [if_pos rfl]
theorem mdel_ne {M : MH} {a b : Addr} (h : b ≠ a) : mdel M a b = M b := by unfold mdel; rw [if_neg h]

def WrL (K : PySem.W.Frag) (a : Addr) (xs : List V) : Prop :=
  ∃ (o : Obj) (its : Array Value) (n : Nat), K.lookup a = some o ∧ o.cls = .type "list" ∧ o.dict = none ∧ o.data = .seq its n ∧ its.size ≤ sizeLine ∧ Vals xs its.toList
def WrT (K : PySem.W.Frag) (a : Addr) (xs : List V) : Prop :=
  ∃ (o : Obj) (its : Array Value) (n : Nat), K.lookup a = some o ∧ o.cls = .type "tuple" ∧ o.data = .seq its n ∧ its.size ≤ sizeLine ∧ Vals xs its.toList
def ReL (K : PySem.W.Frag) (H : Hp) (M : MH) (a : Addr) (xs : List V) : Prop := (M a = none ∧ Rd H a (.lst xs)) ∨ WrL K a xs
def ReT (K : PySem.W.Frag) (H : Hp) (M : MH) (a : Addr) (xs : List V) : Prop := (M a = none ∧ Rd H a (.tup xs)) ∨ WrT K a xs
theorem ReL.sq {K : PySem.W.Frag} {H : Hp} {M : MH} {a : Addr} {xs : List V} (h : ReL K H M a xs) : SqL K H a xs := h.elim (fun h => .inl h.2) .inr
theorem ReT.sq {K : PySem.W.Frag} {H : Hp} {M : MH} {a : Addr} {xs : List V} (h : ReT K H M a xs) : SqT K H a xs := h.elim (fun h => .inl h.2) .inr

/-- an exception that was caught: of the class at C, its own dict at dx -/
def ExcAt (a C : Addr) (dx : Option Addr) : Heap → Prop := fun h => ∃ oe vs, h.get? a = some oe ∧ oe.cls = .ref C ∧ oe.dict = dx ∧ oe.data = .fields vs

mutual
inductive Rep (K : PySem.W.Frag) (H : Hp) (M : MH) : V → D → Prop
  | non : Rep K H M .non .non
  | bl (b) : Rep K H M (.bl b) (.bl b)
  | int (i) : Rep K H M (.int i) (.int i)
  | str (x) : Rep K H M (.str x) (.str x)
  | flt (x) : Rep K H M (.flt x) (.flt x)
  | ref (a) : Rep K H M (.ref a) (.ref a)
  | ty (n) : Rep K H M (.ty n) (.ty n)
  | lst {a vs xs} : ReL K H M a vs → Reps K H M vs xs → Rep K H M (.ref a) (.lst xs)
  | tup {a vs xs} : ReT K H M a vs → Reps K H M vs xs → Rep K H M (.ref a) (.tup xs)
  | dct {a kvs kds} : M a = none → H a = some (.dK kvs) → RepK K H M kvs kds → Rep K H M (.ref a) (.dct kds)
  | obj {a C dx fs ds} : M a = none → H a = some (.ins C dx fs) → RepF K H M fs ds → Rep K H M (.ref a) (.obj C ds)
  | exn {a C dx fs ds} : M a = none → M dx = none → H a = some (.ext (ExcAt a C (some dx))) → H dx = some (.xd fs) → RepF K H M fs ds → Rep K H M (.ref a) (.exn C ds)
  | exn0 {a C} : M a = none → H a = some (.ext (ExcAt a C none)) → Rep K H M (.ref a) (.exn C [])
inductive Reps (K : PySem.W.Frag) (H : Hp) (M : MH) : List V → List D → Prop
  | nil : Reps K H M [] []
  | cons {v d vs ds} : Rep K H M v d → Reps K H M vs ds → Reps K H M (v :: vs) (d :: ds)
inductive RepK (K : PySem.W.Frag) (H : Hp) (M : MH) : List (Key × V) → List (Key × D) → Prop
  | nil : RepK K H M [] []
  | cons {k v d vs ds} : Rep K H M v d → RepK K H M vs ds → RepK K H M ((k, v) :: vs) ((k, d) :: ds)
inductive RepF (K : PySem.W.Frag) (H : Hp) (M : MH) : List (Str × V) → List (Str × D) → Prop
  | nil : RepF K H M [] []
  | cons {k v d vs ds} : Rep K H M v d → RepF K H M vs ds → RepF K H M ((k, v) :: vs) ((k, d) :: ds)
end

/-- what is a tree stays -/
def Good (H : Hp) (M : MH) (H' : Hp) (M' : MH) : Prop := ∀ a o, H a = some o → M a = none → H' a = some o ∧ M' a = none
theorem Good.refl {H : Hp} {M : MH} : Good H M H M := fun _ _ h m => ⟨h, m⟩
theorem Good.trans {H H1 H2 : Hp} {M M1 M2 : MH} (a : Good H M H1 M1) (b : Good H1 M1 H2 M2) : Good H M H2 M2 := fun c o h m => let ⟨h1, m1⟩ := a c o h m; b c o h1 m1

section
variable {K : PySem.W.Frag} {H H' : Hp} {M M' : MH}
theorem Rd.good {a : Addr} {u : HO} (g : Good H M H' M') (m : M a = none) (r : Rd H a u) : Rd H' a u ∧ M' a = none := by
  rcases r with r | ⟨o, r⟩
  · exact ⟨.inl (g a _ r m).1, (g a _ r m).2⟩
  · exact ⟨.inr ⟨o, (g a _ r m).1⟩, (g a _ r m).2⟩
theorem ReL.good {a : Addr} {xs : List V} (g : Good H M H' M') (h : ReL K H M a xs) : ReL K H' M' a xs := by
  rcases h with ⟨m, r⟩ | h
  · exact .inl ⟨(Rd.good g m r).2, (Rd.good g m r).1⟩
  · exact .inr h
theorem ReT.good {a : Addr} {xs : List V} (g : Good H M H' M') (h : ReT K H M a xs) : ReT K H' M' a xs := by
  rcases h with ⟨m, r⟩ | h
  · exact .inl ⟨(Rd.good g m r).2, (Rd.good g m r).1⟩
  · exact .inr h
mutual
theorem Rep.good (g : Good H M H' M') : ∀ {v : V} {d : D}, Rep K H M v d → Rep K H' M' v d
  | _, _, .non => .non
  | _, _, .bl b => .bl b
  | _, _, .int i => .int i
  | _, _, .str x => .str x
  | _, _, .flt x => .flt x
  | _, _, .ref a => .ref a
  | _, _, .ty n => .ty n
  | _, _, .lst h r => .lst (h.good g) (Reps.good g r)
  | _, _, .tup h r => .tup (h.good g) (Reps.good g r)
  | _, _, .dct m h r => .dct (g _ _ h m).2 (g _ _ h m).1 (RepK.good g r)
  | _, _, .obj m h r => .obj (g _ _ h m).2 (g _ _ h m).1 (RepF.good g r)
  | _, _, .exn0 m h => .exn0 (g _ _ h m).2 (g _ _ h m).1
  | _, _, .exn m m2 h h2 r => .exn (g _ _ h m).2 (g _ _ h2 m2).2 (g _ _ h m).1 (g _ _ h2 m2).1 (RepF.good g r)
theorem Reps.good (g : Good H M H' M') : ∀ {vs : List V} {ds : List D}, Reps K H M vs ds → Reps K H' M' vs ds
  | _, _, .nil => .nil
  | _, _, .cons r t => .cons (Rep.good g r) (Reps.good g t)
theorem RepK.good (g : Good H M H' M') : ∀ {vs : List (Key × V)} {ds : List (Key × D)}, RepK K H M vs ds → RepK K H' M' vs ds
  | _, _, .nil => .nil
  | _, _, .cons r t => .cons (Rep.good g r) (RepK.good g t)
theorem RepF.good (g : Good H M H' M') : ∀ {vs : List (Str × V)} {ds : List (Str × D)}, RepF K H M vs ds → RepF K H' M' vs ds
  | _, _, .nil => .nil
  | _, _, .cons r t => .cons (Rep.good g r) (RepF.good g t)
end
theorem Reps.length : ∀ {vs : List V} {ds : List D}, Reps K H M vs ds → vs.length = ds.length
  | _, _, .nil => rfl
  | _, _, .cons _ t => by simp [Reps.length t]
theorem Reps.get : ∀ {vs : List V} {ds : List D} {i : Nat} {d : D}, Reps K H M vs ds → ds[i]? = some d → ∃ v, vs[i]? = some v ∧ Rep K H M v d
  | _, _, _, _, .nil, e => by simp at e
  | _, _, 0, _, .cons r _, e => by simp at e; subst e; exact ⟨_, rfl, r⟩
  | _, _, i + 1, d, .cons _ t, e => by
    obtain ⟨v, h1, h2⟩ := Reps.get (i := i) t (by simpa using e)
    exact ⟨v, by simpa using h1, h2⟩
theorem Reps.get' : ∀ {vs : List V} {ds : List D} {i : Nat} {v : V}, Reps K H M vs ds → vs[i]? = some v → ∃ d, ds[i]? = some d ∧ Rep K H M v d
  | _, _, _, _, .nil, e => by simp at e
  | _, _, 0, _, .cons r _, e => by simp at e; subst e; exact ⟨_, rfl, r⟩
  | _, _, i + 1, d, .cons _ t, e => by
    obtain ⟨v, h1, h2⟩ := Reps.get' (i := i) t (by simpa using e)
    exact ⟨v, by simpa using h1, h2⟩
theorem Reps.append : ∀ {vs ws : List V} {ds es : List D}, Reps K H M vs ds → Reps K H M ws es → Reps K H M (vs ++ ws) (ds ++ es)
  | _, _, _, _, .nil, s => s
  | _, _, _, _, .cons r t, s => .cons r (Reps.append t s)
theorem Reps.set {v : V} {d : D} (r : Rep K H M v d) : ∀ {vs : List V} {ds : List D} (i : Nat), Reps K H M vs ds → Reps K H M (vs.set i v) (ds.set i d)
  | _, _, _, .nil => .nil
  | _, _, 0, .cons _ t => .cons r t
  | _, _, i + 1, .cons q t => .cons q (Reps.set r i t)
theorem Reps.take : ∀ {vs : List V} {ds : List D} (n : Nat), Reps K H M vs ds → Reps K H M (vs.take n) (ds.take n)
  | _, _, 0, _ => .nil
  | _, _, _ + 1, .nil => .nil
  | _, _, n + 1, .cons r t => .cons r (Reps.take n t)
theorem Reps.drop : ∀ {vs : List V} {ds : List D} (n : Nat), Reps K H M vs ds → Reps K H M (vs.drop n) (ds.drop n)
  | _, _, 0, r => r
  | _, _, _ + 1, .nil => .nil
  | _, _, n + 1, .cons _ t => Reps.drop n t
theorem RepF.lookup {f : Str} : ∀ {vs : List (Str × V)} {ds : List (Str × D)} {d : D}, RepF K H M vs ds → ds.lookup f = some d → ∃ v, vs.lookup f = some v ∧ Rep K H M v d
  | _, _, _, .nil, e => by simp at e
  | _, _, d, .cons (k := k) r t, e => by
    rw [List.lookup_cons] at e ⊢
    cases h : f == k with
    | true => rw [h] at e; cases e; exact ⟨_, rfl, r⟩
    | false => rw [h] at e; exact RepF.lookup t e
theorem RepF.length : ∀ {vs : List (Str × V)} {ds : List (Str × D)}, RepF K H M vs ds → vs.length = ds.length
  | _, _, .nil => rfl
  | _, _, .cons _ t => by simp [RepF.length t]
theorem RepF.lookup_none {f : Str} : ∀ {vs : List (Str × V)} {ds : List (Str × D)}, RepF K H M vs ds → ds.lookup f = none → vs.lookup f = none
  | _, _, .nil, _ => rfl
  | _, _, .cons (k := k) r t, e => by
    rw [List.lookup_cons] at e ⊢
    cases h : f == k with
    | true => rw [h] at e; cases e
    | false => rw [h] at e; exact RepF.lookup_none t e
end

/-- at f: this very object -/
def CloO (f : Addr) (o : Obj) : HO := .ext fun h => h.get? f = some o
/-- what has an address -/
inductive RepM (K : PySem.W.Frag) (H : Hp) (M : MH) : HO → MO → Prop
  | lst {vs xs} : Reps K H M vs xs → RepM K H M (.lst vs) (.lst xs)
  | dct {kvs kds} : RepK K H M kvs kds → RepM K H M (.dK kvs) (.dct kds)
  | ins {C dx fs ds o} : M dx = none → H dx = some o → RepF K H M fs ds → RepM K H M (.ins C dx fs) (.ins C ds)
  | tbl {q ps} : TriplesOk ps.toList → (∀ (pos : Pos) (cv : Value), codeAmong pos ps.toList = some cv → ∃ c, cv = .ref c ∧ H c = some (LamX.CodeO c q) ∧ M c = none) → RepM K H M (.tbl ps) (.tbl q)
  | clo {f o vs ds} : Reps K H M vs ds → RepM K H M (CloO f o) (.clo f o vs ds)
def Mut (K : PySem.W.Frag) (H : Hp) (M : MH) : Prop := ∀ a mo, M a = some mo → ∃ ho, H a = some ho ∧ RepM K H M ho mo
def Slots (K : PySem.W.Frag) (H : Hp) (M : MH) (σ : L2.St) (τ : EnvD) : Prop := σ.length = τ.length ∧ ∀ (i : Nat) (d : D), τ[i]? = some (some d) → ∃ v, σ[i]? = some (some v) ∧ Rep K H M v d
section
variable {K : PySem.W.Frag} {H H' : Hp} {M M' : MH} {σ : L2.St} {τ : EnvD}
theorem RepM.good (g : Good H M H' M') {ho : HO} {mo : MO} (h : RepM K H M ho mo) : RepM K H' M' ho mo := by
  cases h with
  | lst r => exact .lst (r.good g)
  | dct r => exact .dct (r.good g)
  | ins m e r => exact .ins (g _ _ e m).2 (g _ _ e m).1 (r.good g)
  | tbl t a => exact .tbl t fun pos cv e => let ⟨c, h1, h2, h3⟩ := a pos cv e; ⟨c, h1, (g _ _ h2 h3).1, (g _ _ h2 h3).2⟩
  | clo r => exact .clo (r.good g)
theorem Slots.good (g : Good H M H' M') (h : Slots K H M σ τ) : Slots K H' M' σ τ := ⟨h.1, fun i d e => let ⟨v, e1, r⟩ := h.2 i d e; ⟨v, e1, r.good g⟩⟩
theorem Slots.set {i : Nat} {v : V} {d : D} (h : Slots K H M σ τ) (r : Rep K H M v d) : Slots K H M (σ.set i (some v)) (τ.set i (some d)) := by
  refine ⟨by simp [h.1], fun j e q => ?_⟩
  by_cases hj : i = j
  · subst hj
    by_cases hl : i < τ.length
    · rw [List.getElem?_set_self hl] at q
      cases q
      exact ⟨v, List.getElem?_set_self (by rw [h.1]; exact hl), r⟩
    · rw [List.getElem?_eq_none (by simpa using hl)] at q
      cases q
  · rw [List.getElem?_set_ne hj] at q ⊢
    exact h.2 j e q
theorem Slots.unset {i : Nat} (h : Slots K H M σ τ) : Slots K H M (σ.set i none) (τ.set i none) := by
  refine ⟨by simp [h.1], fun j e q => ?_⟩
  by_cases hj : i = j
  · subst hj
    by_cases hl : i < τ.length
    · rw [List.getElem?_set_self hl] at q
      cases q
    · rw [List.getElem?_eq_none (by simpa using hl)] at q
      cases q
  · rw [List.getElem?_set_ne hj] at q ⊢
    exact h.2 j e q
end

/-! ### readings over trees -/
abbrev WD := Addr → List (Str × D) → EnvD → MH → Prop
abbrev QD := D → MH → Prop
abbrev TED := WD → EnvD → MH → QD → Prop
abbrev TTD := WD → EnvD → MH → (Bool → MH → Prop) → Prop
abbrev TAD := WD → EnvD → MH → (List D → MH → Prop) → Prop
structure EndsD where
  nx : EnvD → MH → Prop
  rt : QD
  bk : EnvD → MH → Prop := fun _ _ => False
  ct : EnvD → MH → Prop := fun _ _ => False
abbrev TSD := WD → EndsD → EnvD → MH → Prop

/-- an exception's own dict -/
def ExD (K : PySem.W.Frag) (H : Hp) (M : MH) (d : Option Addr) (fs : List (Str × D)) : Prop :=
  (∃ dx ws, d = some dx ∧ M dx = none ∧ H dx = some (.xd ws) ∧ RepF K H M ws fs) ∨ (d = none ∧ fs = [])
/-- the wish for exceptions, over trees -/
def liftW (K : PySem.W.Frag) (H0 : Hp) (M0 : MH) (W : WD) : WX := fun cls d σ H => ∃ C ds τ M, cls = .ref C ∧ ExD K H M d ds ∧ Good H0 M0 H M ∧ Slots K H M σ τ ∧ Mut K H M ∧ W C ds τ M
def upE (K : PySem.W.Frag) (H0 : Hp) (M0 : MH) (W : WD) (t : TED) : TE := fun σ H Q => ∃ τ M F, Good H0 M0 H M ∧ Slots K H M σ τ ∧ Mut K H M ∧ t W τ M F ∧
  ∀ v H' d M', Good H M H' M' → Mut K H' M' → Rep K H' M' v d → F d M' → Q v H'
def upT (K : PySem.W.Frag) (H0 : Hp) (M0 : MH) (W : WD) (t : TTD) : TT := fun σ H Q => ∃ τ M F, Good H0 M0 H M ∧ Slots K H M σ τ ∧ Mut K H M ∧ t W τ M F ∧
  ∀ b H' M', Good H M H' M' → Mut K H' M' → F b M' → Q b H'
def upA (K : PySem.W.Frag) (H0 : Hp) (M0 : MH) (W : WD) (t : TAD) : TA := fun σ H Q => ∃ τ M F, Good H0 M0 H M ∧ Slots K H M σ τ ∧ Mut K H M ∧ t W τ M F ∧
  ∀ vs H' ds M', Good H M H' M' → Mut K H' M' → Reps K H' M' vs ds → F ds M' → Q vs H'
def liftN (K : PySem.W.Frag) (H0 : Hp) (M0 : MH) (N : EnvD → MH → Prop) : L2.St → Hp → Prop := fun σ H => ∃ τ M, Good H0 M0 H M ∧ Slots K H M σ τ ∧ Mut K H M ∧ N τ M
def liftR (K : PySem.W.Frag) (H0 : Hp) (M0 : MH) (R : QD) : VK := fun v H => ∃ d M, Good H0 M0 H M ∧ Mut K H M ∧ Rep K H M v d ∧ R d M
def upS (K : PySem.W.Frag) (H0 : Hp) (M0 : MH) (W : WD) (t : TSD) : TS := fun D σ H => ∃ τ M F, Good H0 M0 H M ∧ Slots K H M σ τ ∧ Mut K H M ∧ t W F τ M ∧
  (∀ σ' H', liftN K H M F.nx σ' H' → D.nx σ' H') ∧ (∀ v H', liftR K H M F.rt v H' → D.rt v H') ∧ (∀ σ' H', liftN K H M F.bk σ' H' → D.bk σ' H') ∧ (∀ σ' H', liftN K H M F.ct σ' H' → D.ct σ' H')
theorem liftN.tr {K : PySem.W.Frag} {H H1 H2 : Hp} {M M1 : MH} {N : EnvD → MH → Prop} {σ : L2.St} (g : Good H M H1 M1) (h : liftN K H1 M1 N σ H2) : liftN K H M N σ H2 := let ⟨τ, M2, g2, sl, mu, q⟩ := h; ⟨τ, M2, g.trans g2, sl, mu, q⟩
theorem liftR.tr {K : PySem.W.Frag} {H H1 H2 : Hp} {M M1 : MH} {R : QD} {v : V} (g : Good H M H1 M1) (h : liftR K H1 M1 R v H2) : liftR K H M R v H2 := let ⟨d, M2, g2, mu, r, q⟩ := h; ⟨d, M2, g.trans g2, mu, r, q⟩

/-- a place where code runs: X up to what is wished of exceptions -/
structure At (X : Cx) (pn : List (Addr × Obj)) (xe : Value → Shared → Prop) (H0 : Hp) (M0 : MH) (W : WD) : Prop where
  tk : Takes (X.tr pn xe) (liftW X.K H0 M0 W)
  po : PassesOwn (model X.prog X.w) X.A X.env xe
def PD (X : Cx) (e : Expr) (t : TED) : Prop := ∀ pn xe H0 M0 W, At X pn xe H0 M0 W → PE (X.tr pn xe) e (upE X.K H0 M0 W t)
def PDT (X : Cx) (e : Expr) (t : TTD) : Prop := ∀ pn xe H0 M0 W, At X pn xe H0 M0 W → PT (X.tr pn xe) e (upT X.K H0 M0 W t)
def PDW (X : Cx) (e : Expr) (t : TTD) : Prop := ∀ pn xe H0 M0 W, At X pn xe H0 M0 W → PW (X.tr pn xe) e (upT X.K H0 M0 W t)
def PDA (X : Cx) (es : List Expr) (t : TAD) : Prop := ∀ pn xe H0 M0 W, At X pn xe H0 M0 W → PA (X.tr pn xe) es (upA X.K H0 M0 W t)
def PDS (X : Cx) (s : Stmt) (t : TSD) : Prop := ∀ pn xe H0 M0 W, At X pn xe H0 M0 W → PS (X.tr pn xe) s (upS X.K H0 M0 W t)
def PDB (X : Cx) (s : List Stmt) (t : TSD) : Prop := ∀ pn xe H0 M0 W, At X pn xe H0 M0 W → PSs (X.tr pn xe) s (upS X.K H0 M0 W t)
end Z

set_option Elab.async false
set_option linter.all false
set_option maxRecDepth 100000
set_option maxHeartbeats 4000000
namespace Z
open PySem L2 PySem.Spec PyProof.Rows

theorem imE {X : Cx} {e : Expr} {t t' : TE} (h : PE X e t) (i : ∀ σ H Q, t' σ H Q → t σ H Q) : PE X e t' := ⟨fun pins s σ H Q I q => h.run pins s σ H Q I (i σ H Q q)⟩
theorem imT {X : Cx} {e : Expr} {t t' : TT} (h : PT X e t) (i : ∀ σ H Q, t' σ H Q → t σ H Q) : PT X e t' := ⟨fun pins s σ H Q I q => h.run pins s σ H Q I (i σ H Q q)⟩
theorem imW {X : Cx} {e : Expr} {t t' : TT} (h : PW X e t) (i : ∀ σ H Q, t' σ H Q → t σ H Q) : PW X e t' := ⟨fun w pins s σ H Q I q => h.run w pins s σ H Q I (i σ H Q q)⟩
theorem imA {X : Cx} {e : List Expr} {t t' : TA} (h : PA X e t) (i : ∀ σ H Q, t' σ H Q → t σ H Q) : PA X e t' := ⟨fun pos pins s σ H Q I q => h.run pos pins s σ H Q I (i σ H Q q)⟩
theorem imS {X : Cx} {e : Stmt} {t t' : TS} (h : PS X e t) (i : ∀ D σ H, t' D σ H → t D σ H) : PS X e t' := ⟨fun pins s σ H D I q => h.run pins s σ H D I (i D σ H q)⟩
theorem imB {X : Cx} {e : List Stmt} {t t' : TS} (h : PSs X e t) (i : ∀ D σ H, t' D σ H → t D σ H) : PSs X e t' := ⟨fun pins s σ H D I q => h.run pins s σ H D I (i D σ H q)⟩

/-! ### slots by their places -/
def getN : EnvD → Nat → Option D
  | [], _ => none
  | x :: _, 0 => x
  | _ :: r, n + 1 => getN r n
def setN : EnvD → Nat → Option D → EnvD
  | [], _, _ => []
  | _ :: r, 0, d => d :: r
  | x :: r, n + 1, d => x :: setN r n d
theorem getN_some : ∀ {τ : EnvD} {i : Nat} {d : D}, getN τ i = some d → τ[i]? = some (some d)
  | [], _, _, h => by cases h
  | x :: _, 0, d, h => by simp [getN] at h; subst h; rfl
  | _ :: r, n + 1, d, h => by simpa using getN_some (τ := r) (i := n) h
theorem setN_eq : ∀ (τ : EnvD) (i : Nat) (d : Option D), setN τ i d = τ.set i d
  | [], _, _ => rfl
  | _ :: _, 0, _ => rfl
  | x :: r, n + 1, d => by show x :: setN r n d = x :: r.set n d; rw [setN_eq r n d]

/-! ### relations between operations on values and on trees -/
abbrev R2D := D → D → MH → QD → Prop
abbrev RCD := List D → MH → QD → Prop
/-- behind an operation -/
abbrev Fin (K : PySem.W.Frag) (H : Hp) (M : MH) (F : QD) (Q : VK) : Prop := ∀ v H' d M', Good H M H' M' → Mut K H' M' → Rep K H' M' v d → F d M' → Q v H'
def SimOp (K : PySem.W.Frag) (r : R2) (rd : R2D) : Prop := ∀ x y d e H M F Q, Rep K H M x d → Rep K H M y e → Mut K H M → rd d e M F → Fin K H M F Q → r x y H Q
def SimU (K : PySem.W.Frag) (r : V → Hp → VK → Prop) (rd : D → MH → QD → Prop) : Prop := ∀ x d H M F Q, Rep K H M x d → Mut K H M → rd d M F → Fin K H M F Q → r x H Q
def SimC (K : PySem.W.Frag) (r : List V → Hp → VK → Prop) (rd : RCD) : Prop := ∀ xs ds H M F Q, Reps K H M xs ds → Mut K H M → rd ds M F → Fin K H M F Q → r xs H Q

/-! ### expressions -/
def tVarD (i : Nat) : TED := fun _ τ M Q => match getN τ i with | some d => Q d M | none => False
def tCD (d : D) : TED := fun _ _ M Q => Q d M
def tOpD (r : R2D) (ta tb : TED) : TED := fun W τ M Q => ta W τ M fun x M1 => tb W τ M1 fun y M2 => r x y M2 Q
def tUnD (r : D → MH → QD → Prop) (ta : TED) : TED := fun W τ M Q => ta W τ M fun x M1 => r x M1 Q
def tNilD : TAD := fun _ _ M Q => Q [] M
def tConsD (ta : TED) (tr : TAD) : TAD := fun W τ M Q => ta W τ M fun x M1 => tr W τ M1 fun xs M2 => Q (x :: xs) M2
def tCBD (r : RCD) (t : TAD) : TED := fun W τ M Q => t W τ M fun ds M1 => r ds M1 Q
section
variable {X : Cx} {e a b c : Expr} {es : List Expr} {t ta tb tc : TED} {ts : TAD} {pos p : Pos}

theorem upE_fin {K : PySem.W.Frag} {H0 : Hp} {M0 : MH} {W : WD} {σ : L2.St} {H : Hp} {M : MH} {τ : EnvD} {t : TED} {F : QD} {Q : VK} (g0 : Good H0 M0 H M) (sl : Slots K H M σ τ) (mu : Mut K H M) (h : t W τ M F) (k : Fin K H M F Q) : upE K H0 M0 W t σ H Q :=
  ⟨τ, M, F, g0, sl, mu, h, k⟩

theorem pd_var (i : Nat) {x : Str} (hN : X.N[i]? = some x := by rfl) (hv : Vis X.env.scope x := by first | exact Or.inl rfl | exact Or.inr (Or.inl rfl) | exact Or.inr (Or.inr rfl)) (hd : (x == ("__debug__" : Str)) = false := by decide)
    (hcd : (x == ("__classdict__" : Str)) = false := by decide) : PD X (.Name x pos) (tVarD i) := fun pn xe H0 M0 W at_ =>
  imE (pe_var (X := X.tr pn xe) hN hv hd hcd) fun σ H Q ⟨τ, M, F, g0, sl, mu, h, k⟩ => by
    unfold tVarD at h
    cases q : getN τ i with
    | none => rw [q] at h; exact h.elim
    | some d =>
      rw [q] at h
      obtain ⟨v, e1, r⟩ := sl.2 i d (getN_some q)
      exact ⟨v, e1, k v H d M .refl mu r h⟩
theorem pd_c {v : V} {d : D} (h : ∀ pn xe, PE (X.tr pn xe) e (tC v)) (r : ∀ K H M, Rep K H M v d) : PD X e (tCD d) := fun pn xe H0 M0 W at_ =>
  imE (h pn xe) fun σ H Q ⟨τ, M, F, g0, sl, mu, h, k⟩ => k v H d M .refl mu (r _ _ _) h
theorem pd_int {i j} : PD X (.Constant (.int i) j pos) (tCD (.int i)) := pd_c (fun _ _ => pe_int) fun _ _ _ => .int i
theorem pd_bl {i j} : PD X (.Constant (.bool i) j pos) (tCD (.bl i)) := pd_c (fun _ _ => pe_bl) fun _ _ _ => .bl i
theorem pd_non {j} : PD X (.Constant .none j pos) (tCD .non) := pd_c (fun _ _ => pe_non) fun _ _ _ => .non
theorem pd_str {i j} : PD X (.Constant (.str i) j pos) (tCD (.str i)) := pd_c (fun _ _ => pe_str) fun _ _ _ => .str i
/-- a def, a class -/
theorem pd_glob {x : Str} {f : Addr} (hm : X.mg x = some (.ref f)) (hg : Gl X x := by rfl) (hd : (x == ("__debug__" : Str)) = false := by decide) : PD X (.Name x pos) (tCD (.ref f)) :=
  pd_c (fun pn xe => pe_glob (X := X.tr pn xe) (v := .ref f) hg hm rfl hd) fun _ _ _ => .ref f
/-- a built-in type -/
theorem pd_ty {x : Str} {n : String} (hm : X.mg x = none) (hv : bootBuiltins x = some (.type n) := by decide +kernel) (hg : Gl X x := by rfl) (hn : x ≠ "__name__" := by decide) (hd : (x == ("__debug__" : Str)) = false := by decide) : PD X (.Name x pos) (tCD (.ty n)) :=
  pd_c (fun pn xe => pe_bltn (X := X.tr pn xe) (v := .ty n) hg hm hv rfl hn hd) fun _ _ _ => .ty n

theorem pd_op {op : Operator} {r : R2} {rd : R2D} (ho : ∀ pn xe, OpR (X.tr pn xe) (binaryOp op) r) (hs : SimOp X.K r rd) (ha : PD X a ta) (hb : PD X b tb) : PD X (.BinOp a op b pos) (tOpD rd ta tb) := fun pn xe H0 M0 W at_ =>
  imE (pe_op (ho pn xe) (ha pn xe H0 M0 W at_) (hb pn xe H0 M0 W at_)) fun σ H Q ⟨τ, M, F, g0, sl, mu, h, k⟩ =>
    upE_fin g0 sl mu h fun x H1 d M1 g1 mu1 r1 h1 => upE_fin (g0.trans g1) (sl.good g1) mu1 h1 fun y H2 e M2 g2 mu2 r2 h2 =>
      hs x y d e H2 M2 F Q (r1.good g2) r2 mu2 h2 fun v H' d' M' g' mu' r' f' => k v H' d' M' ((g1.trans g2).trans g') mu' r' f'
theorem pd_cmp {op : CmpOp} {r : R2} {rd : R2D} (ho : ∀ pn xe, OpR (X.tr pn xe) (compareOp op) r) (hs : SimOp X.K r rd) (ha : PD X a ta) (hb : PD X b tb) (hm : behindInMarks op b = false := by first | exact nomark _ | rfl) : PD X (.Compare a [op] [b] pos) (tOpD rd ta tb) := fun pn xe H0 M0 W at_ =>
  imE (pe_cmpR (ho pn xe) (ha pn xe H0 M0 W at_) (hb pn xe H0 M0 W at_) hm) fun σ H Q ⟨τ, M, F, g0, sl, mu, h, k⟩ =>
    upE_fin g0 sl mu h fun x H1 d M1 g1 mu1 r1 h1 => upE_fin (g0.trans g1) (sl.good g1) mu1 h1 fun y H2 e M2 g2 mu2 r2 h2 =>
      hs x y d e H2 M2 F Q (r1.good g2) r2 mu2 h2 fun v H' d' M' g' mu' r' f' => k v H' d' M' ((g1.trans g2).trans g') mu' r' f'
theorem pd_un {op : UnaryOp} {r : V → Hp → VK → Prop} {rd : D → MH → QD → Prop} (ho : ∀ pn xe, UnR (X.tr pn xe) (unaryOp op) r) (hs : SimU X.K r rd) (ha : PD X a ta) : PD X (.UnaryOp op a pos) (tUnD rd ta) := fun pn xe H0 M0 W at_ =>
  imE (pe_un (ho pn xe) (ha pn xe H0 M0 W at_)) fun σ H Q ⟨τ, M, F, g0, sl, mu, h, k⟩ =>
    upE_fin g0 sl mu h fun x H1 d M1 g1 mu1 r1 h1 => hs x d H1 M1 F Q r1 mu1 h1 fun v H' d' M' g' mu' r' f' => k v H' d' M' (g1.trans g') mu' r' f'

/-! ### arguments, displays -/
theorem pda_nil : PDA X [] tNilD := fun pn xe H0 M0 W at_ => imA pa_nil fun σ H Q ⟨τ, M, F, g0, sl, mu, h, k⟩ => k [] H [] M .refl mu .nil h
theorem pda_cons (ha : PD X e t) (hr : PDA X es ts) (hs : starEach (e :: es) X.env = (false, eval e X.env) :: starEach es X.env := by rfl) : PDA X (e :: es) (tConsD t ts) := fun pn xe H0 M0 W at_ =>
  imA (pa_cons (X := X.tr pn xe) (ha pn xe H0 M0 W at_) (hr pn xe H0 M0 W at_) hs) fun σ H Q ⟨τ, M, F, g0, sl, mu, h, k⟩ =>
    upE_fin g0 sl mu h fun x H1 d M1 g1 mu1 r1 h1 => ⟨τ, M1, _, g0.trans g1, sl.good g1, mu1, h1, fun xs H2 ds M2 g2 mu2 r2 h2 => k (x :: xs) H2 (d :: ds) M2 (g1.trans g2) mu2 (.cons (r1.good g2) r2) h2⟩

theorem good_new {H : Hp} {M : MH} {p : Addr} {o : HO} (hp : H p = none) : Good H M (upd H p o) M := fun a u h m => ⟨by rw [upd_ne (ne_of_none h hp)]; exact h, m⟩
theorem good_put {H : Hp} {M : MH} {p : Addr} {o : HO} {mo : MO} (hp : H p = none) : Good H M (upd H p o) (mput M p mo) := fun a u h m => ⟨by rw [upd_ne (ne_of_none h hp)]; exact h, by rw [mput_ne (ne_of_none h hp)]; exact m⟩
theorem mut_none {K : PySem.W.Frag} {H : Hp} {M : MH} {p : Addr} (mu : Mut K H M) (hp : H p = none) : M p = none := by
  cases q : M p with
  | none => rfl
  | some mo => obtain ⟨ho, e, _⟩ := mu p mo q; rw [hp] at e; cases e
theorem mut_new {K : PySem.W.Frag} {H : Hp} {M : MH} {p : Addr} {o : HO} (mu : Mut K H M) (hp : H p = none) : Mut K (upd H p o) M := fun a mo e => by
  obtain ⟨ho, e1, r⟩ := mu a mo e
  exact ⟨ho, by rw [upd_ne (ne_of_none e1 hp)]; exact e1, r.good (good_new hp)⟩
theorem mut_put {K : PySem.W.Frag} {H : Hp} {M : MH} {p : Addr} {o : HO} {mo : MO} (mu : Mut K H M) (hp : H p = none) (r : RepM K H M o mo) : Mut K (upd H p o) (mput M p mo) := fun a mo' e => by
  by_cases h : a = p
  · subst h
    rw [mput_same] at e
    cases e
    exact ⟨o, upd_same, r.good (good_put hp)⟩
  · rw [mput_ne h] at e
    obtain ⟨ho, e1, r⟩ := mu a mo' e
    exact ⟨ho, by rw [upd_ne h]; exact e1, r.good (good_put hp)⟩
theorem good_write {H : Hp} {M : MH} {p : Addr} {o : HO} {mo mo' : MO} (hp : M p = some mo') : Good H M (upd H p o) (mput M p mo) := fun a u h m => by
  have n : a ≠ p := fun e => by rw [e, hp] at m; cases m
  exact ⟨by rw [upd_ne n]; exact h, by rw [mput_ne n]; exact m⟩
theorem mut_write {K : PySem.W.Frag} {H : Hp} {M : MH} {p : Addr} {o : HO} {mo mo' : MO} (mu : Mut K H M) (hp : M p = some mo') (r : RepM K H M o mo) : Mut K (upd H p o) (mput M p mo) := fun a m e => by
  by_cases h : a = p
  · subst h
    rw [mput_same] at e
    cases e
    exact ⟨o, upd_same, r.good (good_write hp)⟩
  · rw [mput_ne h] at e
    obtain ⟨ho, e1, r⟩ := mu a m e
    exact ⟨ho, by rw [upd_ne h]; exact e1, r.good (good_write hp)⟩
theorem good_del {H : Hp} {M : MH} {p : Addr} : Good H M H (mdel M p) := fun a u h m => ⟨h, by unfold mdel; split <;> first | rfl | exact m⟩
theorem mut_del {K : PySem.W.Frag} {H : Hp} {M : MH} {p : Addr} (mu : Mut K H M) : Mut K H (mdel M p) := fun a mo e => by
  by_cases h : a = p
  · subst h; rw [mdel_same] at e; cases e
  · rw [mdel_ne h] at e
    obtain ⟨ho, e1, r⟩ := mu a mo e
    exact ⟨ho, e1, r.good good_del⟩

def tTupD (t : TAD) : TED := fun W τ M Q => t W τ M fun ds M1 => decide (ds.length ≤ 16777216) = true ∧ Q (.tup ds) M1
def tLstD (t : TAD) : TED := fun W τ M Q => t W τ M fun ds M1 => decide (ds.length ≤ 16777216) = true ∧ Q (.lst ds) M1
/-- a list that is going to be changed -/
def tLstM (t : TAD) : TED := fun W τ M Q => t W τ M fun ds M1 => decide (ds.length ≤ 16777216) = true ∧ ∀ p, M1 p = none → Q (.ref p) (mput M1 p (.lst ds))
theorem szl {n : Nat} (h : decide (n ≤ 16777216) = true) : n ≤ sizeLine := by rw [sizeLine_eq]; exact of_decide_eq_true h
theorem rep_tup {K : PySem.W.Frag} {H : Hp} {M : MH} {p : Addr} {vs : List V} {ds : List D} (mu : Mut K H M) (hp : H p = none) (r : Reps K H M vs ds) : Rep K (upd H p (.tup vs)) M (.ref p) (.tup ds) :=
  .tup (.inl ⟨mut_none mu hp, .inl upd_same⟩) (r.good (good_new hp))
theorem rep_lst {K : PySem.W.Frag} {H : Hp} {M : MH} {p : Addr} {vs : List V} {ds : List D} (mu : Mut K H M) (hp : H p = none) (r : Reps K H M vs ds) : Rep K (upd H p (.lst vs)) M (.ref p) (.lst ds) :=
  .lst (.inl ⟨mut_none mu hp, .inl upd_same⟩) (r.good (good_new hp))
theorem pd_tup {x1} (h : PDA X es ts) : PD X (.Tuple es x1 pos) (tTupD ts) := fun pn xe H0 M0 W at_ =>
  imE (pe_tup (h pn xe H0 M0 W at_)) fun σ H Q ⟨τ, M, F, g0, sl, mu, h, k⟩ => ⟨τ, M, _, g0, sl, mu, h, fun vs H1 ds M1 g1 mu1 r ⟨z, q⟩ =>
    ⟨by rw [r.length]; exact szl z, fun p hp => k _ _ _ M1 (g1.trans (good_new hp)) (mut_new mu1 hp) (rep_tup mu1 hp r) q⟩⟩
theorem pd_lst (h : PDA X es ts) : PD X (.List es pos) (tLstD ts) := fun pn xe H0 M0 W at_ =>
  imE (pe_lst (h pn xe H0 M0 W at_)) fun σ H Q ⟨τ, M, F, g0, sl, mu, h, k⟩ => ⟨τ, M, _, g0, sl, mu, h, fun vs H1 ds M1 g1 mu1 r ⟨z, q⟩ =>
    ⟨by rw [r.length]; exact szl z, fun p hp => k _ _ _ M1 (g1.trans (good_new hp)) (mut_new mu1 hp) (rep_lst mu1 hp r) q⟩⟩
theorem pd_lstM (h : PDA X es ts) : PD X (.List es pos) (tLstM ts) := fun pn xe H0 M0 W at_ =>
  imE (pe_lst (h pn xe H0 M0 W at_)) fun σ H Q ⟨τ, M, F, g0, sl, mu, h, k⟩ => ⟨τ, M, _, g0, sl, mu, h, fun vs H1 ds M1 g1 mu1 r ⟨z, q⟩ =>
    ⟨by rw [r.length]; exact szl z, fun p hp => k _ _ _ _ (g1.trans (good_put hp)) (mut_put mu1 hp (.lst r)) (.ref p) (q p (mut_none mu1 hp))⟩⟩

/-! ### and, or, not, if -/
def tTestB (t : TED) : TTD := fun W τ M Q => t W τ M fun d M1 => match d with | .bl b => Q b M1 | _ => False
def tAndD (t u : TTD) : TTD := fun W τ M Q => t W τ M fun c M1 => (c = true → u W τ M1 Q) ∧ (c = false → Q false M1)
def tOrD (t u : TTD) : TTD := fun W τ M Q => t W τ M fun c M1 => (c = true → Q true M1) ∧ (c = false → u W τ M1 Q)
def tNotD (t : TTD) : TTD := fun W τ M Q => t W τ M fun c M1 => Q (!c) M1
def tAndE (t u : TED) : TED := fun W τ M Q => t W τ M fun d M1 => match d with | .bl c => (c = true → u W τ M1 Q) ∧ (c = false → Q (.bl false) M1) | _ => False
def tOrE (t u : TED) : TED := fun W τ M Q => t W τ M fun d M1 => match d with | .bl c => (c = true → Q (.bl true) M1) ∧ (c = false → u W τ M1 Q) | _ => False
def tNotE (t : TED) : TED := fun W τ M Q => t W τ M fun d M1 => match d with | .bl c => Q (.bl (!c)) M1 | _ => False
def tIfE (t : TTD) (ta tb : TED) : TED := fun W τ M Q => t W τ M fun c M1 => (c = true → ta W τ M1 Q) ∧ (c = false → tb W τ M1 Q)
variable {u u' : TTD} {rest : List Expr} {op : BoolOp}
theorem pd_one (h : PD X a ta) : PD X (.BoolOp op [a] pos) ta := fun pn xe H0 M0 W at_ => pe_one (h pn xe H0 M0 W at_)
theorem pd_and (ha : PD X a ta) (hb : PD X (.BoolOp .And (b :: rest) pos) tb) : PD X (.BoolOp .And (a :: b :: rest) pos) (tAndE ta tb) := fun pn xe H0 M0 W at_ =>
  imE (pe_and (ha pn xe H0 M0 W at_) (hb pn xe H0 M0 W at_)) fun σ H Q ⟨τ, M, F, g0, sl, mu, h, k⟩ => upE_fin g0 sl mu h fun x H1 d M1 g1 mu1 r1 h1 => by
    cases r1 with
    | bl c =>
      refine ⟨c, rfl, ?_⟩
      cases c with
      | true =>
        rw [if_pos rfl]
        exact upE_fin (g0.trans g1) (sl.good g1) mu1 (h1.1 rfl) fun y H2 e M2 g2 => k y H2 e M2 (g1.trans g2)
      | false =>
        rw [if_neg Bool.false_ne_true]
        exact k _ _ _ _ g1 mu1 (.bl _) (h1.2 rfl)
    | _ => exact h1.elim
theorem pd_or (ha : PD X a ta) (hb : PD X (.BoolOp .Or (b :: rest) pos) tb) : PD X (.BoolOp .Or (a :: b :: rest) pos) (tOrE ta tb) := fun pn xe H0 M0 W at_ =>
  imE (pe_or (ha pn xe H0 M0 W at_) (hb pn xe H0 M0 W at_)) fun σ H Q ⟨τ, M, F, g0, sl, mu, h, k⟩ => upE_fin g0 sl mu h fun x H1 d M1 g1 mu1 r1 h1 => by
    cases r1 with
    | bl c =>
      refine ⟨c, rfl, ?_⟩
      cases c with
      | true =>
        rw [if_pos rfl]
        exact k _ _ _ _ g1 mu1 (.bl _) (h1.1 rfl)
      | false =>
        rw [if_neg Bool.false_ne_true]
        exact upE_fin (g0.trans g1) (sl.good g1) mu1 (h1.2 rfl) fun y H2 e M2 g2 => k y H2 e M2 (g1.trans g2)
    | _ => exact h1.elim
theorem pd_not (ha : PD X a ta) : PD X (.UnaryOp .Not a pos) (tNotE ta) := fun pn xe H0 M0 W at_ =>
  imE (pe_not (ha pn xe H0 M0 W at_)) fun σ H Q ⟨τ, M, F, g0, sl, mu, h, k⟩ => upE_fin g0 sl mu h fun x H1 d M1 g1 mu1 r1 h1 => by
    cases r1 with
    | bl c => exact ⟨c, rfl, k _ _ _ _ g1 mu1 (.bl _) h1⟩
    | _ => exact h1.elim
/-- behind a test -/
abbrev FinT (K : PySem.W.Frag) (H : Hp) (M : MH) (F : Bool → MH → Prop) (Q : Bool → Hp → Prop) : Prop := ∀ b H' M', Good H M H' M' → Mut K H' M' → F b M' → Q b H'
theorem upT_fin {K : PySem.W.Frag} {H0 : Hp} {M0 : MH} {W : WD} {σ : L2.St} {H : Hp} {M : MH} {τ : EnvD} {t : TTD} {F : Bool → MH → Prop} {Q : Bool → Hp → Prop} (g0 : Good H0 M0 H M) (sl : Slots K H M σ τ) (mu : Mut K H M) (h : t W τ M F) (k : FinT K H M F Q) : upT K H0 M0 W t σ H Q :=
  ⟨τ, M, F, g0, sl, mu, h, k⟩
theorem pd_ifE (hc : PDT X c u) (ha : PD X a ta) (hb : PD X b tb) : PD X (.IfExp c a b pos) (tIfE u ta tb) := fun pn xe H0 M0 W at_ =>
  imE (pe_ifExp (hc pn xe H0 M0 W at_) (ha pn xe H0 M0 W at_) (hb pn xe H0 M0 W at_)) fun σ H Q ⟨τ, M, F, g0, sl, mu, h, k⟩ => upT_fin g0 sl mu h fun c H1 M1 g1 mu1 h1 => by
    cases c with
    | true =>
      rw [if_pos rfl]
      exact upE_fin (g0.trans g1) (sl.good g1) mu1 (h1.1 rfl) fun y H2 e M2 g2 => k y H2 e M2 (g1.trans g2)
    | false =>
      rw [if_neg Bool.false_ne_true]
      exact upE_fin (g0.trans g1) (sl.good g1) mu1 (h1.2 rfl) fun y H2 e M2 g2 => k y H2 e M2 (g1.trans g2)
theorem pdt_w (h : PDW X a u) : PDT X a u := fun pn xe H0 M0 W at_ => (h pn xe H0 M0 W at_).pt
theorem pdt_cmp {op : CmpOp} {r : R2} {rd : R2D} (ho : ∀ pn xe, OpR (X.tr pn xe) (compareOp op) r) (hs : SimOp X.K r rd) (ha : PD X a ta) (hb : PD X b tb) (hm : behindInMarks op b = false := by first | exact nomark _ | rfl) : PDT X (.Compare a [op] [b] pos) (tTestB (tOpD rd ta tb)) := fun pn xe H0 M0 W at_ =>
  imT (pt_cmpR (ho pn xe) (ha pn xe H0 M0 W at_) (hb pn xe H0 M0 W at_) hm) fun σ H Q ⟨τ, M, F, g0, sl, mu, h, k⟩ =>
    upE_fin g0 sl mu h fun x H1 d M1 g1 mu1 r1 h1 => upE_fin (g0.trans g1) (sl.good g1) mu1 h1 fun y H2 e M2 g2 mu2 r2 h2 =>
      hs x y d e H2 M2 _ _ (r1.good g2) r2 mu2 h2 fun v H' d' M' g' mu' r' f' => by
        cases r' with
        | bl c => exact ⟨c, rfl, k c H' M' ((g1.trans g2).trans g') mu' f'⟩
        | _ => exact f'.elim
theorem pdw_and1 (ha : PDT X a u) : PDW X (.BoolOp .And [a] pos) u := fun pn xe H0 M0 W at_ => pw_and1 (ha pn xe H0 M0 W at_)
theorem pdw_or1 (ha : PDT X a u) : PDW X (.BoolOp .Or [a] pos) u := fun pn xe H0 M0 W at_ => pw_or1 (ha pn xe H0 M0 W at_)
theorem pdw_and (ha : PDT X a u) (hb : PDW X (.BoolOp .And (b :: rest) pos) u') : PDW X (.BoolOp .And (a :: b :: rest) pos) (tAndD u u') := fun pn xe H0 M0 W at_ =>
  imW (pw_and (ha pn xe H0 M0 W at_) (hb pn xe H0 M0 W at_)) fun σ H Q ⟨τ, M, F, g0, sl, mu, h, k⟩ => upT_fin g0 sl mu h fun c H1 M1 g1 mu1 h1 => by
    cases c with
    | true =>
      rw [if_pos rfl]
      exact upT_fin (g0.trans g1) (sl.good g1) mu1 (h1.1 rfl) fun b H2 M2 g2 => k b H2 M2 (g1.trans g2)
    | false =>
      rw [if_neg Bool.false_ne_true]
      exact k _ _ _ g1 mu1 (h1.2 rfl)
theorem pdw_or (ha : PDT X a u) (hb : PDW X (.BoolOp .Or (b :: rest) pos) u') : PDW X (.BoolOp .Or (a :: b :: rest) pos) (tOrD u u') := fun pn xe H0 M0 W at_ =>
  imW (pw_or (ha pn xe H0 M0 W at_) (hb pn xe H0 M0 W at_)) fun σ H Q ⟨τ, M, F, g0, sl, mu, h, k⟩ => upT_fin g0 sl mu h fun c H1 M1 g1 mu1 h1 => by
    cases c with
    | true =>
      rw [if_pos rfl]
      exact k _ _ _ g1 mu1 (h1.1 rfl)
    | false =>
      rw [if_neg Bool.false_ne_true]
      exact upT_fin (g0.trans g1) (sl.good g1) mu1 (h1.2 rfl) fun b H2 M2 g2 => k b H2 M2 (g1.trans g2)
theorem pdt_not (ha : PDT X a u) : PDT X (.UnaryOp .Not a pos) (tNotD u) := fun pn xe H0 M0 W at_ =>
  imT (pt_not (ha pn xe H0 M0 W at_)) fun σ H Q ⟨τ, M, F, g0, sl, mu, h, k⟩ => upT_fin g0 sl mu h fun c H1 M1 g1 mu1 h1 => k _ _ _ g1 mu1 h1

/-! ### truth of values -/
def truthD (d : D) (M : MH) : Option Bool := match d with
  | .non => some false
  | .bl b => some b
  | .int i => some (i != 0)
  | .lst xs => some (!xs.isEmpty)
  | .tup xs => some (!xs.isEmpty)
  | .dct xs => some (!xs.isEmpty)
  | .ref a => match M a with | some (.lst xs) => some (!xs.isEmpty) | some (.dct xs) => some (!xs.isEmpty) | _ => none
  | _ => none
def tTruD (t : TED) : TTD := fun W τ M Q => t W τ M fun d M1 => match truthD d M1 with | some b => Q b M1 | none => False
theorem reps_emp {K : PySem.W.Frag} {H : Hp} {M : MH} {vs : List V} {ds : List D} (r : Reps K H M vs ds) : ds.isEmpty = vs.isEmpty := by cases r <;> rfl
theorem repk_emp {K : PySem.W.Frag} {H : Hp} {M : MH} {vs : List (Key × V)} {ds : List (Key × D)} (r : RepK K H M vs ds) : ds.isEmpty = vs.isEmpty := by cases r <;> rfl
theorem tru_sim {K : PySem.W.Frag} {H : Hp} {M : MH} {x : V} {d : D} {b : Bool} (r : Rep K H M x d) (mu : Mut K H M) (h : truthD d M = some b) : TruV K x H b := by
  cases r with
  | non => cases h; exact rfl
  | bl c => cases h; exact rfl
  | int i => cases h; exact rfl
  | lst hr rs => cases h; exact .inl ⟨_, hr.sq, by rw [reps_emp rs]⟩
  | tup hr rs => cases h; exact .inr (.inl ⟨_, hr.sq, by rw [reps_emp rs]⟩)
  | dct m e rs => cases h; exact .inr (.inr ⟨_, e, by rw [repk_emp rs]⟩)
  | ref a =>
    unfold truthD at h
    dsimp only at h
    cases q : M a with
    | none => rw [q] at h; cases h
    | some mo =>
      rw [q] at h
      obtain ⟨ho, e, r⟩ := mu a mo q
      cases r with
      | lst rs => cases h; exact .inl ⟨_, .inl (.inl e), by rw [reps_emp rs]⟩
      | dct rs => cases h; exact .inr (.inr ⟨_, e, by rw [repk_emp rs]⟩)
      | ins _ _ _ => cases h
      | tbl _ _ => cases h
      | clo _ => cases h
  | _ => cases h
theorem pdt_tru (ha : PD X a ta) (he : ∀ whole, isTrue a X.env whole = (do let v ← whole; standAt a.pos; holding [v] (truthy v)) := by intro _; rfl) : PDT X a (tTruD ta) := fun pn xe H0 M0 W at_ =>
  imT (pt_truth (X := X.tr pn xe) (ha pn xe H0 M0 W at_) he) fun σ H Q ⟨τ, M, F, g0, sl, mu, h, k⟩ => upE_fin g0 sl mu h fun x H1 d M1 g1 mu1 r1 h1 => by
    cases q : truthD d M1 with
    | none => rw [q] at h1; exact h1.elim
    | some b =>
      rw [q] at h1
      exact ⟨b, tru_sim r1 mu1 q, k b H1 M1 g1 mu1 h1⟩
end
end Z

set_option Elab.async false
set_option linter.all false
set_option maxRecDepth 100000
set_option maxHeartbeats 4000000
namespace Z
open PySem L2 PySem.Spec PyProof.Rows

/-! ### what a def promises, over trees -/
abbrev ED := Addr → List (Str × D) → MH → Prop
abbrev SpD := List D → MH → QD → ED → Prop
def spOf (K : PySem.W.Frag) (sp : SpD) : Sp := fun vs H Q E => ∃ ds M F FE, Reps K H M vs ds ∧ Mut K H M ∧ sp ds M F FE ∧ Fin K H M F Q ∧
  ∀ C fs d H' M', Good H M H' M' → Mut K H' M' → ExD K H' M' d fs → FE C fs M' → E (.ref C) d H'
def startD (N : List Str) (ds : List D) : EnvD := ds.map some ++ List.replicate (N.length - ds.length) none
theorem slots_start {K : PySem.W.Frag} {H : Hp} {M : MH} {N : List Str} {vs : List V} {ds : List D} (r : Reps K H M vs ds) : Slots K H M (L2.start N vs) (startD N ds) := by
  unfold L2.start startD
  have hl := r.length
  refine ⟨by simp [hl], fun i d e => ?_⟩
  by_cases hi : i < ds.length
  · rw [List.getElem?_append_left (by simpa using hi), List.getElem?_map] at e
    cases q : ds[i]? with
    | none => rw [q] at e; cases e
    | some d' =>
      rw [q] at e
      cases e
      obtain ⟨v, e1, r1⟩ := r.get q
      exact ⟨v, by rw [List.getElem?_append_left (by simpa [hl] using hi), List.getElem?_map, e1]; rfl, r1⟩
  · rw [List.getElem?_append_right (by simpa using hi), List.getElem?_replicate] at e
    split at e <;> cases e

section
variable {P : Program} {w : World} {K : PySem.W.Frag} {mg : Str → Option Value} {base : Heap}
/-- THE RULE for a def: its body as a term of rules, and what that term asks of the promise -/
theorem fnD {x qual : Str} {st : Stmt} {f : Addr} {fd : FuncData} {N ps : List Str} {k : Nat} {sp : SpD} {t : TSD} (F : Fun K x qual st f fd) (S : FnScope N ps (defScope st)) (len : ∀ ds M F E, sp ds M F E → ds.length = ps.length)
    (hb : ∀ (cdv : Value) (A : Around) (outer : List Env) (s : Shared) (H : Hp) (E : XK), Room k (A.deeper (envOfC qual (defScope st) s.heap.objs.size f cdv)) → PDB (cxOf (L2.CX P w) P w K mg base N qual (defScope st) f cdv A outer s H E) (defBody st) t)
    (wp : ∀ ds M F FE, sp ds M F FE → t (fun C fs _ M => FE C fs M) { nx := fun _ M => F .non M, rt := F } (startD N ds) M) : FnOk P w K mg base (L2.CX P w) (k + 1) f fd ps (spOf K sp) := by
  obtain ⟨oc, od, kV, doc, pm, an, cdv, ct, osl, rfl, lk, hcd⟩ := F.ex
  refine fn_of lk hcd S (fun vs H Q E ⟨ds, M, G, FE, r, _, h, _⟩ => by rw [r.length]; exact len _ _ _ _ h) fun A outer s H vs Q E hr hsp => ?_
  obtain ⟨ds, M, G, FE, r, mu, h, k1, k2⟩ := hsp
  have at_ : At (cxOf (L2.CX P w) P w K mg base N qual (defScope st) f cdv A outer s H E) (cxOf (L2.CX P w) P w K mg base N qual (defScope st) f cdv A outer s H E).pn (cxOf (L2.CX P w) P w K mg base N qual (defScope st) f cdv A outer s H E).xe H M (fun C fs _ M => FE C fs M) := by
    refine ⟨?_, passes_of rfl⟩
    refine Takes.imp (takes_of rfl rfl rfl rfl) fun c d σ H' ⟨C, ds', τ, M', e, ex, g, sl, mu', q⟩ => ?_
    subst e
    exact k2 C ds' d H' M' g mu' ex q
  refine ⟨upS K H M (fun C fs _ M => FE C fs M) t, hb cdv A outer s H E hr _ _ H M _ at_, startD N ds, M, _, .refl, slots_start r, mu, wp ds M G FE h, ?_, ?_, ?_, ?_⟩
  · rintro σ' H' ⟨τ, M', g, sl, mu', q⟩
    exact k1 _ _ _ _ g mu' .non q
  · rintro v H' ⟨d, M', g, mu', r', q⟩
    exact k1 _ _ _ _ g mu' r' q
  · rintro σ' H' ⟨τ, M', g, sl, mu', q⟩
    exact q.elim
  · rintro σ' H' ⟨τ, M', g, sl, mu', q⟩
    exact q.elim
end

/-! ### calls of own defs -/
def tCallD (sp : SpD) (t : TAD) : TED := fun W τ M Q => t W τ M fun ds M1 => sp ds M1 Q (fun C fs M' => W C fs τ M')
def permL {α : Type} (ix : List Nat) (l : List α) : List α := ix.filterMap fun i => l[i]?
theorem Reps.perm {K : PySem.W.Frag} {H : Hp} {M : MH} {vs : List V} {ds : List D} (r : Reps K H M vs ds) : ∀ ix : List Nat, Reps K H M (permL ix vs) (permL ix ds)
  | [] => .nil
  | i :: ix => by
    unfold permL
    rw [List.filterMap_cons, List.filterMap_cons]
    cases e : ds[i]? with
    | none =>
      have hl := r.length
      have e2 : vs[i]? = none := by rw [List.getElem?_eq_none_iff] at e ⊢; omega
      rw [e2]
      exact Reps.perm r ix
    | some d =>
      obtain ⟨v, e1, r1⟩ := r.get e
      rw [e1]
      exact .cons r1 (Reps.perm r ix)
theorem vals_perm {vs : List V} {us : List Value} (r : Vals vs us) : ∀ ix : List Nat, Vals (permL ix vs) (permL ix us)
  | [] => .nil
  | i :: ix => by
    unfold permL
    rw [List.filterMap_cons, List.filterMap_cons]
    cases e : vs[i]? with
    | none =>
      rw [r.none_of e]
      exact vals_perm r ix
    | some d =>
      obtain ⟨u, e1, r1⟩ := r.get e
      rw [e1]
      exact .cons r1 (vals_perm r ix)
def tCallKD (sp : SpD) (ix : List Nat) (t : TAD) : TED := fun W τ M Q => t W τ M fun ds M1 => sp (permL ix ds) M1 Q (fun C fs M' => W C fs τ M')
/-- how a call by keywords alone binds -/
def KwB (K : PySem.W.Frag) (fd : FuncData) (ps ks : List Str) (ix : List Nat) : Prop := ∀ ws : List Value, ws.length = ks.length → bindArgs fd ⟨[], ks.zip ws⟩ = pure (ps.zip (permL ix ws))
theorem kwB {K : PySem.W.Frag} {x qual : Str} {st : Stmt} {f : Addr} {fd : FuncData} {ps ks : List Str} {ix : List Nat} (F : Fun K x qual st f fd)
    (h : ∀ (kV doc pm : Value) (an : Option Addr) (cdv ct : Value) (us : List Value), us.length = ks.length → bindArgs (PySem.W.fnOf x qual (defArgs st) (defBody st) (defScope st) .none kV doc pm an cdv ct) ⟨[], ks.zip us⟩ = pure (ps.zip (permL ix us))) : KwB K fd ps ks ix := by
  obtain ⟨oc, od, kV, doc, pm, an, cdv, ct, osl, rfl, lk, hcd⟩ := F.ex
  exact h kV doc pm an cdv ct

section
variable {X : Cx} {k : Nat} {f : Addr} {fd : FuncData} {ps ks : List Str} {sp : SpD} {x : Str} {e : Expr} {es : List Expr} {kws : List Keyword} {ta : TAD} {pos p : Pos} {ix : List Nat}
/-- the keywords' values -/
def PDK (X : Cx) (es : List Keyword) (t : TAD) : Prop := ∀ pn xe H0 M0 W, At X pn xe H0 M0 W → PK (X.tr pn xe) es (upA X.K H0 M0 W t)
theorem imK {X : Cx} {e : List Keyword} {t t' : TA} (h : PK X e t) (i : ∀ σ H Q, t' σ H Q → t σ H Q) : PK X e t' := ⟨fun pos pins s σ H Q I q => h.run pos pins s σ H Q I (i σ H Q q)⟩
theorem pdk_nil : PDK X [] tNilD := fun pn xe H0 M0 W at_ => imK pk_nil fun σ H Q ⟨τ, M, F, g0, sl, mu, h, k⟩ => k [] H [] M .refl mu .nil h
theorem pdk_cons {nm : Option Str} {kpos : Pos} {t : TED} {ts : TAD} (ha : PD X e t) (hr : PDK X kws ts) : PDK X (⟨nm, e, kpos⟩ :: kws) (tConsD t ts) := fun pn xe H0 M0 W at_ =>
  imK (pk_cons (ha pn xe H0 M0 W at_) (hr pn xe H0 M0 W at_)) fun σ H Q ⟨τ, M, F, g0, sl, mu, h, k⟩ =>
    upE_fin g0 sl mu h fun x H1 d M1 g1 mu1 r1 h1 => ⟨τ, M1, _, g0.trans g1, sl.good g1, mu1, h1, fun xs H2 ds M2 g2 mu2 r2 h2 => k (x :: xs) H2 (d :: ds) M2 (g1.trans g2) mu2 (.cons (r1.good g2) r2) h2⟩

theorem sp_of_call {H0 : Hp} {M0 : MH} {W : WD} {σ : L2.St} {τ : EnvD} {H H1 : Hp} {M M1 : MH} {F : QD} {Q : VK} {vs : List V} {ds : List D} (g0 : Good H0 M0 H M) (sl : Slots X.K H M σ τ) (k : Fin X.K H M F Q) (g1 : Good H M H1 M1) (mu1 : Mut X.K H1 M1) (r1 : Reps X.K H1 M1 vs ds)
    (h : sp ds M1 F (fun C fs M' => W C fs τ M')) : spOf X.K sp vs H1 Q (WE (liftW X.K H0 M0 W) σ) :=
  ⟨ds, M1, F, _, r1, mu1, h, fun v H' d M' g' mu' r' f' => k v H' d M' (g1.trans g') mu' r' f', fun C fs d H' M' g' mu' ex we => ⟨C, fs, τ, M', rfl, ex, (g0.trans g1).trans g', sl.good (g1.trans g'), mu', we⟩⟩
theorem pd_call (F : FnOk X.prog X.w X.K X.mg X.base (L2.CX X.prog X.w) k f fd ps (spOf X.K sp)) (hr : Room k X.A) (hm : X.mg x = some (.ref f)) (hk : PySem.W.keepIn X.K (.ref f) = true) (hb : Binds X.K fd ps [])
    (ha : PDA X (e :: es) ta) (hg : Gl X x := by rfl) (hdb : (x == ("__debug__" : Str)) = false := by decide) (he : starEach (e :: es) X.env = (false, eval e X.env) :: starEach es X.env := by rfl) (hpl : (backTo pos (starEach es X.env)).any (·.1) = false := by rfl) :
    PD X (.Call (.Name x p) (e :: es) [] pos) (tCallD sp ta) := fun pn xe H0 M0 W at_ =>
  imE (pe_callS (X := X.tr pn xe) F hr hg hm hk hb (fun σ => passAt at_.tk σ) (ha pn xe H0 M0 W at_) hdb he hpl) fun σ H Q ⟨τ, M, G, g0, sl, mu, h, k⟩ =>
    ⟨τ, M, _, g0, sl, mu, h, fun vs H1 ds M1 g1 mu1 r1 h1 => sp_of_call g0 sl k g1 mu1 r1 h1⟩
theorem pd_call0 (F : FnOk X.prog X.w X.K X.mg X.base (L2.CX X.prog X.w) k f fd ps (spOf X.K sp)) (hr : Room k X.A) (hm : X.mg x = some (.ref f)) (hk : PySem.W.keepIn X.K (.ref f) = true) (hb : Binds X.K fd ps [])
    (hg : Gl X x := by rfl) (hdb : (x == ("__debug__" : Str)) = false := by decide) : PD X (.Call (.Name x p) [] [] pos) (tCallD sp tNilD) := fun pn xe H0 M0 W at_ => by
  refine ⟨fun pins s σ H Q I ⟨τ, M, G, g0, sl, mu, h, k⟩ => ?_⟩
  refine wpAny_Call_Name_kw (ld_glob I hg hm ?_ hdb)
  exact PySem.W.callWith_K0 I.kIn hk (run_fnS (us := []) (X := X.tr pn xe) F hr hb (passAt at_.tk σ) I .nil (sp_of_call (X := X) g0 sl k .refl mu .nil h))
theorem pd_callK (F : FnOk X.prog X.w X.K X.mg X.base (L2.CX X.prog X.w) k f fd ps (spOf X.K sp)) (hr : Room k X.A) (hm : X.mg x = some (.ref f)) (hk : PySem.W.keepIn X.K (.ref f) = true) (hb : KwB X.K fd ps ks ix)
    (ha : PDK X kws ta) (hl : kws.length = ks.length) (hg : Gl X x := by rfl) (hdb : (x == ("__debug__" : Str)) = false := by decide) (hall : (backToKw pos (keywordEach kws X.env)).all (·.1.isSome) = true := by rfl)
    (hks : (backToKw pos (keywordEach kws X.env)).filterMap (·.1) = ks := by rfl) (hpl : ((backTo pos (starEach [] X.env)).any (·.1) || (backToKw pos (keywordEach kws X.env)).any (·.1.isNone)) = false := by rfl) (hlk : ∀ (W : WD) τ M (R : List D → MH → Prop), ta W τ M R → ta W τ M (fun ds M => R ds M ∧ ds.length = kws.length)) :
    PD X (.Call (.Name x p) [] kws pos) (tCallKD sp ix ta) := fun pn xe H0 M0 W at_ => by
  refine ⟨fun pins s σ H Q I ⟨τ, M, G, g0, sl, mu, h, k⟩ => ?_⟩
  refine wpAny_Call_Name_kw (ld_glob I hg hm ?_ hdb)
  refine PySem.W.callWith_KW0 (h₀ := X.base) I.ok.mod.kin hk hall (thn ((ha pn xe H0 M0 W at_).run pos pins s σ H (fun zs H1 => zs.length = kws.length ∧ spOf X.K sp (permL ix zs) H1 Q (WE (liftW X.K H0 M0 W) σ)) I ?_) fun ws s1 ⟨zs, H1, I1, r, hzl, q⟩ => ⟨I1.kIn, ?_⟩) hpl
  · exact ⟨τ, M, _, g0, sl, mu, hlk _ _ _ _ h, fun vs H1 ds M1 g1 mu1 r1 ⟨h1, h2⟩ => ⟨by rw [r1.length, h2], sp_of_call (X := X) g0 sl k g1 mu1 (r1.perm ix) h1⟩⟩
  · rw [hks]
    have hx := passAt at_.tk σ
    refine wpAny_call (codeAny_mono (F.run X.A X.stack s1 H1 ⟨[], ks.zip ws⟩ (permL ix ws) (permL ix zs) Q (WE (liftW X.K H0 M0 W) σ) hr I1.env0 (BindsTo.of_eq (hb ws (by rw [← r.length, hzl, hl]))) (vals_perm r ix) q) fun r s' hq => ?_)
    cases r with
    | error e => exact hx pins H1 s1 e s' I1 hq
    | ok fl =>
      cases fl with
      | ret u => exact I1.after hq
      | next => exact False.elim hq
      | brk => exact False.elim hq
      | cont => exact False.elim hq
theorem lk_nil {W : WD} {τ : EnvD} {M : MH} {R : List D → MH → Prop} (h : tNilD W τ M R) : tNilD W τ M (fun ds M => R ds M ∧ ds.length = 0) := ⟨h, rfl⟩
/-- a call of a built-in function, a built-in type -/
theorem pd_bf {id : String} {r : List V → Hp → VK → Prop} {rd : RCD} (hm : X.mg x = none) (hv : bootBuiltins x = some (.builtin id)) (hc : ∀ pn xe, CallR (X.tr pn xe) (.builtin id) r) (hs : SimC X.K r rd) (ha : PDA X (e :: es) ta) (hg : Gl X x := by rfl) (hn : x ≠ "__name__" := by decide) (hdb : (x == ("__debug__" : Str)) = false := by decide)
    (he : starEach (e :: es) X.env = (false, eval e X.env) :: starEach es X.env := by rfl) (hpl : (backTo pos (starEach es X.env)).any (·.1) = false := by rfl) : PD X (.Call (.Name x p) (e :: es) [] pos) (tCBD rd ta) := fun pn xe H0 M0 W at_ =>
  imE (pe_callB (X := X.tr pn xe) (hc pn xe) hg hm hv (ha pn xe H0 M0 W at_) hn hdb he hpl) fun σ H Q ⟨τ, M, G, g0, sl, mu, h, k⟩ =>
    ⟨τ, M, _, g0, sl, mu, h, fun vs H1 ds M1 g1 mu1 r1 h1 => hs vs ds H1 M1 G Q r1 mu1 h1 fun v H' d M' g' mu' r' f' => k v H' d M' (g1.trans g') mu' r' f'⟩
theorem pd_bt {T : String} {r : List V → Hp → VK → Prop} {rd : RCD} (hm : X.mg x = none) (hv : bootBuiltins x = some (.type T)) (hc : ∀ pn xe, CallR (X.tr pn xe) (.type T) r) (hs : SimC X.K r rd) (ha : PDA X (e :: es) ta) (hg : Gl X x := by rfl) (hn : x ≠ "__name__" := by decide) (hdb : (x == ("__debug__" : Str)) = false := by decide)
    (he : starEach (e :: es) X.env = (false, eval e X.env) :: starEach es X.env := by rfl) (hpl : (backTo pos (starEach es X.env)).any (·.1) = false := by rfl) : PD X (.Call (.Name x p) (e :: es) [] pos) (tCBD rd ta) := fun pn xe H0 M0 W at_ =>
  imE (pe_callTy (X := X.tr pn xe) (hc pn xe) hg hm hv (ha pn xe H0 M0 W at_) hn hdb he hpl) fun σ H Q ⟨τ, M, G, g0, sl, mu, h, k⟩ =>
    ⟨τ, M, _, g0, sl, mu, h, fun vs H1 ds M1 g1 mu1 r1 h1 => hs vs ds H1 M1 G Q r1 mu1 h1 fun v H' d M' g' mu' r' f' => k v H' d M' (g1.trans g') mu' r' f'⟩
end

/-! ### statements -/
def tNextD : TSD := fun _ F τ M => F.nx τ M
def tSeqD (t u : TSD) : TSD := fun W F τ M => t W { F with nx := fun τ' M' => u W F τ' M' } τ M
def tDropD (t : TED) : TSD := fun W F τ M => t W τ M fun _ M1 => F.nx τ M1
def tRetD (t : TED) : TSD := fun W F τ M => t W τ M F.rt
def tRetN : TSD := fun _ F _ M => F.rt .non M
def tIfD (c : TTD) (t u : TSD) : TSD := fun W F τ M => c W τ M fun b M1 => (b = true → t W F τ M1) ∧ (b = false → u W F τ M1)
def tSetD (i : Nat) (t : TED) : TSD := fun W F τ M => t W τ M fun d M1 => F.nx (setN τ i (some d)) M1
def tContD : TSD := fun _ F τ M => F.ct τ M
def tBrkD : TSD := fun _ F τ M => F.bk τ M
section
variable {X : Cx} {st : Stmt} {rest : List Stmt} {t u : TSD} {e c : Expr} {te : TED} {tt : TTD} {pos : Pos}
theorem upS_fin {K : PySem.W.Frag} {H0 : Hp} {M0 : MH} {W : WD} {σ : L2.St} {H H1 : Hp} {M M1 : MH} {τ : EnvD} {t : TSD} {F : EndsD} {D : Ends} (g0 : Good H0 M0 H M) (g1 : Good H M H1 M1) (sl : Slots K H1 M1 σ τ) (mu : Mut K H1 M1) (h : t W F τ M1)
    (k1 : ∀ σ' H', liftN K H M F.nx σ' H' → D.nx σ' H') (k2 : ∀ v H', liftR K H M F.rt v H' → D.rt v H') (k3 : ∀ σ' H', liftN K H M F.bk σ' H' → D.bk σ' H') (k4 : ∀ σ' H', liftN K H M F.ct σ' H' → D.ct σ' H') : upS K H0 M0 W t D σ H1 :=
  ⟨τ, M1, F, g0.trans g1, sl, mu, h, fun σ' H' q => k1 σ' H' (q.tr g1), fun σ' H' q => k2 σ' H' (q.tr g1), fun σ' H' q => k3 σ' H' (q.tr g1), fun σ' H' q => k4 σ' H' (q.tr g1)⟩
theorem pdb_nil : PDB X [] tNextD := fun pn xe H0 M0 W at_ => imB pss_nil fun D σ H ⟨τ, M, F, g0, sl, mu, h, k1, k2, k3, k4⟩ => k1 σ H ⟨τ, M, .refl, sl, mu, h⟩
theorem pdb_cons (h1 : PDS X st t) (h2 : PDB X rest u) : PDB X (st :: rest) (tSeqD t u) := fun pn xe H0 M0 W at_ =>
  imB (pss_cons (h1 pn xe H0 M0 W at_) (h2 pn xe H0 M0 W at_)) fun D σ H ⟨τ, M, F, g0, sl, mu, h, k1, k2, k3, k4⟩ =>
    ⟨τ, M, _, g0, sl, mu, h, (fun σ' H' ⟨τ', M', g', sl', mu', q⟩ => upS_fin g0 g' sl' mu' q k1 k2 k3 k4), k2, k3, k4⟩
theorem pdb_one (h1 : PDS X st t) : PDB X [st] t := fun pn xe H0 M0 W at_ => pss_one (h1 pn xe H0 M0 W at_)
theorem pds_pass : PDS X (.Pass pos) tNextD := fun pn xe H0 M0 W at_ => imS ps_pass fun D σ H ⟨τ, M, F, g0, sl, mu, h, k1, k2, k3, k4⟩ => k1 σ H ⟨τ, M, .refl, sl, mu, h⟩
theorem pds_cont : PDS X (.Continue pos) tContD := fun pn xe H0 M0 W at_ => imS ps_continue fun D σ H ⟨τ, M, F, g0, sl, mu, h, k1, k2, k3, k4⟩ => k4 σ H ⟨τ, M, .refl, sl, mu, h⟩
theorem pds_brk : PDS X (.Break pos) tBrkD := fun pn xe H0 M0 W at_ => imS ps_break fun D σ H ⟨τ, M, F, g0, sl, mu, h, k1, k2, k3, k4⟩ => k3 σ H ⟨τ, M, .refl, sl, mu, h⟩
theorem pds_expr (he : PD X e te) (hs : swapsWith e none pos.line X.env = pure false := by rfl) : PDS X (.Expr e pos) (tDropD te) := fun pn xe H0 M0 W at_ =>
  imS (ps_expr (X := X.tr pn xe) (he pn xe H0 M0 W at_) hs) fun D σ H ⟨τ, M, F, g0, sl, mu, h, k1, k2, k3, k4⟩ => upE_fin g0 sl mu h fun v H1 d M1 g1 mu1 r1 q => k1 σ H1 ⟨τ, M1, g1, sl.good g1, mu1, q⟩
theorem pds_ret (he : PD X e te) : PDS X (.Return (some e) pos) (tRetD te) := fun pn xe H0 M0 W at_ =>
  imS (ps_ret (he pn xe H0 M0 W at_)) fun D σ H ⟨τ, M, F, g0, sl, mu, h, k1, k2, k3, k4⟩ => upE_fin g0 sl mu h fun v H1 d M1 g1 mu1 r1 q => k2 v H1 ⟨d, M1, g1, mu1, r1, q⟩
theorem pds_retN : PDS X (.Return none pos) tRetN := fun pn xe H0 M0 W at_ => imS ps_retN fun D σ H ⟨τ, M, F, g0, sl, mu, h, k1, k2, k3, k4⟩ => k2 _ H ⟨_, M, .refl, mu, .non, h⟩
theorem pds_if {a b : List Stmt} (hc : PDT X c tt) (ha : PDB X a t) (hb : PDB X b u) : PDS X (.If c a b pos) (tIfD tt t u) := fun pn xe H0 M0 W at_ =>
  imS (ps_if (hc pn xe H0 M0 W at_) (ha pn xe H0 M0 W at_) (hb pn xe H0 M0 W at_)) fun D σ H ⟨τ, M, F, g0, sl, mu, h, k1, k2, k3, k4⟩ => upT_fin g0 sl mu h fun c H1 M1 g1 mu1 h1 => by
    cases c with
    | true =>
      rw [if_pos rfl]
      exact upS_fin g0 g1 (sl.good g1) mu1 (h1.1 rfl) k1 k2 k3 k4
    | false =>
      rw [if_neg Bool.false_ne_true]
      exact upS_fin g0 g1 (sl.good g1) mu1 (h1.2 rfl) k1 k2 k3 k4
theorem pds_set {i : Nat} {x : Str} {pos' : Pos} (he : PD X e te) (hN : X.N.Nodup) (hi : X.N[i]? = some x := by rfl) (hx : Loc X.env.scope x := by first | exact Or.inl rfl | exact Or.inr rfl) (hs : swapsWith e (some (.Name x pos')) pos.line X.env = pure false := by rfl)
    (hf : X.fn x = true ∨ X.env.scope.names.lookup x = some .local := by first | exact .inl rfl | exact .inr rfl) : PDS X (.Assign [.Name x pos'] e pos) (tSetD i te) := fun pn xe H0 M0 W at_ =>
  imS (ps_set (X := X.tr pn xe) hN hi hx (he pn xe H0 M0 W at_) hs hf) fun D σ H ⟨τ, M, F, g0, sl, mu, h, k1, k2, k3, k4⟩ => upE_fin g0 sl mu h fun v H1 d M1 g1 mu1 r1 q =>
    k1 _ H1 ⟨setN τ i (some d), M1, g1, by rw [setN_eq]; exact (sl.good g1).set r1, mu1, q⟩
end
end Z

set_option Elab.async false
set_option linter.all false
set_option maxRecDepth 100000
set_option maxHeartbeats 4000000
namespace Z
open PySem L2

/-! ### ints -/
def rdI (g : Int → Int → Int) : R2D := fun d e M F => match d, e with | .int i, .int j => F (.int (g i j)) M | _, _ => False
def rdIC (C : Int → Int → Prop) (g : Int → Int → Int) : R2D := fun d e M F => match d, e with | .int i, .int j => C i j ∧ F (.int (g i j)) M | _, _ => False
def rdB (g : Int → Int → Bool) : R2D := fun d e M F => match d, e with | .int i, .int j => F (.bl (g i j)) M | _, _ => False
theorem rdI_inv {g : Int → Int → Int} {d e : D} {M : MH} {F : QD} (h : rdI g d e M F) : ∃ i j, d = .int i ∧ e = .int j ∧ F (.int (g i j)) M := by
  unfold rdI at h
  split at h
  · exact ⟨_, _, rfl, rfl, h⟩
  · exact h.elim
theorem rdIC_inv {C : Int → Int → Prop} {g : Int → Int → Int} {d e : D} {M : MH} {F : QD} (h : rdIC C g d e M F) : ∃ i j, d = .int i ∧ e = .int j ∧ C i j ∧ F (.int (g i j)) M := by
  unfold rdIC at h
  split at h
  · exact ⟨_, _, rfl, rfl, h⟩
  · exact h.elim
theorem rdB_inv {g : Int → Int → Bool} {d e : D} {M : MH} {F : QD} (h : rdB g d e M F) : ∃ i j, d = .int i ∧ e = .int j ∧ F (.bl (g i j)) M := by
  unfold rdB at h
  split at h
  · exact ⟨_, _, rfl, rfl, h⟩
  · exact h.elim
section
variable {K : PySem.W.Frag}
theorem simI {g : Int → Int → Int} : SimOp K (rI0 fun i j => .int (g i j)) (rdI g) := fun x y d e H M F Q rx ry mu h k => by
  obtain ⟨i, j, rfl, rfl, q⟩ := rdI_inv h
  cases rx
  cases ry
  exact ⟨_, _, rfl, rfl, k _ _ _ _ .refl mu (.int _) q⟩
theorem simIC {C C' : Int → Int → Prop} {g : Int → Int → Int} (hc : ∀ i j, C' i j → C i j) : SimOp K (rI C fun i j => .int (g i j)) (rdIC C' g) := fun x y d e H M F Q rx ry mu h k => by
  obtain ⟨i, j, rfl, rfl, c, q⟩ := rdIC_inv h
  cases rx
  cases ry
  exact ⟨_, _, rfl, rfl, hc _ _ c, k _ _ _ _ .refl mu (.int _) q⟩
theorem simB {g : Int → Int → Bool} : SimOp K (rI0 fun i j => .bl (g i j)) (rdB g) := fun x y d e H M F Q rx ry mu h k => by
  obtain ⟨i, j, rfl, rfl, q⟩ := rdB_inv h
  cases rx
  cases ry
  exact ⟨_, _, rfl, rfl, k _ _ _ _ .refl mu (.bl _) q⟩
end
def MulOk (i j : Int) : Prop := CMul i j ∨ CMulW i j
def DivOk (_ j : Int) : Prop := j ≠ 0 ∧ j.natAbs.log2 < 9000
theorem op_mulZ {X : Cx} : OpR X (binaryOp .Mult) (rI MulOk fun i j => .int (i * j)) := fun pins s σ H x y v u Q I rx ry h => by
  obtain ⟨i, j, e1, e2, c, q⟩ := h
  rcases c with c | c
  · exact op_mul pins s σ H x y v u Q I rx ry ⟨i, j, e1, e2, c, q⟩
  · exact op_mulW pins s σ H x y v u Q I rx ry ⟨i, j, e1, e2, c, q⟩
theorem op_fdivZ {X : Cx} : OpR X (binaryOp .FloorDiv) (rI DivOk fun i j => .int (i.fdiv j)) := opI fun i j _ _ _ _ _ hc q =>
  PyProof.Rows.floordiv_int hc.1 q (.inl (PyProof.noPylong_of_log2 hc.2))
section
variable {X : Cx} {a b e : Expr} {ta tb : TED} {pos p : Pos}
theorem pd_add (ha : PD X a ta) (hb : PD X b tb) : PD X (.BinOp a .Add b pos) (tOpD (rdI fun i j => i + j) ta tb) := pd_op (fun _ _ => op_add) simI ha hb
theorem pd_sub (ha : PD X a ta) (hb : PD X b tb) : PD X (.BinOp a .Sub b pos) (tOpD (rdI fun i j => i - j) ta tb) := pd_op (fun _ _ => op_sub) simI ha hb
theorem pd_mul (ha : PD X a ta) (hb : PD X b tb) : PD X (.BinOp a .Mult b pos) (tOpD (rdIC MulOk fun i j => i * j) ta tb) := pd_op (fun _ _ => op_mulZ) (simIC fun _ _ h => h) ha hb
theorem pd_fdiv (ha : PD X a ta) (hb : PD X b tb) : PD X (.BinOp a .FloorDiv b pos) (tOpD (rdIC DivOk fun i j => i.fdiv j) ta tb) := pd_op (fun _ _ => op_fdivZ) (simIC fun _ _ h => h) ha hb
theorem pd_mod (ha : PD X a ta) (hb : PD X b tb) : PD X (.BinOp a .Mod b pos) (tOpD (rdIC (fun _ j => 0 < j) fun i j => i % j) ta tb) := pd_op (fun _ _ => op_mod) (simIC fun _ _ h => h) ha hb
theorem pd_pow (ha : PD X a ta) (hb : PD X b tb) : PD X (.BinOp a .Pow b pos) (tOpD (rdIC CPow fun i j => i ^ j.toNat) ta tb) := pd_op (fun _ _ => op_pow) (simIC fun _ _ h => h) ha hb
theorem pd_lt (ha : PD X a ta) (hb : PD X b tb) : PD X (.Compare a [.Lt] [b] pos) (tOpD (rdB fun i j => decide (i < j)) ta tb) := pd_cmp (fun _ _ => op_lt) simB ha hb
theorem pd_le (ha : PD X a ta) (hb : PD X b tb) : PD X (.Compare a [.LtE] [b] pos) (tOpD (rdB fun i j => decide (i ≤ j)) ta tb) := pd_cmp (fun _ _ => op_le) simB ha hb
theorem pd_gt (ha : PD X a ta) (hb : PD X b tb) : PD X (.Compare a [.Gt] [b] pos) (tOpD (rdB fun i j => decide (j < i)) ta tb) := pd_cmp (fun _ _ => op_gt) simB ha hb
theorem pd_ge (ha : PD X a ta) (hb : PD X b tb) : PD X (.Compare a [.GtE] [b] pos) (tOpD (rdB fun i j => decide (j ≤ i)) ta tb) := pd_cmp (fun _ _ => op_ge) simB ha hb
theorem pdt_lt (ha : PD X a ta) (hb : PD X b tb) : PDT X (.Compare a [.Lt] [b] pos) (tTestB (tOpD (rdB fun i j => decide (i < j)) ta tb)) := pdt_cmp (fun _ _ => op_lt) simB ha hb
theorem pdt_le (ha : PD X a ta) (hb : PD X b tb) : PDT X (.Compare a [.LtE] [b] pos) (tTestB (tOpD (rdB fun i j => decide (i ≤ j)) ta tb)) := pdt_cmp (fun _ _ => op_le) simB ha hb
theorem pdt_gt (ha : PD X a ta) (hb : PD X b tb) : PDT X (.Compare a [.Gt] [b] pos) (tTestB (tOpD (rdB fun i j => decide (j < i)) ta tb)) := pdt_cmp (fun _ _ => op_gt) simB ha hb
theorem pdt_ge (ha : PD X a ta) (hb : PD X b tb) : PDT X (.Compare a [.GtE] [b] pos) (tTestB (tOpD (rdB fun i j => decide (j ≤ i)) ta tb)) := pdt_cmp (fun _ _ => op_ge) simB ha hb
/-- -x -/
def rdNeg : D → MH → QD → Prop := fun d M F => match d with | .int i => F (.int (-i)) M | _ => False
theorem pd_neg (ha : PD X a ta) : PD X (.UnaryOp .USub a pos) (tUnD rdNeg ta) := pd_un (fun _ _ => un_neg) (fun x d H M F Q rx mu h k => by
  unfold rdNeg at h
  split at h
  · cases rx; exact ⟨_, rfl, k _ _ _ _ .refl mu (.int _) h⟩
  · exact h.elim) ha

/-! ### == and != -/
end
mutual
def toPy : D → Option PyData
  | .non => some .none
  | .bl b => some (.bool b)
  | .int i => some (.int i)
  | .str x => some (.str x)
  | .lst xs => (toPys xs).map .list
  | .tup xs => (toPys xs).map .tuple
  | _ => none
def toPys : List D → Option (List PyData)
  | [] => some []
  | x :: xs => match toPy x, toPys xs with | some p, some ps => some (p :: ps) | _, _ => none
end
section
variable {K : PySem.W.Frag} {H : Hp} {M : MH}
mutual
theorem toPy_dp : ∀ {v : V} {d : D} {p : PyData}, Rep K H M v d → toPy d = some p → Dp K H v p
  | _, _, _, .non, h => by simp only [toPy] at h; cases h; exact .non
  | _, _, _, .bl b, h => by simp only [toPy] at h; cases h; exact .bl b
  | _, _, _, .int i, h => by simp only [toPy] at h; cases h; exact .int i
  | _, _, _, .str x, h => by simp only [toPy] at h; cases h; exact .str x
  | _, _, _, .flt x, h => by simp [toPy] at h
  | _, _, _, .ref a, h => by simp [toPy] at h
  | _, _, _, .ty n, h => by simp [toPy] at h
  | _, _, _, .lst (xs := xs) r rs, h => by
    simp only [toPy] at h
    cases e : toPys xs with
    | none => rw [e] at h; cases h
    | some ps => rw [e] at h; cases h; exact .lst r.sq (toPys_dp rs e)
  | _, _, _, .tup (xs := xs) r rs, h => by
    simp only [toPy] at h
    cases e : toPys xs with
    | none => rw [e] at h; cases h
    | some ps => rw [e] at h; cases h; exact .tup r.sq (toPys_dp rs e)
  | _, _, _, .dct _ _ _, h => by simp [toPy] at h
  | _, _, _, .obj _ _ _, h => by simp [toPy] at h
  | _, _, _, .exn _ _ _ _ _, h => by simp [toPy] at h
  | _, _, _, .exn0 _ _, h => by simp [toPy] at h
theorem toPys_dp : ∀ {vs : List V} {ds : List D} {ps : List PyData}, Reps K H M vs ds → toPys ds = some ps → DpAll K H vs ps
  | _, _, _, .nil, h => by simp only [toPys] at h; cases h; exact .nil
  | _, _, _, .cons (d := d) (ds := ds) r rs, h => by
    simp only [toPys] at h
    cases e1 : toPy d with
    | none => rw [e1] at h; cases h
    | some p =>
      cases e2 : toPys ds with
      | none => rw [e1, e2] at h; cases h
      | some ps => rw [e1, e2] at h; cases h; exact .cons (toPy_dp r e1) (toPys_dp rs e2)
end
end
/-- == of trees of data; None where it is not told here -/
def eqD (d e : D) : Option Bool := match d, e with
  | .int i, .int j => some (decide (i = j))
  | .bl i, .bl j => some (decide (i = j))
  | .str i, .str j => some (decide (i = j))
  | .non, .non => some true
  | .non, .int _ | .int _, .non | .non, .bl _ | .bl _, .non | .non, .str _ | .str _, .non | .int _, .str _ | .str _, .int _ | .bl _, .str _ | .str _, .bl _ => some false
  | _, _ => match toPy d, toPy e with | some p, some q => if SeqAt.shaped p && SeqAt.shaped q then some (PyData.eqv p q) else none | _, _ => none
def rdEq : R2D := fun d e M F => match eqD d e with | some b => F (.bl b) M | none => False
def rdNe : R2D := fun d e M F => match eqD d e with | some b => F (.bl (!b)) M | none => False
theorem rdEq_inv {d e : D} {M : MH} {F : QD} (h : rdEq d e M F) : ∃ b, eqD d e = some b ∧ F (.bl b) M := by
  unfold rdEq at h
  split at h
  · exact ⟨_, by assumption, h⟩
  · exact h.elim
theorem rdNe_inv {d e : D} {M : MH} {F : QD} (h : rdNe d e M F) : ∃ b, eqD d e = some b ∧ F (.bl (!b)) M := by
  unfold rdNe at h
  split at h
  · exact ⟨_, by assumption, h⟩
  · exact h.elim
section
variable {K : PySem.W.Frag} {H : Hp} {M : MH}
theorem eqD_sim {x y : V} {d e : D} {b : Bool} (rx : Rep K H M x d) (ry : Rep K H M y e) (h : eqD d e = some b) : (scal x y = true ∧ decide (x = y) = b) ∨ ∃ p q, Dp K H x p ∧ Dp K H y q ∧ SeqAt.shaped p = true ∧ SeqAt.shaped q = true ∧ PyData.eqv p q = b := by
  unfold eqD at h
  split at h
  · cases rx; cases ry; cases h; exact .inl ⟨rfl, by simp⟩
  · cases rx; cases ry; cases h; exact .inl ⟨rfl, by simp⟩
  · cases rx; cases ry; cases h; exact .inl ⟨rfl, by simp⟩
  · cases rx; cases ry; cases h; exact .inl ⟨rfl, by simp⟩
  · cases rx; cases ry; cases h; exact .inl ⟨rfl, by simp⟩
  · cases rx; cases ry; cases h; exact .inl ⟨rfl, by simp⟩
  · cases rx; cases ry; cases h; exact .inl ⟨rfl, by simp⟩
  · cases rx; cases ry; cases h; exact .inl ⟨rfl, by simp⟩
  · cases rx; cases ry; cases h; exact .inl ⟨rfl, by simp⟩
  · cases rx; cases ry; cases h; exact .inl ⟨rfl, by simp⟩
  · cases rx; cases ry; cases h; exact .inl ⟨rfl, by simp⟩
  · cases rx; cases ry; cases h; exact .inl ⟨rfl, by simp⟩
  · cases rx; cases ry; cases h; exact .inl ⟨rfl, by simp⟩
  · cases rx; cases ry; cases h; exact .inl ⟨rfl, by simp⟩
  · split at h
    · rename_i p q e1 e2
      split at h
      · rename_i c
        rw [Bool.and_eq_true] at c
        cases h
        exact .inr ⟨p, q, toPy_dp rx e1, toPy_dp ry e2, c.1, c.2, rfl⟩
      · cases h
    · cases h
end
section
variable {X : Cx} {a b e : Expr} {ta tb : TED} {pos p : Pos}
theorem simEq {K : PySem.W.Frag} : SimOp K (fun x y H Q => rEq x y H Q ∨ rEqD K x y H Q) rdEq := fun x y d e H M F Q rx ry mu h k => by
  obtain ⟨c, e1, q⟩ := rdEq_inv h
  rcases eqD_sim rx ry e1 with ⟨h1, h2⟩ | ⟨p, q', h1, h2, h3, h4, h5⟩
  · exact .inl ⟨h1, by rw [h2]; exact k _ _ _ _ .refl mu (.bl _) q⟩
  · exact .inr ⟨p, q', h1, h2, h3, h4, by rw [h5]; exact k _ _ _ _ .refl mu (.bl _) q⟩
theorem simNe {K : PySem.W.Frag} : SimOp K (fun x y H Q => rNe x y H Q ∨ rNeD K x y H Q) rdNe := fun x y d e H M F Q rx ry mu h k => by
  obtain ⟨c, e1, q⟩ := rdNe_inv h
  rcases eqD_sim rx ry e1 with ⟨h1, h2⟩ | ⟨p, q', h1, h2, h3, h4, h5⟩
  · exact .inl ⟨h1, by rw [h2]; exact k _ _ _ _ .refl mu (.bl _) q⟩
  · exact .inr ⟨p, q', h1, h2, h3, h4, by rw [h5]; exact k _ _ _ _ .refl mu (.bl _) q⟩
theorem pd_eq (hu : X.A.units + 64 < cLine) (ha : PD X a ta) (hb : PD X b tb) : PD X (.Compare a [.Eq] [b] pos) (tOpD rdEq ta tb) := pd_cmp (fun pn xe => OpR.or op_eq (op_eqD (X := X.tr pn xe) hu)) simEq ha hb
theorem pd_ne (hu : X.A.units + 64 < cLine) (ha : PD X a ta) (hb : PD X b tb) : PD X (.Compare a [.NotEq] [b] pos) (tOpD rdNe ta tb) := pd_cmp (fun pn xe => OpR.or op_ne (op_neD (X := X.tr pn xe) hu)) simNe ha hb
theorem pdt_eq (hu : X.A.units + 64 < cLine) (ha : PD X a ta) (hb : PD X b tb) : PDT X (.Compare a [.Eq] [b] pos) (tTestB (tOpD rdEq ta tb)) := pdt_cmp (fun pn xe => OpR.or op_eq (op_eqD (X := X.tr pn xe) hu)) simEq ha hb
theorem pdt_ne (hu : X.A.units + 64 < cLine) (ha : PD X a ta) (hb : PD X b tb) : PDT X (.Compare a [.NotEq] [b] pos) (tTestB (tOpD rdNe ta tb)) := pdt_cmp (fun pn xe => OpR.or op_ne (op_neD (X := X.tr pn xe) hu)) simNe ha hb
/-- is None, is not None -/
def isNonD : D → Bool | .non => true | _ => false
def tIsND (t : TED) : TED := fun W τ M Q => t W τ M fun d M1 => Q (.bl (isNonD d)) M1
def tNotND (t : TED) : TED := fun W τ M Q => t W τ M fun d M1 => Q (.bl (!isNonD d)) M1
theorem isNon_sim {K : PySem.W.Frag} {H : Hp} {M : MH} {x : V} {d : D} (r : Rep K H M x d) : decide (x = .non) = isNonD d := by cases r <;> rfl
theorem pd_isN {j pos'} (ha : PD X a ta) : PD X (.Compare a [.Is] [.Constant .none j pos'] pos) (tIsND ta) := fun pn xe H0 M0 W at_ =>
  imE (pe_cmp (pc_isN (ha pn xe H0 M0 W at_))) fun σ H Q ⟨τ, M, F, g0, sl, mu, h, k⟩ => upE_fin g0 sl mu h fun x H1 d M1 g1 mu1 r1 h1 => by
    rw [isNon_sim r1]; exact k _ _ _ _ g1 mu1 (.bl _) h1
theorem pd_notN {j pos'} (ha : PD X a ta) : PD X (.Compare a [.IsNot] [.Constant .none j pos'] pos) (tNotND ta) := fun pn xe H0 M0 W at_ =>
  imE (pe_cmp (pc_notN (ha pn xe H0 M0 W at_))) fun σ H Q ⟨τ, M, F, g0, sl, mu, h, k⟩ => upE_fin g0 sl mu h fun x H1 d M1 g1 mu1 r1 h1 => by
    rw [isNon_sim r1]; exact k _ _ _ _ g1 mu1 (.bl _) h1
theorem pdt_isN {j pos'} (ha : PD X a ta) : PDT X (.Compare a [.Is] [.Constant .none j pos'] pos) (tTestB (tIsND ta)) := fun pn xe H0 M0 W at_ =>
  imT (pt_cmp (pc_isN (ha pn xe H0 M0 W at_))) fun σ H Q ⟨τ, M, F, g0, sl, mu, h, k⟩ => upE_fin g0 sl mu h fun x H1 d M1 g1 mu1 r1 h1 => by
    rw [isNon_sim r1]; exact ⟨_, rfl, k _ _ _ g1 mu1 h1⟩
theorem pdt_notN {j pos'} (ha : PD X a ta) : PDT X (.Compare a [.IsNot] [.Constant .none j pos'] pos) (tTestB (tNotND ta)) := fun pn xe H0 M0 W at_ =>
  imT (pt_cmp (pc_notN (ha pn xe H0 M0 W at_))) fun σ H Q ⟨τ, M, F, g0, sl, mu, h, k⟩ => upE_fin g0 sl mu h fun x H1 d M1 g1 mu1 r1 h1 => by
    rw [isNon_sim r1]; exact ⟨_, rfl, k _ _ _ g1 mu1 h1⟩

/-! ### subscripts, len, slices -/
def rdIx : R2D := fun d e M F => match d, e with
  | .lst xs, .int i => (match atI xs i with | some x => F x M | none => False)
  | .tup xs, .int i => (match atI xs i with | some x => F x M | none => False)
  | .ref a, .int i => (match M a with | some (.lst xs) => (match atI xs i with | some x => F x M | none => False) | _ => False)
  | _, _ => False
theorem Reps.at {K : PySem.W.Frag} {H : Hp} {M : MH} {vs : List V} {ds : List D} {i : Int} {d : D} (r : Reps K H M vs ds) (h : atI ds i = some d) : ∃ v, atI vs i = some v ∧ Rep K H M v d := by
  unfold atI at h ⊢
  rw [r.length]
  cases e : ixN ds.length i with
  | none => rw [e] at h; cases h
  | some j => rw [e] at h; exact r.get h
theorem simIx {K : PySem.W.Frag} : SimOp K (fun x y H Q => rIxL K x y H Q ∨ rIxT K x y H Q) rdIx := fun x y d e H M F Q rx ry mu h k => by
  unfold rdIx at h
  split at h
  · cases ry
    cases rx with
    | lst r rs =>
      split at h
      · rename_i q
        obtain ⟨v, e1, r1⟩ := rs.at q
        exact .inl ⟨_, _, _, _, rfl, rfl, r.sq, e1, k _ _ _ _ .refl mu r1 h⟩
      · exact h.elim
  · cases ry
    cases rx with
    | tup r rs =>
      split at h
      · rename_i q
        obtain ⟨v, e1, r1⟩ := rs.at q
        exact .inr ⟨_, _, _, _, rfl, rfl, r.sq, e1, k _ _ _ _ .refl mu r1 h⟩
      · exact h.elim
  · cases ry
    cases rx with
    | ref a =>
      split at h
      · rename_i q1
        obtain ⟨ho, e, r⟩ := mu _ _ q1
        cases r with
        | lst rs =>
          split at h
          · rename_i q
            obtain ⟨v, e1, r1⟩ := rs.at q
            exact .inl ⟨_, _, _, _, rfl, rfl, .inl (.inl e), e1, k _ _ _ _ .refl mu r1 h⟩
          · exact h.elim
      · exact h.elim
  · exact h.elim
theorem pd_ix (ha : PD X a ta) (hb : PD X b tb) (hs : PlainIx b := by exact fun _ _ => rfl) : PD X (.Subscript a b pos) (tOpD rdIx ta tb) := fun pn xe H0 M0 W at_ =>
  imE (pe_ix (IxR.or ix_list ix_tup) (ha pn xe H0 M0 W at_) (hb pn xe H0 M0 W at_) hs) fun σ H Q ⟨τ, M, F, g0, sl, mu, h, k⟩ =>
    upE_fin g0 sl mu h fun x H1 d M1 g1 mu1 r1 h1 => upE_fin (g0.trans g1) (sl.good g1) mu1 h1 fun y H2 e M2 g2 mu2 r2 h2 =>
      simIx x y d e H2 M2 F Q (r1.good g2) r2 mu2 h2 fun v H' d' M' g' mu' r' f' => k v H' d' M' ((g1.trans g2).trans g') mu' r' f'
def rdLen : RCD := fun ds M F => match ds with
  | [.lst xs] => F (.int xs.length) M
  | [.tup xs] => F (.int xs.length) M
  | [.ref a] => (match M a with | some (.lst xs) => F (.int xs.length) M | _ => False)
  | _ => False
theorem simLen {K : PySem.W.Frag} : SimC K (fun xs H Q => ∃ p ys, xs = [.ref p] ∧ (SqL K H p ys ∨ SqT K H p ys) ∧ Q (.int ys.length) H) rdLen := fun xs ds H M F Q r mu h k => by
  unfold rdLen at h
  split at h
  · cases r with
    | cons r t =>
      cases t
      cases r with
      | lst r rs => exact ⟨_, _, rfl, .inl r.sq, by rw [rs.length]; exact k _ _ _ _ .refl mu (.int _) h⟩
  · cases r with
    | cons r t =>
      cases t
      cases r with
      | tup r rs => exact ⟨_, _, rfl, .inr r.sq, by rw [rs.length]; exact k _ _ _ _ .refl mu (.int _) h⟩
  · cases r with
    | cons r t =>
      cases t
      cases r with
      | ref a =>
        split at h
        · rename_i q1
          obtain ⟨ho, e, r⟩ := mu _ _ q1
          cases r with
          | lst rs => exact ⟨_, _, rfl, .inl (.inl (.inl e)), by rw [rs.length]; exact k _ _ _ _ .refl mu (.int _) h⟩
        · exact h.elim
  · exact h.elim
variable {ts : TAD} {es : List Expr}
theorem pd_len (hm : X.mg "len" = none) (ha : PDA X (e :: es) ts) (hg : Gl X "len" := by rfl) (he : starEach (e :: es) X.env = (false, eval e X.env) :: starEach es X.env := by rfl) (hpl : (backTo pos (starEach es X.env)).any (·.1) = false := by rfl) :
    PD X (.Call (.Name "len" p) (e :: es) [] pos) (tCBD rdLen ts) := pd_bf hm PySem.boot_len (fun pn xe => call_len_seq (X := X.tr pn xe)) simLen ha hg (by decide) (by decide) he hpl
def rdAbs : RCD := fun ds M F => match ds with | [.int i] => F (.int (if i < 0 then -i else i)) M | _ => False
def rdInt : RCD := fun ds M F => match ds with | [.int i] => F (.int i) M | [.bl b] => F (.int (if b then 1 else 0)) M | _ => False
def rdGcd : RCD := fun ds M F => match ds with | [.int i, .int j] => F (.int ((Nat.gcd i.natAbs j.natAbs : Nat) : Int)) M | _ => False
theorem pd_abs (hm : X.mg "abs" = none) (ha : PDA X (e :: es) ts) (hg : Gl X "abs" := by rfl) (he : starEach (e :: es) X.env = (false, eval e X.env) :: starEach es X.env := by rfl) (hpl : (backTo pos (starEach es X.env)).any (·.1) = false := by rfl) :
    PD X (.Call (.Name "abs" p) (e :: es) [] pos) (tCBD rdAbs ts) := pd_bf hm (by decide +kernel) (fun pn xe => call_abs (X := X.tr pn xe)) (fun xs ds H M F Q r mu h k => by
      unfold rdAbs at h
      split at h
      · cases r with
        | cons r t => cases t; cases r; exact ⟨_, rfl, k _ _ _ _ .refl mu (.int _) h⟩
      · exact h.elim) ha hg (by decide) (by decide) he hpl
theorem pd_int1 (hm : X.mg "int" = none) (ha : PDA X (e :: es) ts) (hg : Gl X "int" := by rfl) (he : starEach (e :: es) X.env = (false, eval e X.env) :: starEach es X.env := by rfl) (hpl : (backTo pos (starEach es X.env)).any (·.1) = false := by rfl) :
    PD X (.Call (.Name "int" p) (e :: es) [] pos) (tCBD rdInt ts) := pd_bt hm (by decide +kernel) (fun pn xe => call_int1 (X := X.tr pn xe)) (fun xs ds H M F Q r mu h k => by
      unfold rdInt at h
      split at h
      · cases r with
        | cons r t => cases t; cases r; exact .inl ⟨_, rfl, k _ _ _ _ .refl mu (.int _) h⟩
      · cases r with
        | cons r t => cases t; cases r; exact .inr ⟨_, rfl, k _ _ _ _ .refl mu (.int _) h⟩
      · exact h.elim) ha hg (by decide) (by decide) he hpl
theorem pd_gcd {x : Str} (hm : X.mg x = some (.builtin "math.gcd")) (ha : PDA X (e :: es) ts) (hg : Gl X x := by rfl) (hdb : (x == ("__debug__" : Str)) = false := by decide) (he : starEach (e :: es) X.env = (false, eval e X.env) :: starEach es X.env := by rfl) (hpl : (backTo pos (starEach es X.env)).any (·.1) = false := by rfl) :
    PD X (.Call (.Name x p) (e :: es) [] pos) (tCBD rdGcd ts) := fun pn xe H0 M0 W at_ =>
  imE (pe_callBfun (X := X.tr pn xe) cr_gcd hg hm (ha pn xe H0 M0 W at_) hdb he hpl) fun σ H Q ⟨τ, M, F, g0, sl, mu, h, k⟩ => ⟨τ, M, _, g0, sl, mu, h, fun vs H1 ds M1 g1 mu1 r1 h1 => by
    unfold rdGcd at h1
    split at h1
    · cases r1 with
      | cons r t => cases t with
        | cons r' t' => cases t'; cases r; cases r'; exact ⟨_, _, rfl, k _ _ _ _ g1 mu1 (.int _) h1⟩
    · exact h1.elim⟩
end
end Z

set_option Elab.async false
set_option linter.all false
set_option maxRecDepth 100000
set_option maxHeartbeats 4000000
namespace Z
open PySem L2

/-! ### targets -/
abbrev TGD := D → EnvD → MH → (EnvD → MH → Prop) → Prop
abbrev TGsD := List D → EnvD → MH → (EnvD → MH → Prop) → Prop
def upG (K : PySem.W.Frag) (t : TGD) : TG := fun v σ H Q => ∃ d τ M N, Rep K H M v d ∧ Slots K H M σ τ ∧ Mut K H M ∧ t d τ M N ∧ ∀ σ' H' τ' M', Good H M H' M' → Slots K H' M' σ' τ' → Mut K H' M' → N τ' M' → Q σ' H'
def upGs (K : PySem.W.Frag) (t : TGsD) : TGs := fun vs σ H Q => ∃ ds τ M N, Reps K H M vs ds ∧ Slots K H M σ τ ∧ Mut K H M ∧ t ds τ M N ∧ ∀ σ' H' τ' M', Good H M H' M' → Slots K H' M' σ' τ' → Mut K H' M' → N τ' M' → Q σ' H'
/-- a target: it stores, and raises nothing -/
def PDG (X : Cx) (e : Expr) (t : TGD) : Prop := ∀ pn xe, PG (X.tr pn xe) e (upG X.K t)
def PDGs (X : Cx) (es : List Expr) (t : TGsD) : Prop := ∀ pn xe, PGs (X.tr pn xe) es (upGs X.K t)
def gNameD (i : Nat) : TGD := fun d τ M N => N (setN τ i (some d)) M
def gNilD : TGsD := fun ds τ M N => match ds with | [] => N τ M | _ => False
def gConsD (t : TGD) (u : TGsD) : TGsD := fun ds τ M N => match ds with | d :: r => t d τ M fun τ' M' => u r τ' M' N | [] => False
/-- a list or a tuple, by its items -/
def seqD : D → Option (List D) | .lst xs => some xs | .tup xs => some xs | _ => none
def gTupD (n : Nat) (t : TGsD) : TGD := fun d τ M N => match seqD d with | some xs => xs.length = n ∧ t xs τ M N | none => False
section
variable {X : Cx} {pos : Pos}
theorem imG {e : Expr} {t t' : TG} (h : PG X e t) (i : ∀ v σ H Q, t' v σ H Q → t v σ H Q) : PG X e t' := ⟨fun pins s σ H v u Q I r q => h.run pins s σ H v u Q I r (i v σ H Q q)⟩
theorem imGs {e : List Expr} {t t' : TGs} (h : PGs X e t) (i : ∀ v σ H Q, t' v σ H Q → t v σ H Q) : PGs X e t' := ⟨fun pins s σ H v u Q I r q => h.run pins s σ H v u Q I r (i v σ H Q q)⟩
theorem pdg_name {i : Nat} {x : Str} (hN : X.N.Nodup) (hi : X.N[i]? = some x := by rfl) (hx : Loc X.env.scope x := by first | exact Or.inl rfl | exact Or.inr rfl) (hf : X.fn x = true ∨ X.env.scope.names.lookup x = some .local := by first | exact .inl rfl | exact .inr rfl) : PDG X (.Name x pos) (gNameD i) := fun pn xe =>
  imG (pg_name (X := X.tr pn xe) hN hi hx hf) fun v σ H Q ⟨d, τ, M, N, r, sl, mu, h, k⟩ => k _ H (setN τ i (some d)) M .refl (by rw [setN_eq]; exact sl.set r) mu h
theorem pdgs_nil : PDGs X [] gNilD := fun pn xe => imGs pgs_nil fun vs σ H Q ⟨ds, τ, M, N, r, sl, mu, h, k⟩ => by
  cases r with
  | nil => exact ⟨rfl, k σ H τ M .refl sl mu h⟩
  | cons _ _ => exact h.elim
theorem pdgs_cons {e : Expr} {es : List Expr} {t : TGD} {u : TGsD} (h1 : PDG X e t) (h2 : PDGs X es u) (hs : (assignEach (e :: es) X.env).map (·.2) = assign e X.env :: (assignEach es X.env).map (·.2) := by rfl) : PDGs X (e :: es) (gConsD t u) := fun pn xe =>
  imGs (pgs_cons (X := X.tr pn xe) (h1 pn xe) (h2 pn xe) hs) fun vs σ H Q ⟨ds, τ, M, N, r, sl, mu, h, k⟩ => by
    cases r with
    | nil => exact h.elim
    | cons r rs => exact ⟨_, _, rfl, _, τ, M, _, r, sl, mu, h, fun σ1 H1 τ1 M1 g1 sl1 mu1 q => ⟨_, τ1, M1, N, rs.good g1, sl1, mu1, q, fun σ' H' τ' M' g' sl' mu' n => k σ' H' τ' M' (g1.trans g') sl' mu' n⟩⟩
theorem pdg_tup {es : List Expr} {k : Nat} {t : TGsD} {n : Nat} (hc : X.calm = true) (h : PDGs X es t) (hn : (assignEach es X.env).length = n := by rfl) (hst : (assignEach es X.env).findIdx? (·.1) = none := by rfl) : PDG X (.Tuple es k pos) (gTupD n t) := fun pn xe => by
  have h1 := pg_tup (X := X.tr pn xe) (pos := pos) (k := k) hc (h pn xe) hn hst
  have h2 := pg_lst (X := X.tr pn xe) (pos := pos) (k := k) hc (h pn xe) hn hst
  refine ⟨fun pins s σ H v u Q I r ⟨d, τ, M, N, rp, sl, mu, hh, kk⟩ => ?_⟩
  unfold gTupD at hh
  cases q : seqD d with
  | none => rw [q] at hh; exact hh.elim
  | some xs =>
    rw [q] at hh
    obtain ⟨hl, hh⟩ := hh
    cases rp with
    | lst rr rs =>
      cases q
      exact h2.run pins s σ H _ u Q I r ⟨_, _, rfl, rr.sq, by rw [rs.length]; exact hl, ⟨_, τ, M, N, rs, sl, mu, hh, kk⟩⟩
    | tup rr rs =>
      cases q
      exact h1.run pins s σ H _ u Q I r ⟨_, _, rfl, rr.sq, by rw [rs.length]; exact hl, ⟨_, τ, M, N, rs, sl, mu, hh, kk⟩⟩
    | _ => cases q
/-- target = value -/
def tAsgD (te : TED) (g : TGD) : TSD := fun W F τ M => te W τ M fun d M1 => g d τ M1 F.nx
theorem upG_fin {H0 : Hp} {M0 : MH} {g : TGD} {v : V} {d : D} {σ : L2.St} {τ : EnvD} {H : Hp} {M : MH} {N : EnvD → MH → Prop} {Q : L2.St → Hp → Prop} (g0 : Good H0 M0 H M) (r : Rep X.K H M v d) (sl : Slots X.K H M σ τ) (mu : Mut X.K H M) (h : g d τ M N)
    (k : ∀ σ' H', liftN X.K H0 M0 N σ' H' → Q σ' H') : upG X.K g v σ H Q := ⟨d, τ, M, N, r, sl, mu, h, fun σ' H' τ' M' g' sl' mu' n => k σ' H' ⟨τ', M', g0.trans g', sl', mu', n⟩⟩
theorem pds_asg {tg e : Expr} {te : TED} {g : TGD} (he : PD X e te) (hg : PDG X tg g) (hs : swapsWithSole [tg] e pos.line X.env = pure false := by rfl) (hw : swappedStores [tg] e X.env = pure none := by rfl) (h1 : (assignEach [tg] X.env).map (·.2) = [assign tg X.env] := by rfl) :
    PDS X (.Assign [tg] e pos) (tAsgD te g) := fun pn xe H0 M0 W at_ =>
  imS (ps_asg (X := X.tr pn xe) (he pn xe H0 M0 W at_) (hg pn xe) hs hw h1) fun D σ H ⟨τ, M, F, g0, sl, mu, h, k1, k2, k3, k4⟩ => upE_fin g0 sl mu h fun v H1 d M1 g1 mu1 r1 q => upG_fin g1 r1 (sl.good g1) mu1 q k1
/-- o[i] = v, o a list with an address -/
def tSetIx (te to ti : TED) : TSD := fun W F τ M => te W τ M fun d M1 => to W τ M1 fun o M2 => ti W τ M2 fun i M3 => match o, i with
  | .ref a, .int k => (match M3 a with | some (.lst xs) => (match ixN xs.length k with | some j => F.nx τ (mput M3 a (.lst (xs.set j d))) | none => False) | _ => False)
  | _, _ => False
theorem pds_setix {o i e : Expr} {te to ti : TED} {p2 : Pos} (he : PD X e te) (ho : PD X o to) (hi : PD X i ti) (hs : swapsWithSole [.Subscript o i p2] e pos.line X.env = pure false := by rfl) (hw : swappedStores [.Subscript o i p2] e X.env = pure none := by rfl)
    (h1 : (assignEach [.Subscript o i p2] X.env).map (·.2) = [assign (.Subscript o i p2) X.env] := by rfl)
    (ha : ∀ v, assign (.Subscript o i p2) X.env v = (do
      let ov ← holding [v] (eval o X.env)
      let iv ← holding [v, ov] (eval i X.env)
      standAt p2
      holding [v, ov, iv] (setItem ov iv v)
      release [v, ov, iv] []) := by intro _; rfl) : PDS X (.Assign [.Subscript o i p2] e pos) (tSetIx te to ti) := fun pn xe H0 M0 W at_ =>
  imS (ps_asg (X := X.tr pn xe) (he pn xe H0 M0 W at_) (pg_sub (X := X.tr pn xe) (ho pn xe H0 M0 W at_) (hi pn xe H0 M0 W at_) set_list ha) hs hw h1) fun D σ H ⟨τ, M, F, g0, sl, mu, h, k1, k2, k3, k4⟩ =>
    upE_fin g0 sl mu h fun v H1 d M1 g1 mu1 r1 q1 => upE_fin (g0.trans g1) (sl.good g1) mu1 q1 fun ov H2 od M2 g2 mu2 r2 q2 => upE_fin ((g0.trans g1).trans g2) ((sl.good g1).good g2) mu2 q2 fun iv H3 id M3 g3 mu3 r3 q3 => by
      have r1' := (r1.good g2).good g3
      have r2' := r2.good g3
      split at q3
      · cases r3
        cases r2'
        split at q3
        · rename_i a k xs q
          split at q3
          · rename_i j qj
            obtain ⟨ho, e, rm⟩ := mu3 _ _ q
            cases rm with
            | lst rs =>
              exact ⟨_, _, _, j, rfl, rfl, e, by rw [rs.length]; exact qj, k1 _ _ ⟨τ, _, ((g1.trans g2).trans g3).trans (good_write q), (((sl.good g1).good g2).good g3).good (good_write q), mut_write mu3 q (.lst (rs.set r1' j)), q3⟩⟩
          · exact q3.elim
        · exact q3.elim
      · exact q3.elim

/-! ### what a loop walks -/
/-- over a tree: by its items -/
theorem pi_seq {tg l : Expr} {tl : TE} (hl : PE X l tl) : PI X tg l (fun σ H R => tl σ H fun x H1 => ∃ a, x = .ref a ∧ (((∃ xs, SqL X.K H1 a xs) ∧ R (Itl X.K a) H1) ∨ ((∃ xs, SqT X.K H1 a xs) ∧ R (Itt X.K a) H1))) := by
  refine ⟨fun pins s σ H R I h => thn (hl.run pins s σ H _ I h) ?_⟩
  rintro v s1 ⟨x, H1, I1, r1, a, rfl, q⟩
  cases r1
  have I2 : ∀ o : Obj, Inv X pins σ H1 { s1 with heap := s1.heap.push o } := fun o => I1.kept (t' := s1.toks) fun b u e => Heap.get?_push_of_some _ e
  have fp : ∀ b ∈ [s1.heap.objs.size], FpOk X pins H1 b := fun b hb => by
    rw [List.mem_singleton] at hb
    rw [hb]
    exact I1.fpOk (Nat.le_refl _) (I1.hok.fresh (Nat.le_refl _))
  rcases q with ⟨⟨xs, hq⟩, q⟩ | ⟨⟨xs, hq⟩, q⟩
  · obtain ⟨its, rv, p, hz⟩ := I1.list hq
    exact wpAny_pyIter_list p.isList ⟨_, _, _, _, H1, rfl, I2 _, turn_list a _, ⟨_, Heap.get?_push_size _ rfl, rfl, rfl⟩, fp, q⟩
  · obtain ⟨its, rv, p, hz⟩ := I1.tuple hq
    exact wpAny_pyIter_tuple (show s1.heap.IsTuple a its.toArray from p) ⟨_, _, _, _, H1, rfl, I2 _, turn_tuple a _, ⟨_, Heap.get?_push_size _ rfl, rfl, rfl⟩, fp, q⟩

/-- an iterator that yields these items, whatever happens to what has an address -/
def ItRel (K : PySem.W.Frag) (J : It) (H : Hp) (M : MH) (ds : List D) : Prop := ∀ H2 M2, Good H M H2 M2 → Mut K H2 M2 →
  (∀ i d, ds[i]? = some d → J.go i H2 ∧ ∀ x H3, J.yld i H2 x H3 → Good H2 M2 H3 M2 ∧ Mut K H3 M2 ∧ Rep K H3 M2 x d) ∧ J.stop ds.length H2
def upI (K : PySem.W.Frag) (H0 : Hp) (M0 : MH) (W : WD) (t : TAD) : TI := fun σ H R => ∃ τ M F, Good H0 M0 H M ∧ Slots K H M σ τ ∧ Mut K H M ∧ t W τ M F ∧ ∀ J H' ds M', Good H M H' M' → Mut K H' M' → ItRel K J H' M' ds → F ds M' → R J H'
/-- what a loop walks, by its items -/
def PDI (X : Cx) (tg iter : Expr) (t : TAD) : Prop := ∀ pn xe H0 M0 W, At X pn xe H0 M0 W → PI (X.tr pn xe) tg iter (upI X.K H0 M0 W t)
theorem imI {tg e : Expr} {t t' : TI} (h : PI X tg e t) (i : ∀ σ H Q, t' σ H Q → t σ H Q) : PI X tg e t' := ⟨fun pins s σ H R I q => h.run pins s σ H R I (i σ H R q)⟩
def iSeqD (te : TED) : TAD := fun W τ M Q => te W τ M fun d M1 => match seqD d with | some xs => Q xs M1 | none => False
theorem pdi_seq {tg iter : Expr} {te : TED} (he : PD X iter te) : PDI X tg iter (iSeqD te) := fun pn xe H0 M0 W at_ =>
  imI (pi_seq (he pn xe H0 M0 W at_)) fun σ H R ⟨τ, M, F, g0, sl, mu, h, k⟩ => upE_fin g0 sl mu h fun v H1 d M1 g1 mu1 r1 q => by
    cases e : seqD d with
    | none => rw [e] at q; exact q.elim
    | some xs =>
      rw [e] at q
      cases r1 with
      | lst rr rs =>
        cases e
        refine ⟨_, rfl, .inl ⟨⟨_, rr.sq⟩, k _ H1 xs M1 g1 mu1 (fun H2 M2 g2 mu2 => ⟨fun i d hd => ?_, ⟨_, (rr.good g2).sq, Nat.le_of_eq rs.length⟩⟩) q⟩⟩
        obtain ⟨v, hv, rv⟩ := (rs.good g2).get hd
        exact ⟨⟨_, v, (rr.good g2).sq, hv⟩, fun x H3 ⟨e3, hx⟩ => by
          subst e3
          have := hx _ (rr.good g2).sq
          rw [hv] at this
          cases this
          exact ⟨.refl, mu2, rv⟩⟩
      | tup rr rs =>
        cases e
        refine ⟨_, rfl, .inr ⟨⟨_, rr.sq⟩, k _ H1 xs M1 g1 mu1 (fun H2 M2 g2 mu2 => ⟨fun i d hd => ?_, ⟨_, (rr.good g2).sq, Nat.le_of_eq rs.length⟩⟩) q⟩⟩
        obtain ⟨v, hv, rv⟩ := (rs.good g2).get hd
        exact ⟨⟨_, v, (rr.good g2).sq, hv⟩, fun x H3 ⟨e3, hx⟩ => by
          subst e3
          have := hx _ (rr.good g2).sq
          rw [hv] at this
          cases this
          exact ⟨.refl, mu2, rv⟩⟩
      | _ => cases e
/-- lo, lo + 1, .. -/
def upFrom (lo : Int) (n : Nat) : List D := (List.range n).map fun i => .int (lo + (i : Nat))
theorem upFrom_get {lo : Int} {n i : Nat} {d : D} (h : (upFrom lo n)[i]? = some d) : i < n ∧ d = .int (lo + i) := by
  unfold upFrom at h
  rw [List.getElem?_map] at h
  by_cases hi : i < n
  · rw [List.getElem?_range hi] at h
    cases h
    exact ⟨hi, rfl⟩
  · rw [List.getElem?_eq_none (by simpa using Nat.le_of_not_lt hi)] at h
    cases h
theorem itr_rel {K : PySem.W.Frag} {lo : Int} {n : Nat} {H : Hp} {M : MH} : ItRel K (Itr lo n) H M (upFrom lo n) := fun H2 M2 g2 mu2 => ⟨fun i d hd => by
  obtain ⟨hi, rfl⟩ := upFrom_get hd
  exact ⟨hi, fun x H3 ⟨e3, ex⟩ => by subst e3 ex; exact ⟨.refl, mu2, .int _⟩⟩, by show n ≤ (upFrom lo n).length; simp [upFrom]⟩
def iRngD (ta : TAD) : TAD := fun W τ M Q => ta W τ M fun ds M1 => match ds with
  | [.int n] => (-4611686018427387904 ≤ n ∧ n < 4611686018427387904) ∧ Q (upFrom 0 n.toNat) M1
  | [.int a, .int b] => ((-4611686018427387904 ≤ a ∧ a < 4611686018427387904) ∧ -4611686018427387904 ≤ b ∧ b < 4611686018427387904) ∧ Q (upFrom a (b - a).toNat) M1
  | _ => False
theorem pdi_range1 {tg a : Expr} {ta : TAD} {p : Pos} (hm : X.mg "range" = none) (ha : PDA X [a] ta) (hlk : ∀ (W : WD) τ M (R : List D → MH → Prop), ta W τ M R → ta W τ M (fun ds M => R ds M ∧ ds.length = 1)) (hg : Gl X "range" := by rfl) (hs : starEach [a] X.env = [(false, eval a X.env)] := by rfl) : PDI X tg (.Call (.Name "range" p) [a] [] pos) (iRngD ta) := fun pn xe H0 M0 W at_ =>
  imI (pi_range1 (X := X.tr pn xe) hg hm (ha pn xe H0 M0 W at_) hs) fun σ H R ⟨τ, M, F, g0, sl, mu, h, k⟩ => ⟨τ, M, _, g0, sl, mu, hlk _ _ _ _ h, fun vs H1 ds M1 g1 mu1 r ⟨q, l⟩ => by
    cases r with
    | nil => cases l
    | cons r rs =>
      cases rs with
      | cons _ _ => simp at l
      | nil =>
        split at q
        · rename_i n e
          cases e
          cases r
          exact ⟨n, rfl, by omega, by omega, k _ H1 _ M1 g1 mu1 itr_rel q.2⟩
        · rename_i e; cases e
        · exact q.elim⟩
theorem pdi_range2 {tg a b : Expr} {ta : TAD} {p : Pos} (hm : X.mg "range" = none) (ha : PDA X [a, b] ta) (hlk : ∀ (W : WD) τ M (R : List D → MH → Prop), ta W τ M R → ta W τ M (fun ds M => R ds M ∧ ds.length = 2)) (hg : Gl X "range" := by rfl) (hs : starEach [a, b] X.env = [(false, eval a X.env), (false, eval b X.env)] := by rfl) (hs2 : starEach [b] X.env = [(false, eval b X.env)] := by rfl) : PDI X tg (.Call (.Name "range" p) [a, b] [] pos) (iRngD ta) := fun pn xe H0 M0 W at_ =>
  imI (pi_range2 (X := X.tr pn xe) hg hm (ha pn xe H0 M0 W at_) hs hs2) fun σ H R ⟨τ, M, F, g0, sl, mu, h, k⟩ => ⟨τ, M, _, g0, sl, mu, hlk _ _ _ _ h, fun vs H1 ds M1 g1 mu1 r ⟨q, l⟩ => by
    split at q
    · simp at l
    · cases r with
      | cons r rs =>
        cases rs with
        | cons r' rs' =>
          cases rs'
          cases r
          cases r'
          exact ⟨_, _, rfl, ⟨by omega, by omega, by omega, by omega⟩, k _ H1 _ M1 g1 mu1 itr_rel q.2⟩
    · exact q.elim⟩

/-- for target in ..: body -/
def tForD (ti : TAD) (g : TGD) (body : TSD) : TSD := fun W F τ M => ti W τ M fun xs M1 => ∃ Iv : Nat → EnvD → MH → Prop, Iv 0 τ M1 ∧
  (∀ i x τ' M', xs[i]? = some x → Iv i τ' M' → g x τ' M' fun τ2 M2 => body W { F with nx := Iv (i + 1), ct := Iv (i + 1), bk := F.nx } τ2 M2) ∧ (∀ τ' M', Iv xs.length τ' M' → F.nx τ' M')
theorem pds_for {tg iter : Expr} {body : List Stmt} {ti : TAD} {g : TGD} {tb : TSD} (hc : X.calm = true) (he : PDI X tg iter ti) (hg : PDG X tg g) (hb : PDB X body tb) (hs : ∀ x, foldedSetIterable iter X.env x = pure x := by intro _; rfl) : PDS X (.For tg iter body [] pos) (tForD ti g tb) := fun pn xe H0 M0 W at_ =>
  imS (ps_for (X := X.tr pn xe) at_.po hc (he pn xe H0 M0 W at_) (hg pn xe) (hb pn xe H0 M0 W at_) hs) fun D σ H ⟨τ, M, F, g0, sl, mu, h, k1, k2, k3, k4⟩ => ⟨τ, M, _, g0, sl, mu, h, fun J H1 xs M1 g1 mu1 it ⟨Iv, i0, step, done⟩ => by
    refine ⟨fun i m σ2 H2 => m = xs.length - i ∧ i ≤ xs.length ∧ ∃ τ2 M2, Good H1 M1 H2 M2 ∧ Slots X.K H2 M2 σ2 τ2 ∧ Mut X.K H2 M2 ∧ Iv i τ2 M2, ⟨_, rfl, Nat.zero_le _, τ, M1, .refl, sl.good g1, mu1, i0⟩, ?_⟩
    rintro i m σ2 H2 ⟨rfl, hi, τ2, M2, g2, sl2, mu2, iv⟩
    obtain ⟨go, stop⟩ := it H2 M2 g2 mu2
    by_cases hlt : i < xs.length
    · obtain ⟨go1, yl⟩ := go i xs[i] (by simp [hlt])
      refine .inr ⟨go1, fun σ4 H4 => ∃ τ2 M2, Good H1 M1 H4 M2 ∧ Slots X.K H4 M2 σ4 τ2 ∧ Mut X.K H4 M2 ∧ Iv (i + 1) τ2 M2, fun σ' H' w => ⟨xs.length - (i + 1), by omega, rfl, hlt, w⟩, fun x H3 y => ?_⟩
      obtain ⟨g3, mu3, rx⟩ := yl x H3 y
      refine ⟨_, τ2, M2, _, rx, sl2.good g3, mu3, step i xs[i] τ2 M2 (by simp [hlt]) iv, fun σ4 H4 τ4 M4 g4 sl4 mu4 n => ?_⟩
      have gg := (g2.trans g3).trans g4
      refine ⟨τ4, M4, { F with nx := fun τ4 M4 => Iv (i + 1) τ4 M4, ct := fun τ4 M4 => Iv (i + 1) τ4 M4, bk := F.nx }, (g0.trans g1).trans gg, sl4, mu4, n, ?_, fun v H' q => k2 v H' ((q.tr gg).tr g1), fun σ' H' q => k1 σ' H' ((q.tr gg).tr g1), ?_⟩
      all_goals
        rintro σ5 H5 ⟨τ5, M5, g5, sl5, mu5, iv5⟩
        exact ⟨τ5, M5, gg.trans g5, sl5, mu5, iv5⟩
    · have e : i = xs.length := by omega
      subst e
      exact .inl ⟨stop, k1 _ _ ⟨τ2, M2, g1.trans g2, sl2, mu2, done τ2 M2 iv⟩⟩⟩

/-! ### list comprehensions -/
def wipeD (τ : EnvD) : List Nat → EnvD
  | [] => τ
  | v :: vs => setN (wipeD τ vs) v none
theorem slots_wipe {K : PySem.W.Frag} {H : Hp} {M : MH} {σ : L2.St} {τ : EnvD} (h : Slots K H M σ τ) : ∀ vs, Slots K H M (wipe σ vs) (wipeD τ vs)
  | [] => h
  | v :: vs => by unfold wipe wipeD; rw [setN_eq]; exact (slots_wipe h vs).unset
/-- a target of names alone, among vs -/
def TgtOk (K : PySem.W.Frag) (g : TG) (gd : TGD) (vs : List Nat) : Prop := ∀ v d σ τ H M Q N, Rep K H M v d → Slots K H M σ τ → gd d τ M N → (∀ σ' τ', Slots K H M σ' τ' → wipe σ' vs = wipe σ vs → N τ' M → Q σ' H) → g v σ H Q
theorem wipe_set {x : Option V} {i : Nat} : ∀ {vs : List Nat} {σ : L2.St}, i ∈ vs → wipe (σ.set i x) vs = wipe σ vs
  | v :: vs, σ, h => by
    unfold wipe
    by_cases e : i ∈ vs
    · rw [wipe_set e]
    · have ev : v = i := by
        rcases List.mem_cons.mp h with h | h
        · exact h.symm
        · exact absurd h e
      subst ev
      have q : ∀ (ws : List Nat) (σ : L2.St), v ∉ ws → wipe (σ.set v x) ws = (wipe σ ws).set v x := fun ws => by
        induction ws with
        | nil => intro σ _; rfl
        | cons w ws ih =>
          intro σ hn
          have n1 : w ≠ v := fun e => hn (by rw [e]; exact List.mem_cons_self)
          unfold wipe
          rw [ih σ fun z => hn (List.mem_cons_of_mem _ z), List.set_comm _ _ (Ne.symm n1)]
      rw [q vs σ e, List.set_set]
theorem wipe_sub {vs : List Nat} {σ : L2.St} : ∀ {us : List Nat}, (∀ u ∈ us, u ∈ vs) → wipe (wipe σ us) vs = wipe σ vs
  | [], _ => rfl
  | u :: us, h => by
    show wipe ((wipe σ us).set u none) vs = _
    rw [wipe_set (h u List.mem_cons_self)]
    exact wipe_sub fun w hw => h w (List.mem_cons_of_mem _ hw)
theorem tgt_name {K : PySem.W.Frag} {i : Nat} {vs : List Nat} (hi : i ∈ vs) : TgtOk K (gName i) (gNameD i) vs := fun v d σ τ H M Q N r sl h k => k _ (setN τ i (some d)) (by rw [setN_eq]; exact sl.set r) (wipe_set hi) h
def TgtsOk (K : PySem.W.Frag) (g : TGs) (gd : TGsD) (vs : List Nat) : Prop := ∀ xs ds σ τ H M Q N, Reps K H M xs ds → Slots K H M σ τ → gd ds τ M N → (∀ σ' τ', Slots K H M σ' τ' → wipe σ' vs = wipe σ vs → N τ' M → Q σ' H) → g xs σ H Q
theorem tgts_nil {K : PySem.W.Frag} {vs : List Nat} : TgtsOk K gNil gNilD vs := fun xs ds σ τ H M Q N r sl h k => by
  cases r with
  | nil => exact ⟨rfl, k σ τ sl rfl h⟩
  | cons _ _ => exact h.elim
theorem tgts_cons {K : PySem.W.Frag} {vs : List Nat} {g : TG} {gd : TGD} {gs : TGs} {gds : TGsD} (h1 : TgtOk K g gd vs) (h2 : TgtsOk K gs gds vs) : TgtsOk K (gCons g gs) (gConsD gd gds) vs := fun xs ds σ τ H M Q N r sl h k => by
  cases r with
  | nil => exact h.elim
  | cons r rs => exact ⟨_, _, rfl, h1 _ _ σ τ H M _ _ r sl h fun σ1 τ1 sl1 w1 h1' => h2 _ _ σ1 τ1 H M _ _ rs sl1 h1' fun σ2 τ2 sl2 w2 h2' => k σ2 τ2 sl2 (w2.trans w1) h2'⟩
/-- a tuple of names: what is walked are tuples -/
theorem tgt_tup {K : PySem.W.Frag} {vs : List Nat} {gs : TGs} {gds : TGsD} {n : Nat} (h1 : TgtsOk K gs gds vs) : TgtOk K (gTup K n gs) (fun d τ M N => match d with | .tup xs => xs.length = n ∧ gds xs τ M N | _ => False) vs := fun v d σ τ H M Q N r sl h k => by
  cases r with
  | tup rr rs => exact ⟨_, _, rfl, rr.sq, by rw [rs.length]; exact h.1, h1 _ _ σ τ H M Q N rs sl h.2 k⟩
  | _ => exact h.elim

def noW : WD := fun _ _ _ _ => False
theorem at_no {X : Cx} {H0 : Hp} {M0 : MH} {pn : List (Addr × Obj)} : At X pn (fun _ _ => False) H0 M0 noW :=
  ⟨fun u s' ⟨a, B, sI, pins, σ, H, cls, d, e, I, nb, up, sky, na, os, ag, w⟩ => (let ⟨_, _, _, _, _, _, _, _, _, q⟩ := w; q).elim, PassesOwn.never⟩
/-- the tests of a comprehension: none, one -/
def PDTs (X : Cx) (ifs : List Expr) (t : TTD) : Prop := ∀ H0 M0, PTs (X.tr [] fun _ _ => False) ifs (upT X.K H0 M0 noW t)
def tYesD : TTD := fun _ _ M Q => Q true M
theorem pdts_nil : PDTs X [] tYesD := fun H0 M0 => ⟨fun pins s σ H Q I ⟨τ, M, F, g0, sl, mu, h, k⟩ => pts_nil.run pins s σ H Q I (k true H M .refl mu h)⟩
theorem pdts_one {c : Expr} {t : TTD} (h : PDT X c t) : PDTs X [c] t := fun H0 M0 => pts_one (h [] _ H0 M0 noW at_no)
def tLcD (ti : TAD) (gd : TGD) (tt : TTD) (te : TED) (vs : List Nat) : TED := fun W τ M Q => ti W τ M fun xs M1 => ∀ p, M1 p = none → ∃ Iv : Nat → MH → Prop, Iv 0 (mput M1 p (.lst [])) ∧
  (∀ i x M2, xs[i]? = some x → Iv i M2 → gd x (wipeD τ vs) M2 fun τ2 M3 => tt noW τ2 M3 fun b M4 => (b = true → te noW τ2 M4 fun y M5 => match M5 p with | some (.lst acc) => acc.length < 16777216 ∧ Iv (i + 1) (mput M5 p (.lst (acc ++ [y]))) | _ => False) ∧ (b = false → Iv (i + 1) M4)) ∧
  (∀ M2, Iv xs.length M2 → match M2 p with | some (.lst acc) => Q (.lst acc) (mdel M2 p) | _ => False)
theorem pd_lc {elt tg iter : Expr} {ifs : List Expr} {scope : Scope} {own : List (Str × Nat)} {ti : TAD} {g : TG} {gd : TGD} {tt : TTD} {te : TED} (hc : X.calm = true) (hN : X.N.Nodup) (hi : PDI X tg iter ti) (ok : BlkOk X.N X.env.scope scope own)
    (hg : ∀ (s : Shared) (H : Hp) (C : Addr) (cl : List (Str × Addr)) (fp : List Addr), PG (X.blk s H scope (compEnvC scope cl C X.env) fp) tg g) (hgd : TgtOk X.K g gd (own.map (·.2)))
    (ht : ∀ (s : Shared) (H : Hp) (C : Addr) (cl : List (Str × Addr)) (fp : List Addr), PDTs (X.blk s H scope (compEnvC scope cl C X.env) fp) ifs tt)
    (he : ∀ (s : Shared) (H : Hp) (C : Addr) (cl : List (Str × Addr)) (fp : List Addr), PD (X.blk s H scope (compEnvC scope cl C X.env) fp) elt te) (hs : ∀ x, foldedSetIterable iter X.env x = pure x := by intro _; rfl) :
    PD X (.ListComp elt [⟨tg, iter, ifs, 0⟩] scope pos) (tLcD ti gd tt te (own.map (·.2))) := fun pn xe H0 M0 W at_ =>
  imE (pe_lc (X := X.tr pn xe) (te := upE X.K H0 M0 noW te) (tt := upT X.K H0 M0 noW tt) hc hN (hi pn xe H0 M0 W at_) ok hg (fun s H C cl fp => ht s H C cl fp H0 M0) (fun s H C cl fp => he s H C cl fp [] _ H0 M0 noW at_no) hs) fun σ H Q ⟨τ, M, F, g0, sl, mu, h, k⟩ => ⟨τ, M, _, g0, sl, mu, h, fun J H1 xs M1 g1 mu1 it q => by
    intro p hp
    obtain ⟨Iv, i0, step, done⟩ := q p (mut_none mu1 hp)
    refine ⟨fun i m H2 => m = xs.length - i ∧ i ≤ xs.length ∧ ∃ M2, Good H1 M1 H2 M2 ∧ Mut X.K H2 M2 ∧ Iv i M2, ⟨_, rfl, Nat.zero_le _, mput M1 p (.lst []), good_put hp, mut_put mu1 hp (.lst .nil), i0⟩, ?_⟩
    rintro i m H2 ⟨rfl, hi, M2, g2, mu2, iv⟩
    obtain ⟨go, stop⟩ := it H2 M2 g2 mu2
    by_cases hlt : i < xs.length
    · obtain ⟨go1, yl⟩ := go i xs[i] (by simp [hlt])
      refine .inr ⟨go1, fun H4 => ∃ M4, Good H1 M1 H4 M4 ∧ Mut X.K H4 M4 ∧ Iv (i + 1) M4, fun H' w => ⟨xs.length - (i + 1), by omega, rfl, hlt, w⟩, fun x H3 y => ?_⟩
      obtain ⟨g3, mu3, rx⟩ := yl x H3 y
      have gg := g1.trans (g2.trans g3)
      refine hgd _ _ _ _ H3 M2 _ _ rx (slots_wipe (sl.good gg) _) (step i xs[i] M2 (by simp [hlt]) iv) fun σ4 τ4 sl4 w4 n => ⟨w4.trans (wipe_sub fun _ h => h), τ4, M2, _, g0.trans gg, sl4, mu3, n, fun b H5 M5 g5 mu5 nb => ?_⟩
      cases b with
      | false =>
        rw [if_neg Bool.false_ne_true]
        exact ⟨M5, (g2.trans g3).trans g5, mu5, nb.2 rfl⟩
      | true =>
        rw [if_pos rfl]
        refine ⟨τ4, M5, _, (g0.trans gg).trans g5, sl4.good g5, mu5, nb.1 rfl, fun v H6 d M6 g6 mu6 r6 n6 => ?_⟩
        split at n6
        · rename_i acc ea
          obtain ⟨ho, e, rm⟩ := mu6 _ _ ea
          cases rm with
          | lst rs => exact ⟨_, e, by rw [rs.length, sizeLine_eq]; exact n6.1, mput M6 p (.lst (acc ++ [d])), (((g2.trans g3).trans g5).trans g6).trans (good_write ea), mut_write mu6 ea (.lst (rs.append (.cons r6 .nil))), n6.2⟩
        · exact n6.elim
    · have e : i = xs.length := by omega
      subst e
      have dn := done M2 iv
      split at dn
      · rename_i acc ea
        obtain ⟨ho, e, rm⟩ := mu2 _ _ ea
        cases rm with
        | lst rs => exact .inl ⟨stop, k _ H2 _ _ ((g1.trans g2).trans good_del) (mut_del mu2) (.lst (.inl ⟨mdel_same, .inl e⟩) (rs.good good_del)) dn⟩
      · exact dn.elim⟩
/-- where the item's value is told by its place, whatever stands elsewhere -/
theorem mdel_mput {M : MH} {p : Addr} {o : MO} (h : M p = none) : mdel (mput M p o) p = M := by
  funext b
  by_cases e : b = p
  · subst e; rw [mdel_same, h]
  · rw [mdel_ne e, mput_ne e]
theorem mput_mput {M : MH} {p : Addr} {o o' : MO} : mput (mput M p o) p o' = mput M p o' := by
  funext b
  by_cases e : b = p
  · subst e; rw [mput_same, mput_same]
  · rw [mput_ne e, mput_ne e, mput_ne e]
theorem lc_pure {ti : TAD} {gd : TGD} {tt : TTD} {te : TED} {vs : List Nat} {W : WD} {τ : EnvD} {M : MH} {Q : QD} (xs : List D) (f : D → D) (c : D → Bool) (hl : xs.length ≤ 16777216) (M1 : MH)
    (hx : ∀ x ∈ xs, ∀ M2 (R : EnvD → MH → Prop), (∀ τ2, (∀ R2 : Bool → MH → Prop, R2 (c x) M2 → tt noW τ2 M2 R2) → (c x = true → ∀ R3 : QD, R3 (f x) M2 → te noW τ2 M2 R3) → R τ2 M2) → gd x (wipeD τ vs) M2 R)
    (hq : Q (.lst ((xs.filter c).map f)) M1) (hi : ∀ R : List D → MH → Prop, R xs M1 → ti W τ M R) : tLcD ti gd tt te vs W τ M Q := by
  refine hi _ fun p hp => ⟨fun i M2 => M2 = mput M1 p (.lst (((xs.take i).filter c).map f)), rfl, ?_, ?_⟩
  · rintro i x M2 hx' rfl
    have hi' : i < xs.length := (List.getElem?_eq_some_iff.mp hx').1
    have htk : xs.take (i + 1) = xs.take i ++ [x] := by rw [List.take_add_one, hx']; rfl
    refine hx x (List.mem_of_getElem? hx') _ _ fun τ2 h1 h2 => h1 _ ⟨fun hb => h2 hb _ ?_, fun hb => ?_⟩
    · rw [mput_same]
      refine ⟨?_, ?_⟩
      · have : (((xs.take i).filter c).map f).length ≤ i := by
          rw [List.length_map]
          exact Nat.le_trans (List.length_filter_le _ _) (by rw [List.length_take]; omega)
        omega
      · rw [mput_mput]
        show mput M1 p (.lst (((xs.take i).filter c).map f ++ [f x])) = mput M1 p (.lst (((xs.take (i + 1)).filter c).map f))
        rw [htk, List.filter_append, List.map_append]
        simp [hb]
    · show mput M1 p (.lst (((xs.take i).filter c).map f)) = mput M1 p (.lst (((xs.take (i + 1)).filter c).map f))
      rw [htk, List.filter_append]
      simp [hb]
  · rintro M2 rfl
    rw [mput_same]
    show Q _ _
    rw [mdel_mput hp, List.take_length]
    exact hq
end
end Z

set_option Elab.async false
set_option linter.all false
set_option maxRecDepth 100000
set_option maxHeartbeats 4000000
namespace Z
open PySem L2

section
variable {X : Cx} {a b e : Expr} {es : List Expr} {ta tb te : TED} {ts : TAD} {pos p p2 : Pos}
/-! ### slices of lists -/
def tPartD (t : TED) : WD → EnvD → MH → (Option Int → MH → Prop) → Prop := fun W τ M Q => t W τ M fun d M1 => match d with | .int i => Q (some i) M1 | _ => False
def tNoPartD : WD → EnvD → MH → (Option Int → MH → Prop) → Prop := fun _ _ M Q => Q none M
def upO (K : PySem.W.Frag) (H0 : Hp) (M0 : MH) (W : WD) (t : WD → EnvD → MH → (Option Int → MH → Prop) → Prop) : L2.TO := fun σ H Q => ∃ τ M F, Good H0 M0 H M ∧ Slots K H M σ τ ∧ Mut K H M ∧ t W τ M F ∧ ∀ o H' M', Good H M H' M' → Mut K H' M' → F o M' → Q o H'
def PDO (X : Cx) (e : Option Expr) (t : WD → EnvD → MH → (Option Int → MH → Prop) → Prop) : Prop := ∀ pn xe H0 M0 W, At X pn xe H0 M0 W → PO (X.tr pn xe) e (upO X.K H0 M0 W t)
theorem imO {e : Option Expr} {t t' : L2.TO} (h : PO X e t) (i : ∀ σ H Q, t' σ H Q → t σ H Q) : PO X e t' := ⟨fun pins s σ H Q I q => h.run pins s σ H Q I (i σ H Q q)⟩
theorem pdo_none : PDO X none tNoPartD := fun pn xe H0 M0 W at_ => imO po_none fun σ H Q ⟨τ, M, F, g0, sl, mu, h, k⟩ => k none H M .refl mu h
theorem pdo_some (h : PD X e te) : PDO X (some e) (tPartD te) := fun pn xe H0 M0 W at_ => imO (po_some (h pn xe H0 M0 W at_)) fun σ H Q ⟨τ, M, F, g0, sl, mu, h, k⟩ => upE_fin g0 sl mu h fun v H1 d M1 g1 mu1 r1 q => by
  cases r1 with
  | int i => exact ⟨i, rfl, k (some i) H1 M1 g1 mu1 q⟩
  | _ => exact q.elim
def cutD (xs : List D) (lo hi : Option Int) : List D := (xs.drop (HT.sIx xs.length 0 lo)).take (HT.sIx xs.length xs.length hi - HT.sIx xs.length 0 lo)
theorem reps_cut {K : PySem.W.Frag} {H : Hp} {M : MH} {vs : List V} {xs : List D} (l u : Option Int) (rs : Reps K H M vs xs) : Reps K H M (cutV vs l u) (cutD xs l u) := by
  unfold cutV cutD
  rw [rs.length]
  exact (rs.drop _).take _
def tSlD (t : TED) (tl th : WD → EnvD → MH → (Option Int → MH → Prop) → Prop) : TED := fun W τ M Q => t W τ M fun d M1 => tl W τ M1 fun l M2 => th W τ M2 fun u M3 => match d with | .lst xs => Q (.lst (cutD xs l u)) M3 | _ => False
theorem pd_slice {lo hi : Option Expr} {tl th : WD → EnvD → MH → (Option Int → MH → Prop) → Prop} (he : PD X e te) (hl : PDO X lo tl) (hu : PDO X hi th) : PD X (.Subscript e (.Slice lo hi none p2) pos) (tSlD te tl th) := fun pn xe H0 M0 W at_ =>
  imE (pe_slice sl_list (he pn xe H0 M0 W at_) (hl pn xe H0 M0 W at_) (hu pn xe H0 M0 W at_)) fun σ H Q ⟨τ, M, F, g0, sl, mu, h, k⟩ => upE_fin g0 sl mu h fun v H1 d M1 g1 mu1 r1 q =>
    ⟨τ, M1, _, g0.trans g1, sl.good g1, mu1, q, fun l H2 M2 g2 mu2 q2 => ⟨τ, M2, _, (g0.trans g1).trans g2, (sl.good g1).good g2, mu2, q2, fun u H3 M3 g3 mu3 q3 => by
      cases r1 with
      | lst rr rs =>
        have g := g2.trans g3
        refine ⟨_, _, rfl, (rr.good g).sq, fun q hq => ?_⟩
        exact k _ _ _ M3 ((g1.trans g).trans (good_new hq)) (mut_new mu3 hq) (rep_lst mu3 hq (reps_cut l u (rs.good g))) q3
      | _ => exact q3.elim⟩⟩

/-! ### isinstance with built-in types -/
inductive Tag where | int | bool | str | list | tuple | dict
def tagStr : Tag → String | .int => "int" | .bool => "bool" | .str => "str" | .list => "list" | .tuple => "tuple" | .dict => "dict"
def isTag (T : Tag) (d : D) : Option Bool := match d with
  | .non => some false
  | .bl _ => some (match T with | .int => true | .bool => true | _ => false)
  | .int _ => some (match T with | .int => true | _ => false)
  | .str _ => some (match T with | .str => true | _ => false)
  | .flt _ => some false
  | .lst _ => some (match T with | .list => true | _ => false)
  | .tup _ => some (match T with | .tuple => true | _ => false)
  | .dct _ => some (match T with | .dict => true | _ => false)
  | _ => none
def tyName : D → String | .non => "NoneType" | .bl _ => "bool" | .int _ => "int" | .str _ => "str" | .flt _ => "float" | .lst _ => "list" | .tup _ => "tuple" | .dct _ => "dict" | _ => ""
theorem isTag_kit {T : Tag} {d : D} {b : Bool} (h : isTag T d = some b) : kitB (tyName d) (tagStr T) = some b := by
  cases d <;> cases T <;> cases h <;> (dsimp only [tyName, tagStr]; decide +kernel)
theorem rep_ty {K : PySem.W.Frag} {H : Hp} {M : MH} {v : V} {d : D} {T : Tag} {b : Bool} (r : Rep K H M v d) (h : isTag T d = some b) : TyX K H v (.type (tyName d)) := by
  cases r with
  | non => exact .base .non
  | bl b => exact .base (.bl b)
  | int i => exact .base (.int i)
  | str x => exact .base (.str x)
  | flt x => exact .base (.flt x)
  | lst rr rs =>
    rcases rr with ⟨_, rr | ⟨o, rr⟩⟩ | ⟨o, its, n, h1, h2, _⟩
    · exact .base (.lst rr)
    · exact .base (.frz rr)
    · exact .kList h1 h2
  | tup rr rs =>
    rcases rr with ⟨_, rr | ⟨o, rr⟩⟩ | ⟨o, its, n, h1, h2, _⟩
    · exact .base (.tup rr)
    · exact .fTuple rr
    · exact .kTuple h1 h2
  | dct m e rs => exact .base (.dK e)
  | _ => cases h
def tIs (f : D → Option Bool) (t : TED) : TED := fun W τ M Q => t W τ M fun d M1 => match f d with | some b => Q (.bl b) M1 | none => False
theorem pd_isA {c : Expr} {T : Tag} (hm : X.mg "isinstance" = none) (ha : PD X a ta) (hc : ∀ pn xe, PE (X.tr pn xe) c (tC (.ty (tagStr T)))) (hg : Gl X "isinstance" := by rfl) (he : starEach [a, c] X.env = (false, eval a X.env) :: starEach [c] X.env := by rfl) (he2 : starEach [c] X.env = [(false, eval c X.env)] := by rfl)
    (hpl : (backTo pos (starEach [c] X.env)).any (·.1) = false := by rfl) : PD X (.Call (.Name "isinstance" p) [a, c] [] pos) (tIs (isTag T) ta) := fun pn xe H0 M0 W at_ =>
  imE (pe_callB (X := X.tr pn xe) call_isi hg hm (by decide +kernel) (pa_cons (ha pn xe H0 M0 W at_) (pa_cons (hc pn xe) pa_nil he2) he) (by decide) (by decide) he hpl) fun σ H Q ⟨τ, M, F, g0, sl, mu, h, k⟩ => upE_fin g0 sl mu h fun v H1 d M1 g1 mu1 r1 q => by
    cases e : isTag T d with
    | none => rw [e] at q; exact q.elim
    | some r =>
      rw [e] at q
      exact ⟨_, _, _, _, r, rfl, .ty _, rep_ty r1 e, kit_ty (isTag_kit e), k _ _ _ _ g1 mu1 (.bl _) q⟩
theorem pe_tag {x : Str} {n : String} (hm : X.mg x = none) (hv : bootBuiltins x = some (.type n) := by decide +kernel) (hg : Gl X x := by rfl) (hn : x ≠ "__name__" := by decide) (hd : (x == ("__debug__" : Str)) = false := by decide) : ∀ pn xe, PE (X.tr pn xe) (.Name x p) (tC (.ty n)) :=
  fun pn xe => pe_bltn (X := X.tr pn xe) (v := .ty n) hg hm hv rfl hn hd
/-- isinstance(x, (list, tuple)) and its like -/
def isTag2 (T T' : Tag) (d : D) : Option Bool := match isTag T d, isTag T' d with | some b, some c => some (b || c) | _, _ => none
theorem pd_isA2 {c c' : Expr} {T T' : Tag} {x1} {p3 : Pos} (hm : X.mg "isinstance" = none) (ha : PD X a ta) (hc : ∀ pn xe, PE (X.tr pn xe) c (tC (.ty (tagStr T)))) (hc' : ∀ pn xe, PE (X.tr pn xe) c' (tC (.ty (tagStr T')))) (hg : Gl X "isinstance" := by rfl)
    (he : starEach [a, .Tuple [c, c'] x1 p3] X.env = (false, eval a X.env) :: starEach [.Tuple [c, c'] x1 p3] X.env := by rfl) (he2 : starEach [.Tuple [c, c'] x1 p3] X.env = [(false, eval (.Tuple [c, c'] x1 p3) X.env)] := by rfl) (he3 : starEach [c, c'] X.env = (false, eval c X.env) :: starEach [c'] X.env := by rfl) (he4 : starEach [c'] X.env = [(false, eval c' X.env)] := by rfl)
    (hpl : (backTo pos (starEach [.Tuple [c, c'] x1 p3] X.env)).any (·.1) = false := by rfl) : PD X (.Call (.Name "isinstance" p) [a, .Tuple [c, c'] x1 p3] [] pos) (tIs (isTag2 T T') ta) := fun pn xe H0 M0 W at_ =>
  imE (pe_callB (X := X.tr pn xe) call_isiT hg hm (by decide +kernel) (pa_cons (ha pn xe H0 M0 W at_) (pa_cons (pe_tup (pa_cons (hc pn xe) (pa_cons (hc' pn xe) pa_nil he4) he3)) pa_nil he2) he) (by decide) (by decide) he hpl) fun σ H Q ⟨τ, M, F, g0, sl, mu, h, k⟩ => upE_fin g0 sl mu h fun v H1 d M1 g1 mu1 r1 q => by
    refine ⟨by show 2 ≤ sizeLine; decide, fun t ht => ?_⟩
    unfold isTag2 at q
    cases e : isTag T d with
    | none => rw [e] at q; exact q.elim
    | some r =>
      cases e' : isTag T' d with
      | none => rw [e, e'] at q; exact q.elim
      | some r' =>
        rw [e, e'] at q
        have r2 := r1.good (good_new (o := .tup [.ty (tagStr T), .ty (tagStr T')]) ht)
        refine ⟨_, t, _, _, _, (r || r'), rfl, upd_same, .cons (.ty _) (.cons (.ty _) .nil), rep_ty r2 e, ?_, k _ _ _ _ (g1.trans (good_new ht)) (mut_new mu1 ht) (.bl _) q⟩
        exact kitAny_cons (kit_ty (isTag_kit e)) (fun h0 => kitAny_cons (kit_ty (isTag_kit e')) (fun h1 => by rw [h0, h1]; exact kitAny_nil) (fun h1 => by rw [h1, Bool.or_true])) (fun h0 => by rw [h0, Bool.true_or])

/-! ### tuple(x) -/
def tTupOf (t : TED) : TED := fun W τ M Q => t W τ M fun d M1 => match seqD d with | some xs => Q (.tup xs) M1 | none => False
theorem pd_tupOf (hm : X.mg "tuple" = none) (ha : PD X a ta) (hg : Gl X "tuple" := by rfl) (na : starEach [a] X.env = (false, eval a X.env) :: starEach [] X.env := by rfl) : PD X (.Call (.Name "tuple" p) [a] [] pos) (tTupOf ta) := fun pn xe H0 M0 W at_ =>
  imE (pe_tupleOf (X := X.tr pn xe) hg hm (ha pn xe H0 M0 W at_) na) fun σ H Q ⟨τ, M, F, g0, sl, mu, h, k⟩ => upE_fin g0 sl mu h fun v H1 d M1 g1 mu1 r1 q => by
    cases r1 with
    | lst rr rs => exact .inl ⟨_, _, rfl, rr.sq, fun w hw => k _ _ _ M1 (g1.trans (good_new hw)) (mut_new mu1 hw) (rep_tup mu1 hw rs) q⟩
    | tup rr rs => exact .inr ⟨_, _, rfl, rr.sq, k _ _ _ M1 g1 mu1 (.tup rr rs) q⟩
    | _ => exact q.elim

/-! ### a, b = x, y; while; name op= e -/
def tParD (i j : Nat) (t : TAD) : TSD := fun W F τ M => t W τ M fun ds M1 => match ds with | [d, e] => F.nx (setN (setN τ i (some d)) j (some e)) M1 | _ => False
theorem pds_par {i j : Nat} {x y : Str} {px py pt : Pos} {kt k2 pt2} (hc : X.calm = true) (hN : X.N.Nodup) (ha : PDA X [a, b] ts) (hi : X.N[i]? = some x := by rfl) (hj : X.N[j]? = some y := by rfl) (hij : i ≠ j := by decide)
    (hx : X.env.scope.names.lookup x = some .local := by rfl) (hy : X.env.scope.names.lookup y = some .local := by rfl)
    (hw : swappedStores [.Tuple [.Name x px, .Name y py] kt pt] (.Tuple [a, b] k2 pt2) X.env = pure (some [x, y]) := by rfl)
    (hs : swapsWithSole [.Tuple [.Name x px, .Name y py] kt pt] (.Tuple [a, b] k2 pt2) pos.line X.env = pure false := by rfl) :
    PDS X (.Assign [.Tuple [.Name x px, .Name y py] kt pt] (.Tuple [a, b] k2 pt2) pos) (tParD i j ts) := fun pn xe H0 M0 W at_ =>
  imS (ps_par (X := X.tr pn xe) hc hN hi hj hij hx hy (ha pn xe H0 M0 W at_) hw hs) fun D σ H ⟨τ, M, F, g0, sl, mu, h, k1, k2, k3, k4⟩ => ⟨τ, M, _, g0, sl, mu, h, fun vs H1 ds M1 g1 mu1 r q => by
    split at q
    · cases r with
      | cons r rs => cases rs with
        | cons r' rs' => cases rs'; exact ⟨_, _, rfl, k1 _ _ ⟨_, M1, g1, by rw [setN_eq, setN_eq]; exact ((sl.good g1).set r).set r', mu1, q⟩⟩
    · exact q.elim⟩
/-- while, by an invariant with its measure -/
def tWhileD (c : TTD) (body : TSD) : TSD := fun W F τ M => ∃ (Iv : EnvD → MH → Prop) (m : EnvD → MH → Nat), Iv τ M ∧ ∀ τ' M', Iv τ' M' → c W τ' M' fun b M1 =>
  (b = true → body W { F with nx := fun τ2 M2 => Iv τ2 M2 ∧ m τ2 M2 < m τ' M', ct := fun τ2 M2 => Iv τ2 M2 ∧ m τ2 M2 < m τ' M', bk := F.nx } τ' M1) ∧ (b = false → F.nx τ' M1)
theorem pds_while {c : Expr} {body : List Stmt} {tc : TTD} {tb : TSD} (hc : PDT X c tc) (hb : PDB X body tb) : PDS X (.While c body [] pos) (tWhileD tc tb) := fun pn xe H0 M0 W at_ =>
  imS (ps_while (X := X.tr pn xe) at_.po (hc pn xe H0 M0 W at_) (hb pn xe H0 M0 W at_)) fun D σ H ⟨τ, M, F, g0, sl, mu, ⟨Iv, m, i0, step⟩, k1, k2, k3, k4⟩ => by
    refine ⟨fun n σ2 H2 => ∃ τ2 M2, n = m τ2 M2 ∧ Good H M H2 M2 ∧ Slots X.K H2 M2 σ2 τ2 ∧ Mut X.K H2 M2 ∧ Iv τ2 M2, ⟨_, τ, M, rfl, .refl, sl, mu, i0⟩, ?_⟩
    rintro n σ2 H2 ⟨τ2, M2, rfl, g2, sl2, mu2, iv⟩
    refine ⟨τ2, M2, _, g0.trans g2, sl2, mu2, step τ2 M2 iv, fun b H3 M3 g3 mu3 q => ?_⟩
    cases b with
    | true =>
      rw [if_pos rfl]
      refine ⟨fun σ4 H4 => ∃ τ4 M4, m τ4 M4 < m τ2 M2 ∧ Good H M H4 M4 ∧ Slots X.K H4 M4 σ4 τ4 ∧ Mut X.K H4 M4 ∧ Iv τ4 M4, fun σ4 H4 ⟨τ4, M4, l, w⟩ => ⟨_, l, τ4, M4, rfl, w⟩, ?_⟩
      refine ⟨τ2, M3, _, (g0.trans g2).trans g3, sl2.good g3, mu3, q.1 rfl, ?_, fun v H' z => k2 v H' ((z.tr g3).tr g2), fun σ' H' z => k1 σ' H' ((z.tr g3).tr g2), ?_⟩
      all_goals
        rintro σ5 H5 ⟨τ5, M5, g5, sl5, mu5, iv5, l5⟩
        exact ⟨τ5, M5, l5, (g2.trans g3).trans g5, sl5, mu5, iv5⟩
    | false =>
      rw [if_neg Bool.false_ne_true]
      exact k1 _ _ ⟨τ2, M3, g2.trans g3, sl2.good g3, mu3, q.2 rfl⟩
end

/-! ### repr of data -/
theorem toPy_noDict : (∀ d p, toPy d = some p → p.hasDict = false) := by
  intro d
  refine D.rec (motive_1 := fun d => ∀ p, toPy d = some p → p.hasDict = false) (motive_2 := fun ds => ∀ ps, toPys ds = some ps → PyData.hasDictAll ps = false) (motive_3 := fun _ => True) (motive_4 := fun _ => True) (motive_5 := fun _ => True) (motive_6 := fun _ => True) ?_ ?_ ?_ ?_ ?_ ?_ ?_ ?_ ?_ ?_ ?_ ?_ ?_ ?_ ?_ ?_ ?_ ?_ ?_ ?_ d
  all_goals (try (intros; trivial))
  all_goals (try (intros; rename_i h; simp only [toPy, toPys] at h; cases h; simp [PyData.hasDict, PyData.hasDictAll]; done))
  · intro xs ih p h
    simp only [toPy] at h
    cases e : toPys xs with
    | none => rw [e] at h; cases h
    | some ps => rw [e] at h; cases h; simpa [PyData.hasDict] using ih ps e
  · intro xs ih p h
    simp only [toPy] at h
    cases e : toPys xs with
    | none => rw [e] at h; cases h
    | some ps => rw [e] at h; cases h; simpa [PyData.hasDict] using ih ps e
  · intro x xs ih1 ih2 ps h
    simp only [toPys] at h
    cases e1 : toPy x with
    | none => rw [e1] at h; cases h
    | some q =>
      cases e2 : toPys xs with
      | none => rw [e1, e2] at h; cases h
      | some qs => rw [e1, e2] at h; cases h; simp [PyData.hasDictAll, ih1 q e1, ih2 qs e2]
/-- what repr asks of data, and what it gives -/
def okRepr (p : PyData) : Prop := p.showable = true ∧ p.shown.length ≤ 16777216 ∧ p.depth ≤ 64
def tReprD (t : TED) : TED := fun W τ M Q => t W τ M fun d M1 => match toPy d with | some p => okRepr p ∧ Q (.str p.shown) M1 | none => False
section
variable {X : Cx}
theorem repr_val {pins : List (Addr × Obj)} {σ : L2.St} {H : Hp} {s : Shared} {v : V} {u : Value} {d : D} {p : PyData} {M : MH} {Q : VK} (I : Inv X pins σ H s) (hgd : X.A.guards = some []) (hu : X.A.units + 66 < cLine) (r : RelV v u) (rp : Rep X.K H M v d) (e : toPy d = some p) (ok : okRepr p) (q : Q (.str p.shown) H) :
    wpAny (model X.prog X.w) X.A (call (.builtin "repr") [u]) (EP X pins σ Q) X.xe s := by
  obtain ⟨h1, h2, h3⟩ := ok
  have h2' : p.shown.length ≤ sizeLine := by rw [sizeLine_eq]; exact h2
  obtain ⟨as, rd⟩ := Dp.reads I p v u (toPy_dp rp e) r
  have done : ∀ t, EP X pins σ Q (.str p.shown t) { s with toks := s.toks + 1 } := fun t => ⟨.str p.shown, H, I.tok _, ⟨t, rfl⟩, q⟩
  cases rp with
  | non =>
    simp only [toPy] at e; cases e; cases r
    exact PySem.P.repr_of_none (done _)
  | bl b =>
    simp only [toPy] at e; cases e; cases r
    exact PySem.P.repr_of_bool (done _)
  | int i =>
    simp only [toPy] at e; cases e
    obtain ⟨t, rfl⟩ := r
    exact PySem.P.repr_of_int (by simpa [PyData.showable] using h1) (done _)
  | str x =>
    simp only [toPy] at e; cases e
    obtain ⟨t, rfl⟩ := r
    exact PySem.P.repr_of_str (done _) h2'
  | lst _ _ =>
    cases r
    have nd : p.hasDict = true → sysModules ∉ as := fun z => by rw [toPy_noDict _ _ e] at z; cases z
    exact repr_of_reads' rd h1 nd hgd (by omega) (fun _ _ z => z) (fun h' u tk hk => ⟨.str p.shown, H, I.kept hk, ⟨u, rfl⟩, q⟩) h2'
  | tup _ _ =>
    cases r
    have nd : p.hasDict = true → sysModules ∉ as := fun z => by rw [toPy_noDict _ _ e] at z; cases z
    exact repr_of_reads' rd h1 nd hgd (by omega) (fun _ _ z => z) (fun h' u tk hk => ⟨.str p.shown, H, I.kept hk, ⟨u, rfl⟩, q⟩) h2'
  | _ => simp [toPy] at e
theorem pd_repr {a : Expr} {ta : TED} {pos p : Pos} (hgd : X.A.guards = some []) (hu : X.A.units + 66 < cLine) (hm : X.mg "repr" = none) (ha : PD X a ta) (hg : Gl X "repr" := by rfl) (he : starEach [a] X.env = (false, eval a X.env) :: starEach [] X.env := by rfl) (hpl : (backTo pos (starEach [] X.env)).any (·.1) = false := by rfl) :
    PD X (.Call (.Name "repr" p) [a] [] pos) (tReprD ta) := fun pn xe H0 M0 W at_ => by
  refine ⟨fun pins s σ H Q I ⟨τ, M, F, g0, sl, mu, h, k⟩ => ?_⟩
  refine wpAny_Call_Name_kw (ld_blt I hg hm (show bootBuiltins "repr" = some (.builtin "repr") by decide +kernel) ?_ (by decide) (by decide))
  refine PyProof.Rows.callWith_builtin1 (thn ((pa_cons (X := X.tr pn xe) (ha pn xe H0 M0 W at_) pa_nil he).run pos pins s σ H (fun vs H1 => ∃ v d M1 p, vs = [v] ∧ Good H M H1 M1 ∧ Mut X.K H1 M1 ∧ Rep X.K H1 M1 v d ∧ toPy d = some p ∧ okRepr p ∧ F (.str p.shown) M1) I ?_) fun us s1 ⟨vs, H1, I1, r1, v, d, M1, p, ev, g1, mu1, rp, e, ok, q⟩ => ?_) he hpl
  · exact upE_fin g0 sl mu h fun v H1 d M1 g1 mu1 r1 q => by
      cases e : toPy d with
      | none => rw [e] at q; exact q.elim
      | some p => rw [e] at q; exact ⟨v, d, M1, p, rfl, g1, mu1, r1, e, q.1, q.2⟩
  · subst ev
    cases r1 with
    | cons r rs =>
      cases rs
      exact repr_val (X := X.tr pn xe) I1 hgd hu r rp e ok (k _ H1 _ M1 g1 mu1 (.str _) q)
end

/-! ### defs that show data: they ask that no repr is under way -/
structure FnZ (P : Program) (w : World) (K : PySem.W.Frag) (mg : Str → Option Value) (base : Heap) (k : Nat) (f : Addr) (fd : FuncData) (ps : List Str) (sp : SpD) : Prop where
  len : ∀ ds M F E, sp ds M F E → ds.length = ps.length
  run : ∀ (A : Around) (outer : List Env) (s : Shared) (H : Hp) (args : Args) (us : List Value) (vs : List V) (Q : VK) (E : XK), Room k A → A.guards = some [] → Env0 P w K mg base A outer s H → BindsTo s fd args (ps.zip us) → Vals vs us → spOf K sp vs H Q E →
    codeAny (model P w) A (.call (.ref f) args) (CR (L2.CX P w) outer P w H s Q E) s
section
open PyProof.Rows PySem.Spec
variable {P : Program} {w : World} {K : PySem.W.Frag} {mg : Str → Option Value} {base : Heap}
theorem fnZ {x qual : Str} {st : Stmt} {f : Addr} {fd : FuncData} {N ps : List Str} {k : Nat} {sp : SpD} {t : TSD} (F : Fun K x qual st f fd) (S : FnScope N ps (defScope st)) (len : ∀ ds M F E, sp ds M F E → ds.length = ps.length)
    (hb : ∀ (cdv : Value) (A : Around) (outer : List Env) (s : Shared) (H : Hp) (E : XK), Room k (A.deeper (envOfC qual (defScope st) s.heap.objs.size f cdv)) → A.guards = some [] → PDB (cxOf (L2.CX P w) P w K mg base N qual (defScope st) f cdv A outer s H E) (defBody st) t)
    (wp : ∀ ds M F FE, sp ds M F FE → t (fun C fs _ M => FE C fs M) { nx := fun _ M => F .non M, rt := F } (startD N ds) M) : FnZ P w K mg base (k + 1) f fd ps sp := by
  obtain ⟨oc, od, kV, doc, pm, an, cdv, ct, osl, rfl, lk, hcd⟩ := F.ex
  refine ⟨len, fun A outer s H args us vs Q E hr hgd e0 hbd r hsp => ?_⟩
  obtain ⟨ds, M, G, FE, rr, mu, h, kq, ke⟩ := hsp
  have hl : vs.length = ps.length := by rw [rr.length]; exact len _ _ _ _ h
  have old : ∀ b o, base.get? b = some o → s.heap.get? b = some o := fun b o e => (e0.bs b o e).1
  have KX := e0.mod.kin.keeps old
  have lim := e0.mod.nolimit.keeps old
  refine codeAny_call_function hr.depth (KX _ _ lk) rfl S.co S.gen rfl (PySem.W.codeRec_of KX hcd) (hbd _ _ _ _ ?_)
  refine wpAny_newFunctionEnv_cells S.kind (fun y hy => ?_) fun env he s1 x => ?_
  · obtain ⟨n, v⟩ := y
    exact (S.par n (List.of_mem_zip hy).1).imp id fun q => ⟨q, PySem.W.cellsFrom_some _ _ _ (.inl q)⟩
  subst he
  refine ⟨lim.keeps x.toInCall.keep, codeAny_func ?_⟩
  have I := inv_start (CX := L2.CX P w) (w := w) (cd := cdv) (E := E) S hr.hd e0 hl r x
  have at_ : At (cxOf (L2.CX P w) P w K mg base N qual (defScope st) f cdv A outer s H E) (cxOf (L2.CX P w) P w K mg base N qual (defScope st) f cdv A outer s H E).pn (cxOf (L2.CX P w) P w K mg base N qual (defScope st) f cdv A outer s H E).xe H M (fun C fs _ M => FE C fs M) := by
    refine ⟨Takes.imp (takes_of rfl rfl rfl rfl) fun c d σ H' ⟨C, ds', τ, M', e, ex, g, sl, mu', q⟩ => ?_, passes_of rfl⟩
    subst e
    exact ke C ds' d H' M' g mu' ex q
  have body := hb cdv A outer s H E (hr.deeper _) hgd _ _ H M _ at_
  refine wpAny_mono (body.run [] s1 _ H { nx := fun _ H' => Q .non H', rt := Q } I ⟨startD N ds, M, _, .refl, slots_start rr, mu, wp ds M G FE h, ?_, ?_, ?_, ?_⟩) (fun fl s' hs => ?_) fun e s' hs => hs
  · rintro σ' H' ⟨τ, M', g, sl, mu', q⟩
    exact kq _ _ _ _ g mu' .non q
  · rintro v H' ⟨d, M', g, mu', r', q⟩
    exact kq _ _ _ _ g mu' r' q
  · rintro σ' H' ⟨τ, M', g, sl, mu', q⟩
    exact q.elim
  · rintro σ' H' ⟨τ, M', g, sl, mu', q⟩
    exact q.elim
  · have fin : ∀ {σ' : L2.St} {H' : Hp} {v : V} {u : Value}, Inv (cxOf (L2.CX P w) P w K mg base N qual (defScope st) f cdv A outer s H E) [] σ' H' s' → RelV v u → Q v H' → CE outer P w H s Q u s' :=
      fun {σ' H' v u} J rv q => ⟨v, H', J.os, J.bare, J.base, J.hok, rv, q⟩
    cases fl with
    | ret u => obtain ⟨v, σ', H', J, rv, q⟩ := hs; exact fin J rv q
    | next => obtain ⟨σ', H', J, q⟩ := hs; exact fin (v := V.non) (u := Value.none) J rfl q
    | brk => obtain ⟨_, _, _, q⟩ := hs; exact q.elim
    | cont => obtain ⟨_, _, _, q⟩ := hs; exact q.elim
end
theorem FnZ.of {P : Program} {w : World} {K : PySem.W.Frag} {mg : Str → Option Value} {base : Heap} {k : Nat} {f : Addr} {fd : FuncData} {ps : List Str} {sp : SpD} (len : ∀ ds M F E, sp ds M F E → ds.length = ps.length) (h : FnOk P w K mg base (L2.CX P w) k f fd ps (spOf K sp)) : FnZ P w K mg base k f fd ps sp :=
  ⟨len, fun A outer s H args us vs Q E hr _ e0 hb r q => h.run A outer s H args us vs Q E hr e0 hb r q⟩
section
variable {X : Cx} {k : Nat} {f : Addr} {fd : FuncData} {ps : List Str} {sp : SpD} {x : Str} {e : Expr} {es : List Expr} {ta : TAD} {pos p : Pos}
theorem pd_callZ (F : FnZ X.prog X.w X.K X.mg X.base k f fd ps sp) (hr : Room k X.A) (hgd : X.A.guards = some []) (hm : X.mg x = some (.ref f)) (hk : PySem.W.keepIn X.K (.ref f) = true) (hb : Binds X.K fd ps [])
    (ha : PDA X (e :: es) ta) (hg : Gl X x := by rfl) (hdb : (x == ("__debug__" : Str)) = false := by decide) (he : starEach (e :: es) X.env = (false, eval e X.env) :: starEach es X.env := by rfl) (hpl : (backTo pos (starEach es X.env)).any (·.1) = false := by rfl) :
    PD X (.Call (.Name x p) (e :: es) [] pos) (tCallD sp ta) := fun pn xe H0 M0 W at_ => by
  refine ⟨fun pins s σ H Q I ⟨τ, M, G, g0, sl, mu, h, k⟩ => ?_⟩
  refine wpAny_Call_Name_kw (ld_glob I hg hm ?_ hdb)
  refine PySem.W.callWith_K (h₀ := X.base) I.ok.mod.kin hk (thn ((ha pn xe H0 M0 W at_).run pos pins s σ H (fun vs H1 => vs.length = ps.length ∧ spOf X.K sp vs H1 Q (WE (liftW X.K H0 M0 W) σ)) I ?_) fun us s1 ⟨vs, H1, I1, r, hl, q⟩ => ⟨I1.kIn, ?_⟩) he hpl
  · exact ⟨τ, M, _, g0, sl, mu, h, fun vs H1 ds M1 g1 mu1 r1 h1 => ⟨by rw [r1.length]; exact F.len _ _ _ _ h1, sp_of_call (X := X) g0 sl k g1 mu1 r1 h1⟩⟩
  · have hx := passAt at_.tk σ
    have hbd := hb s1 us I1.kIn (by rw [List.append_nil, ← r.length]; exact hl)
    rw [List.append_nil] at hbd
    refine wpAny_call (codeAny_mono (F.run X.A X.stack s1 H1 ⟨us, []⟩ us vs Q (WE (liftW X.K H0 M0 W) σ) hr hgd I1.env0 hbd r q) fun r s' hq => ?_)
    cases r with
    | error e => exact hx pins H1 s1 e s' I1 hq
    | ok fl =>
      cases fl with
      | ret u => exact I1.after hq
      | next => exact hq.elim
      | brk => exact hq.elim
      | cont => exact hq.elim
end
end Z

set_option Elab.async false
set_option linter.all false
set_option maxRecDepth 100000
set_option maxHeartbeats 4000000
namespace Z
open PySem L2 PySem.Spec PyProof.Rows

/-- what a law promises: of the script's ints, at most 63, it gives True -/
def spLaw : SpD := fun ds M F _ => ∃ ns : List Int, ds = [.lst (ns.map D.int)] ∧ ns.length ≤ 63 ∧ M = (fun _ => none) ∧ ∀ M', F (.bl true) M'
theorem reps_ints {K : PySem.W.Frag} {H : Hp} {M : MH} : ∀ ns : List Int, Reps K H M (ns.map V.int) (ns.map D.int)
  | [] => .nil
  | n :: ns => .cons (.int n) (reps_ints ns)
/-- the law's call from an abstract heap in which at most the script stands -/
theorem law_from {P : Program} {w : World} {K : PySem.W.Frag} {mg mb : Str → Option Value} {k : Nat} {fa a : Addr} {fd : FuncData} {x : Str} {s1 : Shared} {vs : List Value} {ns : List Int} {H : Hp} (KX : K.In s1.heap) (hns : s1.heap.Ns mainGlobals mg)
    (hb : s1.heap.Ns builtinsNs mb) (hbb : ∀ y : Str, y ≠ "__name__" → mb y = bootBuiltins y) (hlim : s1.heap.NoLimit) (hg : s1.gens = #[]) (ha : s1.heap.get? a = some { cls := .type "list", data := .seq vs.toArray }) (hl : ns.length ≤ 63) (hr : Room k callerA)
    (F : ∀ base : Heap, K.In base → base.Ns mainGlobals mg → FnZ P w K mg base k fa fd [x] spLaw) (hbind : ∀ (s : Shared) (u : Value), BindsTo s fd ⟨[u], []⟩ [(x, u)])
    (hO : Only H) (hS : SqL K H a (ns.map V.int)) (hok : HOk P w H s1.heap) (hA : ∀ b, H b ≠ none → b = a) (hK : H a ≠ none → K.lookup a = none) :
    codeAny (model P w) callerA (.call (.ref fa) ⟨[.ref a], []⟩) (fun r s' => r = .ok (.ret (.bool true)) ∧ OldK s1.heap s'.heap ∧ s'.os = s1.os ∧ AllBare s'.gens) s1 := by
  have at_a : ∀ {b : Addr} {u : HO}, H b = some u → b = a := fun e => hA _ (by rw [e]; exact fun z => by cases z)
  have noDict : ∀ {b : Addr} {o : Obj} {es : Array DictEntry} {ep : Nat}, s1.heap.get? b = some o → o.data = .dict es ep → H b = none := by
    intro b o es ep e d
    match q : H b with
    | none => rfl
    | some u =>
      rw [at_a q, ha] at e
      cases e
      cases (show Data.seq vs.toArray _ = Data.dict es ep from d)
  have ns_keep : ∀ {b : Addr} {m : Str → Option Value}, s1.heap.Ns b m → (hidT s1.heap H).Ns b m := by
    rintro b m ⟨o, es, ep, e, d, r⟩
    exact ⟨o, es, ep, hidT_get e (noDict e d), d, r⟩
  have K_keep : K.In (hidT s1.heap H) := by
    intro b o e
    refine hidT_get (KX b o e) ?_
    match q : H b with
    | none => rfl
    | some u =>
      have eb := at_a q
      rw [eb] at e q
      rw [hK (by rw [q]; exact fun z => by cases z)] at e
      cases e
  have hM : Mod K mg (hidT s1.heap H) := ⟨K_keep, ns_keep hns, ⟨mb, ns_keep hb, hbb⟩, by obtain ⟨mc, z1, z2⟩ := hlim; exact ⟨mc, ns_keep z1, z2⟩⟩
  have e0 : Env0 P w K mg (hidT s1.heap H) callerA [] s1 H := ⟨rfl, hM, fun b o e => of_hidT e, Nat.le_of_eq (hidT_size _ _), trivial, (fun b z => absurd (show b ∈ ([] : List Addr) from z) (by simp)), hok, .of_eq hg⟩
  have rl : ReL K H (fun _ => none) a (ns.map V.int) := hS.elim (fun z => .inl ⟨rfl, z⟩) .inr
  have sp0 : spOf K spLaw [.ref a] H (fun v _ => v = .bl true) fun _ _ _ => False := by
    refine ⟨[.lst (ns.map D.int)], fun _ => none, fun d _ => d = .bl true, fun _ _ _ => False, .cons (.lst rl (reps_ints ns)) .nil, (fun b mo z => by cases z), ⟨ns, rfl, hl, rfl, fun _ => rfl⟩, ?_, fun _ _ _ _ _ _ _ _ z => z⟩
    rintro v H' d M' _ _ r rfl
    cases r
    rfl
  refine codeAny_mono ((F _ K_keep (ns_keep hns)).run callerA [] s1 H ⟨[.ref a], []⟩ [.ref a] [.ref a] _ _ hr rfl e0 (hbind s1 (.ref a)) (.cons rfl .nil) sp0) ?_
  intro r s' h
  match r, h with
  | .error e, h => obtain ⟨_, _, _, _, _, _, _, _, _, _, _, _, z⟩ := h; exact z.elim
  | .ok .next, h => exact False.elim h
  | .ok .brk, h => exact False.elim h
  | .ok .cont, h => exact False.elim h
  | .ok (.ret u), h =>
    obtain ⟨v, H', os, bare, un, hok', r', q⟩ := h
    cases (show v = .bl true from q)
    cases r'
    refine ⟨rfl, OldK.of_keep fun b o e => ?_, os, bare⟩
    match q : H b with
    | none => exact un.keep b o e q (fun z => nomatch z) (fun z => nomatch z)
    | some u =>
      obtain ⟨ob, xs, z⟩ := (hO b).resolve_left (by rw [q]; exact fun z => by cases z)
      have t1 := (hok b _ z).1
      have t2 := (hok' b _ (un.frzs b ob _ z)).1
      rw [e] at t1
      cases t1
      exact t2
theorem walkZ {l : PySem.W.OpenLaw} {k : Nat} {q : Program} {loose : List Str} {XP : (Str → Option Value) → Heap → Prop} {YP : World → Heap → Prop} {d : DefRec} {K : Params → PySem.W.Frag} {x : Str} (hn : l.most = some 63) (hdf : d.params.defaults = []) (hr : Room k callerA)
    (hY : ∀ (w : World) (h : Heap), YP w h → (K w.params).In h)
    (F : ∀ (w : World) (mg : Str → Option Value) (fa : Addr) (h : Heap), (K w.params).In h → h.Ns mainGlobals mg → mg d.name = some (.ref fa) →
      ∃ fd : FuncData, (∀ (s : Shared) (u : Value), BindsTo s fd ⟨[u], []⟩ [(x, u)]) ∧ ∀ base : Heap, (K w.params).In base → base.Ns mainGlobals mg → FnZ l.prog w (K w.params) mg base k fa fd [x] spLaw) :
    PySem.W.WalkO q loose XP YP l.row.toRowW d [] (fun f vs => PySem.call f vs) := by
  refine Att.attach_call hn hdf fun w s₀ s1 mg mb fa o pm cd doc a vs ns G Y ho hd hcd hmg hobj hints hlen hg => ?_
  have KX := hY w _ Y
  obtain ⟨fd, hb, hF⟩ := F w mg fa _ KX G.T.g hmg
  have rv := vals_ints hints
  have lenV := hints.length
  have run := fun H => law_from (H := H) (ns := ns) KX G.T.g G.T.b G.T.builtins G.T.nolimit hg hobj hlen hr hF hb
  cases hk : (K w.params).lookup a with
  | some ob =>
    have e := KX a ob hk
    rw [hobj] at e
    cases e
    refine run (fun _ => none) (fun _ => .inl rfl) (.inr ⟨_, vs.toArray, _, hk, rfl, rfl, rfl, ?_, by simpa using rv⟩) (fun b u z => by cases (show (none : Option HO) = some u from z)) (fun b z => absurd rfl z) (fun z => absurd rfl z)
    rw [List.size_toArray, lenV, sizeLine_eq]
    omega
  | none =>
    have self : ∀ b, b = a → (if b = a then some (HO.frz { cls := .type "list", data := .seq vs.toArray } (.lst (ns.map V.int))) else none) = some (.frz { cls := .type "list", data := .seq vs.toArray } (.lst (ns.map V.int))) := fun b e => if_pos e
    have other : ∀ b, b ≠ a → (if b = a then some (HO.frz { cls := .type "list", data := .seq vs.toArray } (.lst (ns.map V.int))) else none) = none := fun b e => if_neg e
    refine run (fun b => if b = a then some (.frz { cls := .type "list", data := .seq vs.toArray } (.lst (ns.map V.int))) else none) (fun b => ?_) (.inl (.inr ⟨_, self a rfl⟩)) (fun b u z => ?_) (fun b z => ?_) (fun _ => hk)
    · by_cases e : b = a
      · exact .inr ⟨_, _, self b e⟩
      · exact .inl (other b e)
    · by_cases e : b = a
      · have z' := (self b e).symm.trans z
        cases z'
        subst e
        refine ⟨hobj, ?_, vs, _, rv, hobj⟩
        rw [List.length_map, sizeLine_eq]
        omega
      · have z' := (other b e).symm.trans z
        cases z'
    · by_cases e : b = a
      · exact e
      · exact absurd (other b e) z
end Z

set_option Elab.async false
set_option linter.all false
set_option maxRecDepth 100000
set_option maxHeartbeats 4000000
namespace Z
open PySem L2 PySem.Spec PyProof.Rows

theorem hrU {k : Nat} {A : Around} (r : Room k A) : A.units + 64 < cLine := by have := r.un; omega
theorem hrV {k : Nat} {A : Around} (r : Room k A) : A.units + 66 < cLine := by have := r.un; omega

/-! ### + and * -/
def rdAdd : R2D := fun d e M F => match d, e with
  | .int i, .int j => F (.int (i + j)) M
  | .str x, .str y => decide (x.length + y.length ≤ 16777216) = true ∧ F (.str (x ++ y)) M
  | _, _ => False
theorem simAdd {K : PySem.W.Frag} : SimOp K (fun x y H Q => rI0 (fun i j => .int (i + j)) x y H Q ∨ (∃ i j, x = .str i ∧ y = .str j ∧ i.length + j.length ≤ sizeLine ∧ Q (.str (i ++ j)) H)) rdAdd := fun x y d e H M F Q rx ry mu h k => by
  unfold rdAdd at h
  split at h
  · cases rx; cases ry
    exact .inl ⟨_, _, rfl, rfl, k _ _ _ _ .refl mu (.int _) h⟩
  · cases rx; cases ry
    exact .inr ⟨_, _, rfl, rfl, szl h.1, k _ _ _ _ .refl mu (.str _) h.2⟩
  · exact h.elim
def rdMul : R2D := fun d e M F => match d, e with
  | .int i, .int j => MulOk i j ∧ F (.int (i * j)) M
  | _, _ => False
theorem simMul {K : PySem.W.Frag} : SimOp K (rI MulOk fun i j => .int (i * j)) rdMul := fun x y d e H M F Q rx ry mu h k => by
  unfold rdMul at h
  split at h
  · cases rx; cases ry
    exact ⟨_, _, rfl, rfl, h.1, k _ _ _ _ .refl mu (.int _) h.2⟩
  · exact h.elim
section
variable {X : Cx} {a b e : Expr} {es : List Expr} {ta tb te : TED} {ts : TAD} {pos p p2 : Pos}
theorem pd_addA (ha : PD X a ta) (hb : PD X b tb) : PD X (.BinOp a .Add b pos) (tOpD rdAdd ta tb) := pd_op (fun _ _ => OpR.or op_add op_add_str) simAdd ha hb
theorem pd_mulA (ha : PD X a ta) (hb : PD X b tb) : PD X (.BinOp a .Mult b pos) (tOpD rdMul ta tb) := pd_op (fun _ _ => op_mulZ) simMul ha hb
theorem mulOk_l {i j : Int} (h : -18446744073709551616 < i ∧ i < 18446744073709551616) : MulOk i j := .inl (.inl h)
theorem mulOk_r {i j : Int} (h : -18446744073709551616 < j ∧ j < 18446744073709551616) : MulOk i j := .inl (.inr h)

/-! ### arguments whose number is known -/
def upAn (K : PySem.W.Frag) (n : Nat) (H0 : Hp) (M0 : MH) (W : WD) (t : TAD) : TA := fun σ H Q => ∃ τ M F, Good H0 M0 H M ∧ Slots K H M σ τ ∧ Mut K H M ∧ t W τ M F ∧
  ∀ vs H' ds M', Good H M H' M' → Mut K H' M' → Reps K H' M' vs ds → ds.length = n → F ds M' → Q vs H'
def PDN (X : Cx) (es : List Expr) (t : TAD) : Prop := ∀ pn xe H0 M0 W, At X pn xe H0 M0 W → PA (X.tr pn xe) es (upAn X.K es.length H0 M0 W t)
theorem pdn_nil : PDN X [] tNilD := fun pn xe H0 M0 W at_ => imA pa_nil fun σ H Q ⟨τ, M, F, g0, sl, mu, h, k⟩ => k [] H [] M .refl mu .nil rfl h
theorem pdn_cons (ha : PD X e te) (hr : PDN X es ts) (hs : starEach (e :: es) X.env = (false, eval e X.env) :: starEach es X.env := by rfl) : PDN X (e :: es) (tConsD te ts) := fun pn xe H0 M0 W at_ =>
  imA (pa_cons (X := X.tr pn xe) (ha pn xe H0 M0 W at_) (hr pn xe H0 M0 W at_) hs) fun σ H Q ⟨τ, M, F, g0, sl, mu, h, k⟩ =>
    upE_fin g0 sl mu h fun x H1 d M1 g1 mu1 r1 h1 => ⟨τ, M1, _, g0.trans g1, sl.good g1, mu1, h1, fun xs H2 ds M2 g2 mu2 r2 l2 h2 => k (x :: xs) H2 (d :: ds) M2 (g1.trans g2) mu2 (.cons (r1.good g2) r2) (by simp [l2]) h2⟩
theorem pdi_rng1 {tg : Expr} {ta : TAD} (hm : X.mg "range" = none) (ha : PDN X [a] ta) (hg : Gl X "range" := by rfl) (hs : starEach [a] X.env = [(false, eval a X.env)] := by rfl) : PDI X tg (.Call (.Name "range" p) [a] [] pos) (iRngD ta) := fun pn xe H0 M0 W at_ =>
  imI (pi_range1 (X := X.tr pn xe) hg hm (ha pn xe H0 M0 W at_) hs) fun σ H R ⟨τ, M, F, g0, sl, mu, h, k⟩ => ⟨τ, M, _, g0, sl, mu, h, fun vs H1 ds M1 g1 mu1 r l q => by
    cases r with
    | nil => cases l
    | cons r rs =>
      cases rs with
      | cons _ _ => simp at l
      | nil =>
        split at q
        · rename_i n e
          cases e
          cases r
          exact ⟨n, rfl, by omega, by omega, k _ H1 _ M1 g1 mu1 itr_rel q.2⟩
        · rename_i e; cases e
        · exact q.elim⟩
theorem pdi_rng2 {tg : Expr} {ta : TAD} (hm : X.mg "range" = none) (ha : PDN X [a, b] ta) (hg : Gl X "range" := by rfl) (hs : starEach [a, b] X.env = [(false, eval a X.env), (false, eval b X.env)] := by rfl) (hs2 : starEach [b] X.env = [(false, eval b X.env)] := by rfl) : PDI X tg (.Call (.Name "range" p) [a, b] [] pos) (iRngD ta) := fun pn xe H0 M0 W at_ =>
  imI (pi_range2 (X := X.tr pn xe) hg hm (ha pn xe H0 M0 W at_) hs hs2) fun σ H R ⟨τ, M, F, g0, sl, mu, h, k⟩ => ⟨τ, M, _, g0, sl, mu, h, fun vs H1 ds M1 g1 mu1 r l q => by
    split at q
    · simp at l
    · cases r with
      | cons r rs =>
        cases rs with
        | cons r' rs' =>
          cases rs'
          cases r
          cases r'
          exact ⟨_, _, rfl, ⟨by omega, by omega, by omega, by omega⟩, k _ H1 _ M1 g1 mu1 itr_rel q.2⟩
    · exact q.elim⟩

/-! ### calls by keywords, calls without arguments, of defs that ask that no repr is under way -/
def PDKn (X : Cx) (es : List Keyword) (t : TAD) : Prop := ∀ pn xe H0 M0 W, At X pn xe H0 M0 W → PK (X.tr pn xe) es (upAn X.K es.length H0 M0 W t)
theorem pdkn_nil : PDKn X [] tNilD := fun pn xe H0 M0 W at_ => imK pk_nil fun σ H Q ⟨τ, M, F, g0, sl, mu, h, k⟩ => k [] H [] M .refl mu .nil rfl h
theorem pdkn_cons {kws : List Keyword} {nm : Option Str} {kpos : Pos} (ha : PD X e te) (hr : PDKn X kws ts) : PDKn X (⟨nm, e, kpos⟩ :: kws) (tConsD te ts) := fun pn xe H0 M0 W at_ =>
  imK (pk_cons (ha pn xe H0 M0 W at_) (hr pn xe H0 M0 W at_)) fun σ H Q ⟨τ, M, F, g0, sl, mu, h, k⟩ =>
    upE_fin g0 sl mu h fun x H1 d M1 g1 mu1 r1 h1 => ⟨τ, M1, _, g0.trans g1, sl.good g1, mu1, h1, fun xs H2 ds M2 g2 mu2 r2 l2 h2 => k (x :: xs) H2 (d :: ds) M2 (g1.trans g2) mu2 (.cons (r1.good g2) r2) (by simp [l2]) h2⟩
variable {k : Nat} {f : Addr} {fd : FuncData} {ps ks : List Str} {sp : SpD} {x : Str} {kws : List Keyword} {ta' : TAD} {ix : List Nat}
theorem pd_callKZ (F : FnZ X.prog X.w X.K X.mg X.base k f fd ps sp) (hr : Room k X.A) (hgd : X.A.guards = some []) (hm : X.mg x = some (.ref f)) (hk : PySem.W.keepIn X.K (.ref f) = true) (hb : KwB X.K fd ps ks ix)
    (ha : PDKn X kws ta') (hl : kws.length = ks.length) (hg : Gl X x := by rfl) (hdb : (x == ("__debug__" : Str)) = false := by decide) (hall : (backToKw pos (keywordEach kws X.env)).all (·.1.isSome) = true := by rfl)
    (hks : (backToKw pos (keywordEach kws X.env)).filterMap (·.1) = ks := by rfl) (hpl : ((backTo pos (starEach [] X.env)).any (·.1) || (backToKw pos (keywordEach kws X.env)).any (·.1.isNone)) = false := by rfl) :
    PD X (.Call (.Name x p) [] kws pos) (tCallKD sp ix ta') := fun pn xe H0 M0 W at_ => by
  refine ⟨fun pins s σ H Q I ⟨τ, M, G, g0, sl, mu, h, k⟩ => ?_⟩
  refine wpAny_Call_Name_kw (ld_glob I hg hm ?_ hdb)
  refine PySem.W.callWith_KW0 (h₀ := X.base) I.ok.mod.kin hk hall (thn ((ha pn xe H0 M0 W at_).run pos pins s σ H (fun zs H1 => zs.length = kws.length ∧ spOf X.K sp (permL ix zs) H1 Q (WE (liftW X.K H0 M0 W) σ)) I ?_) fun ws s1 ⟨zs, H1, I1, r, hzl, q⟩ => ⟨I1.kIn, ?_⟩) hpl
  · exact ⟨τ, M, _, g0, sl, mu, h, fun vs H1 ds M1 g1 mu1 r1 h2 h1 => ⟨by rw [r1.length, h2], sp_of_call (X := X) g0 sl k g1 mu1 (r1.perm ix) h1⟩⟩
  · rw [hks]
    have hx := passAt at_.tk σ
    refine wpAny_call (codeAny_mono (F.run X.A X.stack s1 H1 ⟨[], ks.zip ws⟩ (permL ix ws) (permL ix zs) Q (WE (liftW X.K H0 M0 W) σ) hr hgd I1.env0 (BindsTo.of_eq (hb ws (by rw [← r.length, hzl, hl]))) (vals_perm r ix) q) fun r s' hq => ?_)
    cases r with
    | error e => exact hx pins H1 s1 e s' I1 hq
    | ok fl =>
      cases fl with
      | ret u => exact I1.after hq
      | next => exact False.elim hq
      | brk => exact False.elim hq
      | cont => exact False.elim hq
end

/-! ### dict displays -/
section
variable {X : Cx} {e : Expr} {te : TED} {pos p : Pos}
theorem good_newT {H : Hp} {M : MH} {p : Addr} {o : HO} (hp : H p = none) : Good H M (upd H p o) M := good_new hp
theorem pd_dict0 : PD X (.Dict [] [] pos) (tCD (.dct [])) := fun pn xe H0 M0 W at_ =>
  imE pe_dnewK fun σ H Q ⟨τ, M, F, g0, sl, mu, h, k⟩ p hp => k _ _ _ M (good_new hp) (mut_new mu hp) (.dct (mut_none mu hp) upd_same .nil) h
abbrev TPD := WD → EnvD → MH → (List (Key × D) → MH → Prop) → Prop
def tNilP : TPD := fun _ _ M Q => Q [] M
def tConsP (k : Key) (t : TED) (tr : TPD) : TPD := fun W τ M Q => t W τ M fun d M1 => tr W τ M1 fun ps M2 => Q ((k, d) :: ps) M2
/-- the pairs of a display: keys are constants -/
def PDP (X : Cx) (pos : Pos) (keys : List (Option Expr)) (values : List Expr) (t : TPD) : Prop := ∀ pn xe H0 M0 W, At X pn xe H0 M0 W → ∃ trs, PPs (X.tr pn xe) pos keys values trs ∧
  ∀ σ H Q, (∃ τ M F, Good H0 M0 H M ∧ Slots X.K H M σ τ ∧ Mut X.K H M ∧ t W τ M F ∧ ∀ ps H' ds M', Good H M H' M' → Mut X.K H' M' → RepK X.K H' M' ps ds → ds.length = keys.length → F ds M' → Q (ps.map fun kv => (kV kv.1, kv.2)) H') → tPairs trs σ H Q
theorem pdps_nil : PDP X pos [] [] tNilP := fun pn xe H0 M0 W at_ => ⟨[], pps_nil, fun σ H Q ⟨τ, M, F, g0, sl, mu, h, k⟩ => k [] H [] M .refl mu .nil rfl h⟩
theorem pdps_cons {k : Key} {ke : Expr} {ks : List (Option Expr)} {es : List Expr} {tr : TPD} (hk : ∀ pn xe, PE (X.tr pn xe) ke (tC (kV k))) (he : PD X e te) (hr : PDP X pos ks es tr) : PDP X pos (some ke :: ks) (e :: es) (tConsP k te tr) := fun pn xe H0 M0 W at_ => by
  obtain ⟨trs, h1, h2⟩ := hr pn xe H0 M0 W at_
  refine ⟨_, pps_cons (hk pn xe) (he pn xe H0 M0 W at_) h1, fun σ H Q ⟨τ, M, F, g0, sl, mu, h, k⟩ => ?_⟩
  refine upE_fin g0 sl mu h fun x H1 d M1 g1 mu1 r1 q1 => h2 σ H1 _ ⟨τ, M1, _, g0.trans g1, sl.good g1, mu1, q1, fun ps H2 ds M2 g2 mu2 r2 l2 q2 => ?_⟩
  exact k ((_, x) :: ps) H2 ((_, d) :: ds) M2 (g1.trans g2) mu2 (.cons (r1.good g2) r2) (by simp [l2]) q2
def putKD (kvs : List (Key × D)) (k : Key) (d : D) : List (Key × D) :=
  if (kvs.any fun kv => decide (kv.1 = k)) = true then kvs.map (fun kv => if kv.1 = k then (kv.1, d) else kv) else kvs ++ [(k, d)]
def mergeKD (kvs more : List (Key × D)) : List (Key × D) := more.foldl (fun acc kv => putKD acc kv.1 kv.2) kvs
theorem RepK.length {K : PySem.W.Frag} {H : Hp} {M : MH} : ∀ {vs : List (Key × V)} {ds : List (Key × D)}, RepK K H M vs ds → vs.length = ds.length
  | _, _, .nil => rfl
  | _, _, .cons _ t => by simp [RepK.length t]
theorem repK_any {K : PySem.W.Frag} {H : Hp} {M : MH} {k : Key} : ∀ {vs : List (Key × V)} {ds : List (Key × D)}, RepK K H M vs ds → (vs.any fun kv => decide (kv.1 = k)) = (ds.any fun kv => decide (kv.1 = k))
  | _, _, .nil => rfl
  | _, _, .cons r t => by rw [List.any_cons, List.any_cons, repK_any t]
theorem repK_app {K : PySem.W.Frag} {H : Hp} {M : MH} {es : List (Key × V)} {fs : List (Key × D)} (q : RepK K H M es fs) : ∀ {vs : List (Key × V)} {ds : List (Key × D)}, RepK K H M vs ds → RepK K H M (vs ++ es) (ds ++ fs)
  | _, _, .nil => q
  | _, _, .cons r t => .cons r (repK_app q t)
theorem repK_map {K : PySem.W.Frag} {H : Hp} {M : MH} {k : Key} {v : V} {d : D} (r : Rep K H M v d) : ∀ {vs : List (Key × V)} {ds : List (Key × D)}, RepK K H M vs ds → RepK K H M (vs.map (fun kv => if kv.1 = k then (kv.1, v) else kv)) (ds.map (fun kv => if kv.1 = k then (kv.1, d) else kv))
  | _, _, .nil => .nil
  | _, _, .cons (k := k') r' t => by
    rw [List.map_cons, List.map_cons]
    dsimp only
    split
    · exact .cons r (repK_map r t)
    · exact .cons r' (repK_map r t)
theorem repK_put {K : PySem.W.Frag} {H : Hp} {M : MH} {k : Key} {v : V} {d : D} (r : Rep K H M v d) {vs : List (Key × V)} {ds : List (Key × D)} (q : RepK K H M vs ds) : RepK K H M (putK vs k v) (putKD ds k d) := by
  unfold putK putKD
  rw [repK_any q]
  split
  · exact repK_map r q
  · exact repK_app (.cons r .nil) q
theorem repK_merge {K : PySem.W.Frag} {H : Hp} {M : MH} : ∀ {more : List (Key × V)} {md : List (Key × D)}, RepK K H M more md → ∀ {vs : List (Key × V)} {ds : List (Key × D)}, RepK K H M vs ds → RepK K H M (mergeK vs more) (mergeKD ds md)
  | _, _, .nil, _, _, q => q
  | _, _, .cons r t, vs, ds, q => by
    show RepK K H M (mergeK (putK vs _ _) _) (mergeKD (putKD ds _ _) _)
    exact repK_merge t (repK_put r q)
def tDictD (t : TPD) : TED := fun W τ M Q => ∀ p, M p = none → t W τ (mput M p (.dct [])) fun ds M1 => M1 p = some (.dct []) ∧ Q (.dct (mergeKD [] ds)) (mdel M1 p)
theorem pd_dict {keys : List (Option Expr)} {values : List Expr} {t : TPD} (h : PDP X pos keys values t) (hall : keys.all (·.isSome) = true := by rfl) (hl : keys.length = values.length := by rfl) (h0 : keys ≠ [] := by simp) (h15 : keys.length ≤ 15 := by decide) : PD X (.Dict keys values pos) (tDictD t) := fun pn xe H0 M0 W at_ => by
  obtain ⟨trs, h1, h2⟩ := h pn xe H0 M0 W at_
  refine imE (pe_disp h1 hall hl h0 h15) fun σ H Q ⟨τ, M, F, g0, sl, mu, hh, k⟩ p hp => h2 σ _ _ ?_
  refine ⟨τ, mput M p (.dct []), _, g0.trans (good_put hp), sl.good (good_put hp), mut_put mu hp (.dct .nil), hh p (mut_none mu hp), fun ps H2 ds M2 g2 mu2 r2 l2 ⟨q1, q2⟩ => ?_⟩
  obtain ⟨ho, e, rm⟩ := mu2 _ _ q1
  cases rm with
  | dct rk =>
    cases rk
    refine ⟨e, ps, rfl, by rw [r2.length, l2]; exact h15, ?_⟩
    have gw : Good H2 M2 (upd H2 p (.dK (mergeK [] ps))) (mdel M2 p) := fun a u he hm => by
      have n : a ≠ p := fun z => by rw [z, q1] at hm; cases hm
      exact ⟨by rw [upd_ne n]; exact he, by rw [mdel_ne n]; exact hm⟩
    have mw : Mut X.K (upd H2 p (.dK (mergeK [] ps))) (mdel M2 p) := fun a mo ea => by
      by_cases n : a = p
      · subst n; rw [mdel_same] at ea; cases ea
      · rw [mdel_ne n] at ea
        obtain ⟨ho, e1, r⟩ := mu2 a mo ea
        exact ⟨ho, by rw [upd_ne n]; exact e1, r.good gw⟩
    exact k _ _ _ _ (((good_put hp).trans g2).trans gw) mw (.dct mdel_same upd_same (repK_merge (r2.good gw) .nil)) q2

/-! ### comprehensions: targets of names alone; given to a name -/
def gTupT (n : Nat) (t : TGsD) : TGD := fun d τ M N => match d with | .tup xs => xs.length = n ∧ t xs τ M N | _ => False
theorem tgt_tupT {K : PySem.W.Frag} {vs : List Nat} {gs : TGs} {gds : TGsD} {n : Nat} (h1 : TgtsOk K gs gds vs) : TgtOk K (gTup K n gs) (gTupT n gds) vs := tgt_tup h1
theorem lc_sim {X : Cx} {iter : Expr} {pn : List (Addr × Obj)} {xe : Value → Shared → Prop} {H0 : Hp} {M0 : MH} {W : WD} {own : List (Str × Nat)} {ti : TAD} {g : TG} {gd : TGD} {tt : TTD} {te : TED} (hgd : TgtOk X.K g gd (own.map (·.2)))
    {σ : L2.St} {H : Hp} {Q : VK} (h : upE X.K H0 M0 W (tLcD ti gd tt te (own.map (·.2))) σ H Q) : tLc (upI X.K H0 M0 W ti) g (upT X.K H0 M0 noW tt) (upE X.K H0 M0 noW te) (own.map (·.2)) σ H Q := by
  obtain ⟨τ, M, F, g0, sl, mu, h, k⟩ := h
  exact ⟨τ, M, _, g0, sl, mu, h, fun J H1 xs M1 g1 mu1 it q => by
    intro p hp
    obtain ⟨Iv, i0, step, done⟩ := q p (mut_none mu1 hp)
    refine ⟨fun i m H2 => m = xs.length - i ∧ i ≤ xs.length ∧ ∃ M2, Good H1 M1 H2 M2 ∧ Mut X.K H2 M2 ∧ Iv i M2, ⟨_, rfl, Nat.zero_le _, mput M1 p (.lst []), good_put hp, mut_put mu1 hp (.lst .nil), i0⟩, ?_⟩
    rintro i m H2 ⟨rfl, hi, M2, g2, mu2, iv⟩
    obtain ⟨go, stop⟩ := it H2 M2 g2 mu2
    by_cases hlt : i < xs.length
    · obtain ⟨go1, yl⟩ := go i xs[i] (by simp [hlt])
      refine .inr ⟨go1, fun H4 => ∃ M4, Good H1 M1 H4 M4 ∧ Mut X.K H4 M4 ∧ Iv (i + 1) M4, fun H' w => ⟨xs.length - (i + 1), by omega, rfl, hlt, w⟩, fun x H3 y => ?_⟩
      obtain ⟨g3, mu3, rx⟩ := yl x H3 y
      have gg := g1.trans (g2.trans g3)
      refine hgd _ _ _ _ H3 M2 _ _ rx (slots_wipe (sl.good gg) _) (step i xs[i] M2 (by simp [hlt]) iv) fun σ4 τ4 sl4 w4 n => ⟨w4.trans (wipe_sub fun _ h => h), τ4, M2, _, g0.trans gg, sl4, mu3, n, fun b H5 M5 g5 mu5 nb => ?_⟩
      cases b with
      | false =>
        rw [if_neg Bool.false_ne_true]
        exact ⟨M5, (g2.trans g3).trans g5, mu5, nb.2 rfl⟩
      | true =>
        rw [if_pos rfl]
        refine ⟨τ4, M5, _, (g0.trans gg).trans g5, sl4.good g5, mu5, nb.1 rfl, fun v H6 d M6 g6 mu6 r6 n6 => ?_⟩
        split at n6
        · rename_i acc ea
          obtain ⟨ho, e, rm⟩ := mu6 _ _ ea
          cases rm with
          | lst rs => exact ⟨_, e, by rw [rs.length, sizeLine_eq]; exact n6.1, mput M6 p (.lst (acc ++ [d])), (((g2.trans g3).trans g5).trans g6).trans (good_write ea), mut_write mu6 ea (.lst (rs.append (.cons r6 .nil))), n6.2⟩
        · exact n6.elim
    · have e : i = xs.length := by omega
      subst e
      have dn := done M2 iv
      split at dn
      · rename_i acc ea
        obtain ⟨ho, e, rm⟩ := mu2 _ _ ea
        cases rm with
        | lst rs => exact .inl ⟨stop, k _ H2 _ _ ((g1.trans g2).trans good_del) (mut_del mu2) (.lst (.inl ⟨mdel_same, .inl e⟩) (rs.good good_del)) dn⟩
      · exact dn.elim⟩
theorem pds_setLc {i : Nat} {y : Str} {py spos : Pos} {elt tg iter : Expr} {ifs : List Expr} {scope : Scope} {own : List (Str × Nat)} {ti : TAD} {g : TG} {gd : TGD} {tt : TTD} {te : TED} (hN : X.N.Nodup) (hy : X.N[i]? = some y) (hyl : X.env.scope.names.lookup y = some .local) (hc : X.calm = true)
    (hsw : swapsWith (.ListComp elt [⟨tg, iter, ifs, 0⟩] scope pos) (some (.Name y py)) spos.line X.env = pure true) (hi : PDI X tg iter ti) (ok : BlkOk X.N X.env.scope scope own)
    (hg : ∀ (s : Shared) (H : Hp) (C : Addr) (cl : List (Str × Addr)) (fp : List Addr), PG (X.blk s H scope (compEnvC scope cl C X.env) fp) tg g) (hgd : TgtOk X.K g gd (own.map (·.2)))
    (ht : ∀ (s : Shared) (H : Hp) (C : Addr) (cl : List (Str × Addr)) (fp : List Addr), PDTs (X.blk s H scope (compEnvC scope cl C X.env) fp) ifs tt)
    (he : ∀ (s : Shared) (H : Hp) (C : Addr) (cl : List (Str × Addr)) (fp : List Addr), PD (X.blk s H scope (compEnvC scope cl C X.env) fp) elt te) (hs : ∀ x, foldedSetIterable iter X.env x = pure x := by intro _; rfl) :
    PDS X (.Assign [.Name y py] (.ListComp elt [⟨tg, iter, ifs, 0⟩] scope pos) spos) (tSetD i (tLcD ti gd tt te (own.map (·.2)))) := fun pn xe H0 M0 W at_ =>
  imS (ps_setLc (X := X.tr pn xe) (te := upE X.K H0 M0 noW te) (tt := upT X.K H0 M0 noW tt) (i := i) hc hN hy hyl hsw (hi pn xe H0 M0 W at_) ok hg (fun s H C cl fp => ht s H C cl fp H0 M0) (fun s H C cl fp => he s H C cl fp [] _ H0 M0 noW at_no) hs) fun D σ H ⟨τ, M, F, g0, sl, mu, h, k1, k2, k3, k4⟩ =>
    lc_sim (X := X) (iter := iter) (pn := pn) (xe := xe) hgd (upE_fin g0 sl mu h fun v H1 d M1 g1 mu1 r1 q => k1 _ H1 ⟨setN τ i (some d), M1, g1, by rw [setN_eq]; exact (sl.good g1).set r1, mu1, q⟩)
end
end Z

set_option Elab.async false
set_option linter.all false
set_option maxRecDepth 100000
set_option maxHeartbeats 4000000
namespace Z
open PySem L2

/-! ### one step of a reading -/
section
variable {W : WD} {τ : EnvD} {M M1 : MH} {Q : QD} {QT : Bool → MH → Prop} {QA : List D → MH → Prop} {N : EnvD → MH → Prop} {F : EndsD} {t u : TSD} {c c' : TTD} {te ta tb : TED} {tr : TAD} {i j : Int} {n : Nat} {d e : D} {b : Bool}
theorem w_seq (h : t W { F with nx := fun τ' M' => u W F τ' M' } τ M) : tSeqD t u W F τ M := h
theorem w_next (h : F.nx τ M) : tNextD W F τ M := h
theorem w_drop (h : te W τ M fun _ M1 => F.nx τ M1) : tDropD te W F τ M := h
theorem w_ret (h : te W τ M F.rt) : tRetD te W F τ M := h
theorem w_retN (h : F.rt .non M) : tRetN W F τ M := h
theorem w_if (h : c W τ M fun b M1 => (b = true → t W F τ M1) ∧ (b = false → u W F τ M1)) : tIfD c t u W F τ M := h
theorem w_set (h : te W τ M fun d M1 => F.nx (setN τ n (some d)) M1) : tSetD n te W F τ M := h
theorem w_cont (h : F.ct τ M) : tContD W F τ M := h
theorem w_brk (h : F.bk τ M) : tBrkD W F τ M := h
theorem w_var (h : getN τ n = some d) (q : Q d M) : tVarD n W τ M Q := by unfold tVarD; rw [h]; exact q
theorem w_c (q : Q d M) : tCD d W τ M Q := q
theorem w_op {r : R2D} (h : ta W τ M fun x M1 => tb W τ M1 fun y M2 => r x y M2 Q) : tOpD r ta tb W τ M Q := h
theorem w_un {r : D → MH → QD → Prop} (h : ta W τ M fun x M1 => r x M1 Q) : tUnD r ta W τ M Q := h
theorem w_nil (h : QA [] M) : tNilD W τ M QA := h
theorem w_cons (h : ta W τ M fun x M1 => tr W τ M1 fun xs M2 => QA (x :: xs) M2) : tConsD ta tr W τ M QA := h
theorem w_cb {r : RCD} (h : tr W τ M fun ds M1 => r ds M1 Q) : tCBD r tr W τ M Q := h
theorem w_tup (h : tr W τ M fun ds M1 => decide (ds.length ≤ 16777216) = true ∧ Q (.tup ds) M1) : tTupD tr W τ M Q := h
theorem w_lst (h : tr W τ M fun ds M1 => decide (ds.length ≤ 16777216) = true ∧ Q (.lst ds) M1) : tLstD tr W τ M Q := h
theorem w_lstM (h : tr W τ M fun ds M1 => decide (ds.length ≤ 16777216) = true ∧ ∀ p, M1 p = none → Q (.ref p) (mput M1 p (.lst ds))) : tLstM tr W τ M Q := h
theorem w_small {ds : List D} {P : Prop} (h1 : ds.length ≤ 16777216) (h : P) : decide (ds.length ≤ 16777216) = true ∧ P := ⟨decide_eq_true h1, h⟩
theorem w_testB (h : te W τ M fun d M1 => match d with | .bl b => QT b M1 | _ => False) : tTestB te W τ M QT := h
theorem w_andD (h : c W τ M fun b M1 => (b = true → c' W τ M1 QT) ∧ (b = false → QT false M1)) : tAndD c c' W τ M QT := h
theorem w_orD (h : c W τ M fun b M1 => (b = true → QT true M1) ∧ (b = false → c' W τ M1 QT)) : tOrD c c' W τ M QT := h
theorem w_notD (h : c W τ M fun b M1 => QT (!b) M1) : tNotD c W τ M QT := h
theorem w_andE (h : ta W τ M fun d M1 => match d with | .bl b => (b = true → tb W τ M1 Q) ∧ (b = false → Q (.bl false) M1) | _ => False) : tAndE ta tb W τ M Q := h
theorem w_orE (h : ta W τ M fun d M1 => match d with | .bl b => (b = true → Q (.bl true) M1) ∧ (b = false → tb W τ M1 Q) | _ => False) : tOrE ta tb W τ M Q := h
theorem w_notE (h : ta W τ M fun d M1 => match d with | .bl b => Q (.bl (!b)) M1 | _ => False) : tNotE ta W τ M Q := h
theorem w_ifE (h : c W τ M fun b M1 => (b = true → ta W τ M1 Q) ∧ (b = false → tb W τ M1 Q)) : tIfE c ta tb W τ M Q := h
theorem w_tru (h : te W τ M fun d M1 => match truthD d M1 with | some b => QT b M1 | none => False) : tTruD te W τ M QT := h
theorem w_truth (h1 : truthD d M = some b) (h : QT b M) : (match (generalizing := false) truthD d M with | some b => QT b M | none => False) := by rw [h1]; exact h
theorem w_call {sp : SpD} (h : tr W τ M fun ds M1 => sp ds M1 Q (fun C fs M' => W C fs τ M')) : tCallD sp tr W τ M Q := h
theorem w_callK {sp : SpD} {ix : List Nat} (h : tr W τ M fun ds M1 => sp (permL ix ds) M1 Q (fun C fs M' => W C fs τ M')) : tCallKD sp ix tr W τ M Q := h
theorem w_rdI {g : Int → Int → Int} (h : Q (.int (g i j)) M) : rdI g (.int i) (.int j) M Q := h
theorem w_rdIC {C : Int → Int → Prop} {g : Int → Int → Int} (hc : C i j) (h : Q (.int (g i j)) M) : rdIC C g (.int i) (.int j) M Q := ⟨hc, h⟩
theorem w_rdB {g : Int → Int → Bool} (h : Q (.bl (g i j)) M) : rdB g (.int i) (.int j) M Q := h
theorem w_rdAdd (h : Q (.int (i + j)) M) : rdAdd (.int i) (.int j) M Q := h
theorem w_rdMul (hc : MulOk i j) (h : Q (.int (i * j)) M) : rdMul (.int i) (.int j) M Q := ⟨hc, h⟩
theorem w_neg (h : Q (.int (-i)) M) : rdNeg (.int i) M Q := h
theorem w_isN (h : te W τ M fun d M1 => Q (.bl (isNonD d)) M1) : tIsND te W τ M Q := h
theorem w_notN (h : te W τ M fun d M1 => Q (.bl (!isNonD d)) M1) : tNotND te W τ M Q := h
theorem w_eq (h1 : eqD d e = some b) (h : Q (.bl b) M) : rdEq d e M Q := by unfold rdEq; rw [h1]; exact h
theorem w_ne (h1 : eqD d e = some b) (h : Q (.bl (!b)) M) : rdNe d e M Q := by unfold rdNe; rw [h1]; exact h
theorem w_ixR {a : Addr} {xs : List D} {x : D} (h1 : M a = some (.lst xs)) (h2 : atI xs i = some x) (h : Q x M) : rdIx (.ref a) (.int i) M Q := by unfold rdIx; simp only [h1, h2]; exact h
theorem w_ixL {xs : List D} {x : D} (h2 : atI xs i = some x) (h : Q x M) : rdIx (.lst xs) (.int i) M Q := by unfold rdIx; simp only [h2]; exact h
theorem w_ixT {xs : List D} {x : D} (h2 : atI xs i = some x) (h : Q x M) : rdIx (.tup xs) (.int i) M Q := by unfold rdIx; simp only [h2]; exact h
theorem w_lenL {xs : List D} (h : Q (.int xs.length) M) : rdLen [.lst xs] M Q := h
theorem w_lenT {xs : List D} (h : Q (.int xs.length) M) : rdLen [.tup xs] M Q := h
theorem w_abs (h : Q (.int (if i < 0 then -i else i)) M) : rdAbs [.int i] M Q := h
theorem w_int (h : Q (.int i) M) : rdInt [.int i] M Q := h
theorem w_intB (h : Q (.int (if b then 1 else 0)) M) : rdInt [.bl b] M Q := h
theorem w_gcd (h : Q (.int ((Nat.gcd i.natAbs j.natAbs : Nat) : Int)) M) : rdGcd [.int i, .int j] M Q := h
theorem w_asg {g : TGD} (h : te W τ M fun d M1 => g d τ M1 F.nx) : tAsgD te g W F τ M := h
theorem w_gname (h : N (setN τ n (some d)) M) : gNameD n d τ M N := h
theorem w_gtup {m : Nat} {g : TGsD} {xs : List D} (h1 : seqD d = some xs) (h2 : xs.length = m) (h : g xs τ M N) : gTupD m g d τ M N := by unfold gTupD; rw [h1]; exact ⟨h2, h⟩
theorem w_gtupT {m : Nat} {g : TGsD} {xs : List D} (h2 : xs.length = m) (h : g xs τ M N) : gTupT m g (.tup xs) τ M N := ⟨h2, h⟩
theorem w_gnil (h : N τ M) : gNilD [] τ M N := h
theorem w_gcons {g : TGD} {gs : TGsD} {ds : List D} (h : g d τ M fun τ' M' => gs ds τ' M' N) : gConsD g gs (d :: ds) τ M N := h
theorem w_setIx {to ti : TED} (h : te W τ M fun d M1 => to W τ M1 fun o M2 => ti W τ M2 fun i M3 => match o, i with
  | .ref a, .int k => (match M3 a with | some (.lst xs) => (match ixN xs.length k with | some j => F.nx τ (mput M3 a (.lst (xs.set j d))) | none => False) | _ => False)
  | _, _ => False) : tSetIx te to ti W F τ M := h
theorem w_setIx2 {a : Addr} {xs : List D} {m : Nat} (h1 : M a = some (.lst xs)) (h2 : ixN xs.length i = some m) (h : N τ (mput M a (.lst (xs.set m d)))) : (match (generalizing := false) M a with | some (.lst xs) => (match ixN xs.length i with | some j => N τ (mput M a (.lst (xs.set j d))) | none => False) | _ => False) := by
  simp only [h1, h2]; exact h
theorem w_is {f : D → Option Bool} (h : te W τ M fun d M1 => match f d with | some b => Q (.bl b) M1 | none => False) : tIs f te W τ M Q := h
theorem w_opt {α : Type} {o : Option α} {x : α} {P : α → Prop} (h1 : o = some x) (h : P x) : (match (generalizing := false) o with | some b => P b | none => False) := by rw [h1]; exact h
theorem w_tupOf (h : te W τ M fun d M1 => match seqD d with | some xs => Q (.tup xs) M1 | none => False) : tTupOf te W τ M Q := h
theorem w_par {m k : Nat} (h : tr W τ M fun ds M1 => match ds with | [d, e] => F.nx (setN (setN τ m (some d)) k (some e)) M1 | _ => False) : tParD m k tr W F τ M := h
theorem w_repr (h0 : te W τ M fun d M1 => match toPy d with | some p => okRepr p ∧ Q (.str p.shown) M1 | none => False) : tReprD te W τ M Q := h0
theorem w_sl {tl th : WD → EnvD → MH → (Option Int → MH → Prop) → Prop} (h : te W τ M fun d M1 => tl W τ M1 fun l M2 => th W τ M2 fun u M3 => match d with | .lst xs => Q (.lst (cutD xs l u)) M3 | _ => False) : tSlD te tl th W τ M Q := h
theorem w_part {QO : Option Int → MH → Prop} (h : te W τ M fun d M1 => match d with | .int i => QO (some i) M1 | _ => False) : tPartD te W τ M QO := h
theorem w_noPart {QO : Option Int → MH → Prop} (h : QO none M) : tNoPartD W τ M QO := h
theorem w_dec {p : Prop} [Decidable p] {A B : Prop} (h1 : p → A) (h2 : ¬ p → B) : (decide p = true → A) ∧ (decide p = false → B) := ⟨fun h => h1 (of_decide_eq_true h), fun h => h2 (of_decide_eq_false h)⟩
theorem w_ndec {p : Prop} [Decidable p] {A B : Prop} (h1 : ¬ p → A) (h2 : p → B) : ((!decide p) = true → A) ∧ ((!decide p) = false → B) :=
  ⟨fun h => h1 (by simpa using h), fun h => h2 (by simpa using h)⟩
theorem w_true {A B : Prop} (h : A) : (true = true → A) ∧ (true = false → B) := ⟨fun _ => h, fun h => nomatch h⟩
theorem w_false {A B : Prop} (h : B) : (false = true → A) ∧ (false = false → B) := ⟨fun h => (nomatch h), fun _ => h⟩
theorem w_bool {b : Bool} {A B : Prop} (h1 : b = true → A) (h2 : b = false → B) : (b = true → A) ∧ (b = false → B) := ⟨h1, h2⟩
theorem w_seqI (h : te W τ M fun d M1 => match seqD d with | some xs => QA xs M1 | none => False) : iSeqD te W τ M QA := h
theorem w_rng1 (h : -4611686018427387904 ≤ i ∧ i < 4611686018427387904) (q : QA (upFrom 0 i.toNat) M) : (match ([D.int i] : List D) with
  | [.int n] => (-4611686018427387904 ≤ n ∧ n < 4611686018427387904) ∧ QA (upFrom 0 n.toNat) M
  | [.int a, .int b] => ((-4611686018427387904 ≤ a ∧ a < 4611686018427387904) ∧ -4611686018427387904 ≤ b ∧ b < 4611686018427387904) ∧ QA (upFrom a (b - a).toNat) M
  | _ => False) := ⟨h, q⟩
end
section
variable {W : WD} {τ : EnvD} {M M1 : MH} {Q : QD} {te : TED} {tr : TPD} {QP : List (Key × D) → MH → Prop}
theorem w_nilP (h : QP [] M) : tNilP W τ M QP := h
theorem w_consP {k : Key} (h : te W τ M fun d M1 => tr W τ M1 fun ps M2 => QP ((k, d) :: ps) M2) : tConsP k te tr W τ M QP := h
theorem w_dict (h : ∀ p, M p = none → tr W τ (mput M p (.dct [])) fun ds M1 => M1 p = some (.dct []) ∧ Q (.dct (mergeKD [] ds)) (mdel M1 p)) : tDictD tr W τ M Q := h
theorem w_dictE {p : Addr} {ds : List (Key × D)} (hp : M p = none) (h : Q (.dct (mergeKD [] ds)) M) : mput M p (.dct []) p = some (.dct []) ∧ Q (.dct (mergeKD [] ds)) (mdel (mput M p (.dct [])) p) := ⟨mput_same, by rw [mdel_mput hp]; exact h⟩
theorem w_rng {ta : TAD} {QA : List D → MH → Prop} (h : ta W τ M fun ds M1 => match ds with
  | [.int n] => (-4611686018427387904 ≤ n ∧ n < 4611686018427387904) ∧ QA (upFrom 0 n.toNat) M1
  | [.int a, .int b] => ((-4611686018427387904 ≤ a ∧ a < 4611686018427387904) ∧ -4611686018427387904 ≤ b ∧ b < 4611686018427387904) ∧ QA (upFrom a (b - a).toNat) M1
  | _ => False) : iRngD ta W τ M QA := h
theorem w_for {ti : TAD} {g : TGD} {body : TSD} {F : EndsD} (h : ti W τ M fun xs M1 => ∃ Iv : Nat → EnvD → MH → Prop, Iv 0 τ M1 ∧ (∀ i x τ' M', xs[i]? = some x → Iv i τ' M' → g x τ' M' fun τ2 M2 => body W { F with nx := Iv (i + 1), ct := Iv (i + 1), bk := F.nx } τ2 M2) ∧ (∀ τ' M', Iv xs.length τ' M' → F.nx τ' M')) : tForD ti g body W F τ M := h
theorem w_lc {ti : TAD} {gd : TGD} {tt : TTD} {vs : List Nat} (h : ti W τ M fun xs M1 => tLcD (fun _ _ _ R => R xs M1) gd tt te vs W τ M1 Q) : tLcD ti gd tt te vs W τ M Q := h
end
theorem upFrom_len {lo : Int} {n : Nat} : (upFrom lo n).length = n := by simp [upFrom]
theorem upFrom_mem {lo : Int} {n : Nat} {d : D} (h : d ∈ upFrom lo n) : ∃ i : Nat, i < n ∧ d = .int (lo + i) := by
  obtain ⟨i, hi⟩ := List.getElem?_of_mem h
  exact ⟨i, upFrom_get hi⟩
/-- what is known of 0, 1, .. in lists -/
local macro_rules | `(tactic| walk_at "z at") => `(tactic| first | rfl | (simp only [atI, ixN, List.length_cons, List.length_nil, List.length_map]; rfl) | assumption)
local macro_rules | `(tactic| walk_at "z1") => `(tactic| first
  | with_reducible refine w_seq ?_ | with_reducible refine w_set ?_ | with_reducible refine w_ret ?_ | with_reducible refine w_if ?_ | with_reducible refine w_asg ?_ | with_reducible refine w_next ?_ | with_reducible refine w_setIx ?_ | with_reducible refine w_par ?_
  | ((with_reducible refine' w_var ?h ?_); (case h => exact rfl))
  | with_reducible refine w_c ?_ | with_reducible refine w_op ?_ | with_reducible refine w_un ?_ | with_reducible refine w_cons ?_ | with_reducible refine w_nil ?_ | with_reducible refine w_cb ?_
  | with_reducible refine w_call ?_ | with_reducible refine w_callK ?_ | with_reducible refine w_testB ?_ | with_reducible refine w_tru ?_ | with_reducible refine w_andD ?_ | with_reducible refine w_orD ?_ | with_reducible refine w_notD ?_
  | with_reducible refine w_andE ?_ | with_reducible refine w_orE ?_ | with_reducible refine w_notE ?_ | with_reducible refine w_ifE ?_ | with_reducible refine w_is ?_ | with_reducible refine w_isN ?_ | with_reducible refine w_notN ?_ | with_reducible refine w_tupOf ?_
  | with_reducible refine w_tup ?_ | with_reducible refine w_lst ?_ | with_reducible refine w_lstM ?_ | with_reducible refine w_sl ?_ | with_reducible refine w_part ?_ | with_reducible refine w_noPart ?_ | with_reducible refine w_repr ?_ | with_reducible refine w_seqI ?_
  | with_reducible refine w_rdI ?_ | with_reducible refine w_rdB ?_ | with_reducible refine w_rdAdd ?_ | with_reducible refine w_neg ?_ | with_reducible refine w_lenL ?_ | with_reducible refine w_lenT ?_ | with_reducible refine w_abs ?_ | with_reducible refine w_int ?_ | with_reducible refine w_intB ?_ | with_reducible refine w_gcd ?_
  | with_reducible refine w_gname ?_ | with_reducible refine w_gnil ?_ | with_reducible refine w_gcons ?_
  | with_reducible refine w_true ?_ | with_reducible refine w_false ?_
  | dsimp only [truthD, seqD, isNonD, permL, List.filterMap] | with_reducible refine w_drop ?_ | with_reducible refine w_retN ?_ | with_reducible refine w_nilP ?_ | with_reducible refine w_consP ?_ | with_reducible refine w_rng ?_ | with_reducible refine w_cont ?_ | with_reducible refine w_brk ?_)
local macro_rules | `(tactic| walk_at "z") => `(tactic| repeat walk_at "z1")
end Z

set_option Elab.async false
set_option linter.all false
set_option maxRecDepth 100000
set_option maxHeartbeats 4000000
namespace Z
local macro_rules | `(tactic| walk_at "z at") => `(tactic| first | rfl | (simp only [atI, ixN, List.length_cons, List.length_nil, List.length_map]; rfl) | assumption)
local macro_rules | `(tactic| walk_at "z1") => `(tactic| first
  | with_reducible refine w_seq ?_ | with_reducible refine w_set ?_ | with_reducible refine w_ret ?_ | with_reducible refine w_if ?_ | with_reducible refine w_asg ?_ | with_reducible refine w_next ?_ | with_reducible refine w_setIx ?_ | with_reducible refine w_par ?_
  | ((with_reducible refine' w_var ?h ?_); (case h => exact rfl))
  | with_reducible refine w_c ?_ | with_reducible refine w_op ?_ | with_reducible refine w_un ?_ | with_reducible refine w_cons ?_ | with_reducible refine w_nil ?_ | with_reducible refine w_cb ?_
  | with_reducible refine w_call ?_ | with_reducible refine w_callK ?_ | with_reducible refine w_testB ?_ | with_reducible refine w_tru ?_ | with_reducible refine w_andD ?_ | with_reducible refine w_orD ?_ | with_reducible refine w_notD ?_
  | with_reducible refine w_andE ?_ | with_reducible refine w_orE ?_ | with_reducible refine w_notE ?_ | with_reducible refine w_ifE ?_ | with_reducible refine w_is ?_ | with_reducible refine w_isN ?_ | with_reducible refine w_notN ?_ | with_reducible refine w_tupOf ?_
  | with_reducible refine w_tup ?_ | with_reducible refine w_lst ?_ | with_reducible refine w_lstM ?_ | with_reducible refine w_sl ?_ | with_reducible refine w_part ?_ | with_reducible refine w_noPart ?_ | with_reducible refine w_repr ?_ | with_reducible refine w_seqI ?_
  | with_reducible refine w_rdI ?_ | with_reducible refine w_rdB ?_ | with_reducible refine w_rdAdd ?_ | with_reducible refine w_neg ?_ | with_reducible refine w_lenL ?_ | with_reducible refine w_lenT ?_ | with_reducible refine w_abs ?_ | with_reducible refine w_int ?_ | with_reducible refine w_intB ?_ | with_reducible refine w_gcd ?_
  | with_reducible refine w_gname ?_ | with_reducible refine w_gnil ?_ | with_reducible refine w_gcons ?_
  | with_reducible refine w_true ?_ | with_reducible refine w_false ?_
  | dsimp only [truthD, seqD, isNonD, permL, List.filterMap] | with_reducible refine w_drop ?_ | with_reducible refine w_retN ?_ | with_reducible refine w_nilP ?_ | with_reducible refine w_consP ?_ | with_reducible refine w_rng ?_ | with_reducible refine w_cont ?_ | with_reducible refine w_brk ?_)
local macro_rules | `(tactic| walk_at "z") => `(tactic| repeat walk_at "z1")
open PySem L2

/-! ### how a law draws: the cells, how many were begun, what is left of a great one -/
def nutL (cells : List Int) (turn left : Int) : List D := [.lst (cells.map D.int), .int turn, .int left]
def NutAt (M : MH) (a : Addr) (t : Int) : Prop := ∃ cells turn left, M a = some (.lst (nutL cells turn left)) ∧ 0 ≤ turn ∧ turn ≤ t ∧ 0 ≤ left ∧ cells.length ≤ 63
def Upd1 (M : MH) (a : Addr) (M' : MH) : Prop := ∀ b, b ≠ a → M' b = M b
theorem Upd1.refl {M : MH} {a : Addr} : Upd1 M a M := fun _ _ => rfl
theorem Upd1.trans {M M1 M2 : MH} {a : Addr} (h : Upd1 M a M1) (g : Upd1 M1 a M2) : Upd1 M a M2 := fun b n => (g b n).trans (h b n)
theorem Upd1.put {M : MH} {a : Addr} {o : MO} : Upd1 M a (mput M a o) := fun b n => mput_ne n
theorem NutAt.mono {M : MH} {a : Addr} {t t' : Int} (h : NutAt M a t) (l : t ≤ t') : NutAt M a t' := let ⟨c, u, f, e, h1, h2, h3⟩ := h; ⟨c, u, f, e, h1, by omega, h3⟩
/-- a def that draws c times at most -/
def spDraw (c : Int) (pre : List D → Prop) (post : List D → D → Prop) : SpD := fun ds M F _ => ∃ a t rest, ds = .ref a :: rest ∧ pre rest ∧ NutAt M a t ∧ t + c ≤ 8000000 ∧
  ∀ d M', NutAt M' a (t + c) → Upd1 M a M' → post rest d → F d M'
theorem draw_do {c : Int} {pre : List D → Prop} {post : List D → D → Prop} {a : Addr} {t : Int} {rest : List D} {M : MH} {F : QD} {E : ED} (hN : NutAt M a t) (ht : t + c ≤ 8000000) (hp : pre rest)
    (k : ∀ d M', NutAt M' a (t + c) → Upd1 M a M' → post rest d → F d M') : spDraw c pre post (.ref a :: rest) M F E := ⟨a, t, rest, rfl, hp, hN, ht, k⟩
def spSieve : SpD := spDraw 1 (fun r => ∃ m : Int, r = [.int m] ∧ 0 < m ∧ m.natAbs.log2 < 9000) (fun r d => ∃ m n : Int, r = [.int m] ∧ d = .int n ∧ 0 ≤ n ∧ n < m)
def spPick : SpD := spDraw 1 (fun r => ∃ xs : List D, r = [.lst xs] ∧ 0 < xs.length ∧ xs.length ≤ 1000) (fun r d => ∃ xs : List D, r = [.lst xs] ∧ d ∈ xs)
theorem sieve_do {m : Int} {a : Addr} {t : Int} {M : MH} {F : QD} {E : ED} (hN : NutAt M a t) (ht : t + 1 ≤ 8000000) (h0 : 0 < m) (hl : m.natAbs.log2 < 9000)
    (k : ∀ n M', 0 ≤ n → n < m → NutAt M' a (t + 1) → Upd1 M a M' → F (.int n) M') : spSieve [.ref a, .int m] M F E :=
  draw_do hN ht ⟨m, rfl, h0, hl⟩ fun d M' n' u' ⟨m', n, e, ed, h1, h2⟩ => by cases e; subst ed; exact k n M' h1 h2 n' u'
theorem pick_do {xs : List D} {a : Addr} {t : Int} {M : MH} {F : QD} {E : ED} (hN : NutAt M a t) (ht : t + 1 ≤ 8000000) (h0 : 0 < xs.length) (hl : xs.length ≤ 1000)
    (k : ∀ d M', d ∈ xs → NutAt M' a (t + 1) → Upd1 M a M' → F d M') : spPick [.ref a, .lst xs] M F E :=
  draw_do hN ht ⟨xs, rfl, h0, hl⟩ fun d M' n' u' ⟨xs', e, hd⟩ => by cases e; exact k d M' hd n' u'
def tSieveC (c1 c2 m1 c3 m2 m3 dv : Int) : TSD :=
  (tSeqD (tSetD 5 (tOpD (rdIC (fun _ j => 0 < j) fun i j => i % j) (tCBD rdInt (tConsD (tOpD (rdIC CPow fun i j => i ^ j.toNat) (tOpD rdAdd (tOpD rdAdd (tOpD (rdIC (fun _ j => 0 < j) fun i j => i % j) (tCBD rdInt (tConsD (tVarD 4) tNilD)) (tCD (.int m1))) (tOpD rdMul (tCD (.int c3)) (tVarD 3))) (tCD (.int c2))) (tCD (.int 5))) tNilD)) (tCD (.int m2))))
  (tSeqD (tSetD 5 (tOpD (rdIC (fun _ j => 0 < j) fun i j => i % j) (tCBD rdInt (tConsD (tOpD (rdIC CPow fun i j => i ^ j.toNat) (tOpD rdAdd (tOpD rdAdd (tOpD rdMul (tVarD 5) (tOpD rdAdd (tOpD rdMul (tCD (.int 2)) (tVarD 3)) (tCD (.int c2)))) (tOpD rdMul (tOpD rdMul (tCD (.int c1)) (tVarD 3)) (tVarD 3))) (tCD (.int c3))) (tCD (.int 3))) tNilD)) (tCD (.int m3))))
  (tRetD (tOpD (rdIC (fun _ j => 0 < j) fun i j => i % j) (tCBD rdInt (tConsD (tOpD (rdIC DivOk fun i j => i.fdiv j) (tVarD 5) (tCD (.int dv))) tNilD)) (tVarD 1)))))
def tSieveB (c1 c2 m1 c3 m2 m3 dv : Int) : TSD :=
  (tSeqD (tIfD (tAndD (tTestB (tOpD (rdB fun i j => decide (i < j)) (tVarD 3) (tCBD rdLen (tConsD (tOpD rdIx (tVarD 0) (tCD (.int 0))) tNilD)))) (tTestB (tOpD (rdB fun i j => decide (j ≤ i)) (tCBD rdAbs (tConsD (tVarD 4) tNilD)) (tOpD (rdIC CPow fun i j => i ^ j.toNat) (tCD (.int 10)) (tCD (.int 18))))))
    (tSeqD (tSetD 2 (tOpD rdAdd (tOpD rdMul (tCD (.int 2)) (tOpD (rdI fun i j => i - j) (tCBD rdAbs (tConsD (tCBD rdInt (tConsD (tVarD 4) tNilD)) tNilD)) (tOpD (rdIC CPow fun i j => i ^ j.toNat) (tCD (.int 10)) (tCD (.int 18))))) (tCBD rdInt (tConsD (tOpD (rdB fun i j => decide (i < j)) (tVarD 4) (tCD (.int 0))) tNilD))))
  (tSeqD (tSetIx (tOpD (rdIC DivOk fun i j => i.fdiv j) (tVarD 2) (tVarD 1)) (tVarD 0) (tCD (.int 2)))
  (tRetD (tOpD (rdIC (fun _ j => 0 < j) fun i j => i % j) (tCBD rdInt (tConsD (tVarD 2) tNilD)) (tVarD 1)))))
    tNextD)
  (tSieveC c1 c2 m1 c3 m2 m3 dv))
def tSieve (c1 c2 m1 c3 m2 m3 dv : Int) : TSD := (tSeqD (tIfD (tTestB (tOpD (rdB fun i j => decide (j < i)) (tOpD rdIx (tVarD 0) (tCD (.int 2))) (tCD (.int 0))))
    (tSeqD (tSetD 2 (tCBD rdInt (tConsD (tOpD rdIx (tVarD 0) (tCD (.int 2))) tNilD)))
  (tSeqD (tSetIx (tOpD (rdIC DivOk fun i j => i.fdiv j) (tVarD 2) (tVarD 1)) (tVarD 0) (tCD (.int 2)))
  (tRetD (tOpD (rdIC (fun _ j => 0 < j) fun i j => i % j) (tCBD rdInt (tConsD (tVarD 2) tNilD)) (tVarD 1)))))
    tNextD)
  (tSeqD (tSetD 3 (tOpD rdIx (tVarD 0) (tCD (.int 1))))
  (tSeqD (tSetIx (tOpD rdAdd (tVarD 3) (tCD (.int 1))) (tVarD 0) (tCD (.int 1)))
  (tSeqD (tSetD 4 (tOpD rdAdd (tOpD rdMul (tCD (.int c1)) (tVarD 3)) (tCD (.int c2))))
  (tSeqD (tIfD (tTestB (tOpD rdNe (tOpD rdIx (tVarD 0) (tCD (.int 0))) (tLstD tNilD)))
    (tSetD 4 (tOpD rdIx (tOpD rdIx (tVarD 0) (tCD (.int 0))) (tOpD (rdIC (fun _ j => 0 < j) fun i j => i % j) (tCBD rdInt (tConsD (tVarD 3) tNilD)) (tCBD rdLen (tConsD (tOpD rdIx (tVarD 0) (tCD (.int 0))) tNilD)))))
    tNextD)
  (tSieveB c1 c2 m1 c3 m2 m3 dv))))))
/-- the numbers that mix are of a size that the model takes -/
def mixOk (c1 c2 m1 c3 m2 m3 : Int) : Bool := decide (0 ≤ c1 ∧ c1 ≤ 130000 ∧ 0 ≤ c2 ∧ c2 ≤ 100000 ∧ 0 < m1 ∧ m1 ≤ 2147483647 ∧ 0 ≤ c3 ∧ c3 ≤ 130000 ∧ 0 < m2 ∧ m2 ≤ 2147483647 ∧ 0 < m3 ∧ m3 ≤ 2147483647)
theorem mul_bd {a b x y : Int} (h0 : 0 ≤ a) (h1 : a ≤ x) (h2 : 0 ≤ b) (h3 : b ≤ y) : 0 ≤ a * b ∧ a * b ≤ x * y :=
  ⟨Int.mul_nonneg h0 h2, Int.mul_le_mul h1 h3 h2 (by omega)⟩
theorem toPys_ints : ∀ cs : List Int, toPys (cs.map D.int) = some (cs.map PyData.int)
  | [] => rfl
  | c :: cs => by simp only [List.map_cons, toPys, toPy, toPys_ints cs]
theorem canLay_ints : ∀ cs : List Int, PyData.canLayAll0 (cs.map PyData.int) = true
  | [] => rfl
  | c :: cs => by simp only [List.map_cons, PyData.canLayAll0, PyData.canLay0, canLay_ints cs, Bool.and_true]
theorem depth_ints : ∀ cs : List Int, PyData.depthAll (cs.map PyData.int) = 0
  | [] => rfl
  | c :: cs => by simp only [List.map_cons, PyData.depthAll, PyData.depth, depth_ints cs, Nat.max_self]
theorem eq_ints_nil (cells : List Int) : eqD (.lst (cells.map D.int)) (.lst []) = some cells.isEmpty := by
  have s1 : SeqAt.shaped (.list (cells.map PyData.int)) = true := by
    unfold SeqAt.shaped
    simp only [PyData.canLay0, canLay_ints, PyData.depth, depth_ints]
    rfl
  have s2 : SeqAt.shaped (.list []) = true := by decide
  unfold eqD
  simp only [toPy, toPys_ints, toPys, Option.map, s1, s2, Bool.and_self, if_true]
  cases cells <;> simp [PyData.eqv, PyData.eqvAll]
theorem sieveC {c1 c2 m1 c3 m2 m3 dv : Int} (hdv : 0 < dv ∧ dv ≤ 1000) (ok : mixOk c1 c2 m1 c3 m2 m3 = true) {W : WD} {a : Addr} {m turn cell : Int} {M : MH} {F : QD} {R : EnvD → MH → Prop} (hm : 0 < m) (h0 : 0 ≤ turn) (ht : turn ≤ 8000000)
    (k' : ∀ x : Int, F (.int (x % m)) M) :
    tSieveC c1 c2 m1 c3 m2 m3 dv W { nx := R, rt := F } [some (.ref a), some (.int m), none, some (.int turn), some (.int cell), none] M := by
  obtain ⟨o1, o2, o3, o4, o5, o6, o7, o8, o9, o10, o11, o12⟩ := of_decide_eq_true ok
  have b0 := Int.emod_nonneg cell (show m1 ≠ 0 by omega)
  have b1 := Int.emod_lt_of_pos cell o5
  have q1 := mul_bd o7 o8 h0 ht
  have q2 := mul_bd o1 o2 h0 ht
  have q3 := mul_bd q2.1 q2.2 h0 ht
  unfold tSieveC
  walk_at "z"
  refine w_rdIC o5 ?_
  walk_at "z"
  refine w_rdMul (mulOk_l ⟨by omega, by omega⟩) ?_
  walk_at "z"
  refine w_rdIC (by show CPow _ 5; unfold CPow; omega) ?_
  walk_at "z"
  refine w_rdIC o9 ?_
  generalize hx : (cell % m1 + c3 * turn + c2) ^ Int.toNat 5 = x
  have b2 := Int.emod_nonneg x (show m2 ≠ 0 by omega)
  have b3 := Int.emod_lt_of_pos x o9
  generalize x % m2 = y at b2 b3
  have q4 := mul_bd (x := 2147483647) (y := 16200000) b2 (by omega) (show 0 ≤ 2 * turn + c2 by omega) (by omega)
  walk_at "z"
  refine w_rdMul (mulOk_l ⟨by omega, by omega⟩) ?_
  walk_at "z"
  refine w_rdMul (mulOk_l ⟨by omega, by omega⟩) ?_
  walk_at "z"
  refine w_rdMul (mulOk_l ⟨by omega, by omega⟩) ?_
  walk_at "z"
  refine w_rdMul (mulOk_l ⟨by omega, by omega⟩) ?_
  walk_at "z"
  refine w_rdIC (by show CPow _ 3; unfold CPow; omega) ?_
  walk_at "z"
  refine w_rdIC o11 ?_
  walk_at "z"
  refine w_rdIC ⟨by omega, Nat.lt_of_le_of_lt (Nat.log2_le_self _) (by omega)⟩ ?_
  walk_at "z"
  refine w_rdIC hm ?_
  exact k' _
theorem sieveB {c1 c2 m1 c3 m2 m3 dv : Int} (hdv : 0 < dv ∧ dv ≤ 1000) (ok : mixOk c1 c2 m1 c3 m2 m3 = true) {W : WD} {a : Addr} {m turn left cell : Int} {cells : List Int} {M : MH} {F : QD} {R : EnvD → MH → Prop} (hm : 0 < m) (hlog : m.natAbs.log2 < 9000) (h0 : 0 ≤ turn) (ht : turn ≤ 8000000) (hl : 0 ≤ left)
    (k' : ∀ x left' : Int, 0 ≤ left' → F (.int (x % m)) (mput M a (.lst (nutL cells (turn + 1) left')))) :
    tSieveB c1 c2 m1 c3 m2 m3 dv W { nx := R, rt := F } [some (.ref a), some (.int m), none, some (.int turn), some (.int cell), none] (mput M a (.lst (nutL cells (turn + 1) left))) := by
  have mdv : ∀ x, DivOk x m := fun x => ⟨by omega, hlog⟩
  have fd : ∀ x : Int, 0 ≤ x → 0 ≤ x.fdiv m := fun x hx => by rw [Int.fdiv_eq_ediv_of_nonneg _ (by omega)]; exact Int.ediv_nonneg hx (by omega)
  have e : (mput M a (.lst (nutL cells (turn + 1) left))) a = some (.lst (nutL cells (turn + 1) left)) := mput_same
  have p18 : (10 : Int) ^ (18 : Int).toNat = 1000000000000000000 := by decide
  unfold tSieveB
  walk_at "z"
  refine w_ixR e rfl ?_
  walk_at "z"
  refine w_dec (fun c => ?_) (fun c => ?_)
  · walk_at "z"
    refine w_rdIC (by show CPow 10 18; unfold CPow; omega) ?_
    walk_at "z"
    rw [p18]
    refine w_dec (fun c2 => ?_) (fun c2 => ?_)
    · walk_at "z"
      refine w_rdIC (by show CPow 10 18; unfold CPow; omega) ?_
      walk_at "z"
      rw [p18]
      refine w_rdMul (mulOk_l ⟨by omega, by omega⟩) ?_
      walk_at "z"
      refine w_rdIC (mdv _) ?_
      walk_at "z"
      refine w_setIx2 e rfl ?_
      walk_at "z"
      refine w_rdIC hm ?_
      show F _ (mput (mput M a _) a (.lst (nutL cells (turn + 1) _)))
      rw [mput_mput]
      refine k' _ _ (fd _ ?_)
      split <;> omega
    · walk_at "z"
      exact sieveC hdv ok hm h0 ht fun x => k' x left hl
  · walk_at "z"
    exact sieveC hdv ok hm h0 ht fun x => k' x left hl
theorem wp_sieve {c1 c2 m1 c3 m2 m3 dv : Int} (hdv : 0 < dv ∧ dv ≤ 1000) {N : List Str} (hN6 : N.length = 6) (ok : mixOk c1 c2 m1 c3 m2 m3 = true) (W : WD) (ds : List D) (M : MH) (F : QD) (E : ED) (h : spSieve ds M F E) :
    tSieve c1 c2 m1 c3 m2 m3 dv W { nx := fun _ M => F .non M, rt := F } (startD N ds) M := by
  obtain ⟨a, t, rest, rfl, ⟨m, rfl, hm, hlog⟩, ⟨cells, turn, left, e, h0, ht, hl, hc⟩, htt, k⟩ := h
  have ok' := of_decide_eq_true ok
  obtain ⟨o1, o2, o3, o4, o5, o6, o7, o8, o9, o10, o11, o12⟩ := ok'
  have mdv : ∀ x, DivOk x m := fun x => ⟨by omega, hlog⟩
  have k' : ∀ x turn' left' : Int, turn ≤ turn' → turn' ≤ turn + 1 → 0 ≤ left' → F (.int (x % m)) (mput M a (.lst (nutL cells turn' left'))) := fun x turn' left' b1 b2 b3 =>
    k _ _ ⟨cells, turn', left', mput_same, by omega, by omega, b3, hc⟩ .put ⟨m, _, rfl, rfl, Int.emod_nonneg _ (by omega), Int.emod_lt_of_pos _ hm⟩
  have fd : ∀ x : Int, 0 ≤ x → 0 ≤ x.fdiv m := fun x hx => by rw [Int.fdiv_eq_ediv_of_nonneg _ (by omega)]; exact Int.ediv_nonneg hx (by omega)
  have e2 : (mput M a (.lst (nutL cells (turn + 1) left))) a = some (.lst (nutL cells (turn + 1) left)) := mput_same
  rw [show startD N [.ref a, .int m] = [some (.ref a), some (.int m), none, none, none, none] by unfold startD; rw [hN6]; rfl]
  unfold tSieve
  walk_at "z"
  refine w_ixR e rfl ?_
  walk_at "z"
  refine w_dec (fun c => ?_) (fun c => ?_)
  · walk_at "z"
    refine w_ixR e rfl ?_
    walk_at "z"
    refine w_rdIC (mdv _) ?_
    walk_at "z"
    refine w_setIx2 e rfl ?_
    walk_at "z"
    refine w_rdIC hm ?_
    exact k' left turn (left.fdiv m) (Int.le_refl _) (by omega) (fd _ (by omega))
  · walk_at "z"
    refine w_ixR e rfl ?_
    walk_at "z"
    refine w_setIx2 e rfl ?_
    walk_at "z"
    refine w_rdMul (mulOk_l ⟨by omega, by omega⟩) ?_
    walk_at "z"
    refine w_ixR e2 rfl ?_
    walk_at "z"
    refine w_small (Nat.zero_le _) ?_
    walk_at "z"
    refine w_ne (eq_ints_nil _) ?_
    refine w_bool (fun c2 => ?_) (fun c2 => ?_)
    · have hne : 0 < cells.length := by cases cells with | nil => simp at c2 | cons _ _ => simp
      walk_at "z"
      refine w_ixR e2 rfl ?_
      walk_at "z"
      refine w_ixR e2 rfl ?_
      walk_at "z"
      have hpos : (0 : Int) < ((cells.map D.int).length : Int) := by rw [List.length_map]; omega
      refine w_rdIC hpos ?_
      have h1 := Int.emod_nonneg turn (show ((cells.map D.int).length : Int) ≠ 0 by omega)
      have h2 := Int.emod_lt_of_pos turn hpos
      obtain ⟨j, hj⟩ : ∃ j : Nat, turn % ((cells.map D.int).length : Int) = (j : Int) := ⟨_, (Int.toNat_of_nonneg h1).symm⟩
      have hj' : j < cells.length := by rw [List.length_map] at hj h2; omega
      rw [hj]
      refine w_ixL (x := .int cells[j]) (atI_nat (by simp [hj'])) ?_
      exact sieveB hdv ok hm hlog h0 (by omega) hl fun x left' hl' => k' x (turn + 1) left' (by omega) (Int.le_refl _) hl'
    · walk_at "z"
      exact sieveB hdv ok hm hlog h0 (by omega) hl fun x left' hl' => k' x (turn + 1) left' (by omega) (Int.le_refl _) hl'
end Z

set_option Elab.async false
set_option linter.all false
set_option maxRecDepth 100000
set_option maxHeartbeats 4000000
namespace Z
local macro_rules | `(tactic| walk_at "z at") => `(tactic| first | rfl | (simp only [atI, ixN, List.length_cons, List.length_nil, List.length_map]; rfl) | assumption)
local macro_rules | `(tactic| walk_at "z1") => `(tactic| first
  | with_reducible refine w_seq ?_ | with_reducible refine w_set ?_ | with_reducible refine w_ret ?_ | with_reducible refine w_if ?_ | with_reducible refine w_asg ?_ | with_reducible refine w_next ?_ | with_reducible refine w_setIx ?_ | with_reducible refine w_par ?_
  | ((with_reducible refine' w_var ?h ?_); (case h => exact rfl))
  | with_reducible refine w_c ?_ | with_reducible refine w_op ?_ | with_reducible refine w_un ?_ | with_reducible refine w_cons ?_ | with_reducible refine w_nil ?_ | with_reducible refine w_cb ?_
  | with_reducible refine w_call ?_ | with_reducible refine w_callK ?_ | with_reducible refine w_testB ?_ | with_reducible refine w_tru ?_ | with_reducible refine w_andD ?_ | with_reducible refine w_orD ?_ | with_reducible refine w_notD ?_
  | with_reducible refine w_andE ?_ | with_reducible refine w_orE ?_ | with_reducible refine w_notE ?_ | with_reducible refine w_ifE ?_ | with_reducible refine w_is ?_ | with_reducible refine w_isN ?_ | with_reducible refine w_notN ?_ | with_reducible refine w_tupOf ?_
  | with_reducible refine w_tup ?_ | with_reducible refine w_lst ?_ | with_reducible refine w_lstM ?_ | with_reducible refine w_sl ?_ | with_reducible refine w_part ?_ | with_reducible refine w_noPart ?_ | with_reducible refine w_repr ?_ | with_reducible refine w_seqI ?_
  | with_reducible refine w_rdI ?_ | with_reducible refine w_rdB ?_ | with_reducible refine w_rdAdd ?_ | with_reducible refine w_neg ?_ | with_reducible refine w_lenL ?_ | with_reducible refine w_lenT ?_ | with_reducible refine w_abs ?_ | with_reducible refine w_int ?_ | with_reducible refine w_intB ?_ | with_reducible refine w_gcd ?_
  | with_reducible refine w_gname ?_ | with_reducible refine w_gnil ?_ | with_reducible refine w_gcons ?_
  | with_reducible refine w_true ?_ | with_reducible refine w_false ?_
  | dsimp only [truthD, seqD, isNonD, permL, List.filterMap] | with_reducible refine w_drop ?_ | with_reducible refine w_retN ?_ | with_reducible refine w_nilP ?_ | with_reducible refine w_consP ?_ | with_reducible refine w_rng ?_ | with_reducible refine w_cont ?_ | with_reducible refine w_brk ?_)
local macro_rules | `(tactic| walk_at "z") => `(tactic| repeat walk_at "z1")
open PySem L2

def tPick : TSD := (tRetD (tOpD rdIx (tVarD 1) (tCallD spSieve (tConsD (tVarD 0) (tConsD (tCBD rdLen (tConsD (tVarD 1) tNilD)) tNilD)))))
theorem log2_small {n : Nat} (h : n ≤ 1000000) : n.log2 < 9000 := by
  have : n.log2 ≤ n := Nat.log2_le_self n
  by_cases h0 : n = 0
  · subst h0; decide
  · have h2 : n.log2 < 20 := (Nat.log2_lt h0).mpr (Nat.lt_of_le_of_lt h (by decide))
    omega
theorem wp_pick {N : List Str} (hN2 : N.length = 2) (W : WD) (ds : List D) (M : MH) (F : QD) (E : ED) (h : spPick ds M F E) :
    tPick W { nx := fun _ M => F .non M, rt := F } (startD N ds) M := by
  obtain ⟨a, t, rest, rfl, ⟨xs, rfl, h0, hl⟩, hN, ht, k⟩ := h
  rw [show startD N [.ref a, .lst xs] = [some (.ref a), some (.lst xs)] by unfold startD; rw [hN2]; rfl]
  unfold tPick
  walk_at "z"
  refine sieve_do hN ht (by omega) (log2_small (by omega)) fun n M' n0 n1 N' U' => ?_
  obtain ⟨j, rfl⟩ : ∃ j : Nat, n = (j : Int) := ⟨_, (Int.toNat_of_nonneg n0).symm⟩
  have hj : j < xs.length := by omega
  refine w_ixL (x := xs[j]) (atI_nat (by simp [hj])) ?_
  exact k _ _ N' U' ⟨xs, rfl, List.getElem_mem hj⟩
/-- what draws, made of a script -/
def spGrit : SpD := fun ds M F _ => ∃ ns : List Int, ds = [.lst (ns.map D.int)] ∧ ns.length ≤ 63 ∧ ∀ p M', M p = none → NutAt M' p 0 → Upd1 M p M' → F (.ref p) M'
def tGrit (n : Int) : TSD := (tRetD (tLstM (tConsD (tLcD (iSeqD (tSlD (tVarD 0) tNoPartD (tPartD (tCD (.int n))))) (gNameD 1) tYesD (tCBD rdInt (tConsD (tVarD 1) tNilD)) [1]) (tConsD (tCD (.int 0)) (tConsD (tCD (.int 0)) tNilD)))))
theorem wp_grit {n : Int} {N : List Str} (hN2 : N.length = 2) (W : WD) (ds : List D) (M : MH) (F : QD) (E : ED) (h : spGrit ds M F E) :
    tGrit n W { nx := fun _ M => F .non M, rt := F } (startD N ds) M := by
  obtain ⟨ns, rfl, hl, k⟩ := h
  obtain ⟨cells, hc, hcl⟩ : ∃ cells : List Int, cutD (ns.map D.int) none (some n) = cells.map D.int ∧ cells.length ≤ 63 :=
    ⟨(ns.drop _).take _, by unfold cutD; rw [← List.map_drop, ← List.map_take], by rw [List.length_take, List.length_drop]; omega⟩
  rw [show startD N [.lst (ns.map D.int)] = [some (.lst (ns.map D.int)), none] by unfold startD; rw [hN2]; rfl]
  unfold tGrit
  walk_at "z"
  refine lc_pure (cells.map D.int) id (fun _ => true) (by rw [List.length_map]; omega) M ?_ ?_ ?_
  · intro x hx M2 R r
    obtain ⟨c, _, rfl⟩ := List.mem_map.mp hx
    walk_at "z"
    refine r _ (fun R2 h => h) fun _ R3 h => ?_
    walk_at "z"
    exact h
  · rw [List.map_id, List.filter_eq_self.mpr (fun _ _ => rfl)]
    walk_at "z"
    refine w_small (by show 3 ≤ 16777216; decide) fun p hp => ?_
    exact k p _ hp ⟨cells, 0, 0, mput_same, by omega, by omega, by omega, hcl⟩ .put
  · intro R r
    walk_at "z"
    rw [← hc] at r
    exact r
end Z

set_option Elab.async false
set_option linter.all false
set_option maxRecDepth 100000
set_option maxHeartbeats 4000000
namespace Z
local macro_rules | `(tactic| walk_at "z at") => `(tactic| first | rfl | (simp only [atI, ixN, List.length_cons, List.length_nil, List.length_map]; rfl) | assumption)
local macro_rules | `(tactic| walk_at "z1") => `(tactic| first
  | with_reducible refine w_seq ?_ | with_reducible refine w_set ?_ | with_reducible refine w_ret ?_ | with_reducible refine w_if ?_ | with_reducible refine w_asg ?_ | with_reducible refine w_next ?_ | with_reducible refine w_setIx ?_ | with_reducible refine w_par ?_
  | ((with_reducible refine' w_var ?h ?_); (case h => exact rfl))
  | with_reducible refine w_c ?_ | with_reducible refine w_op ?_ | with_reducible refine w_un ?_ | with_reducible refine w_cons ?_ | with_reducible refine w_nil ?_ | with_reducible refine w_cb ?_
  | with_reducible refine w_call ?_ | with_reducible refine w_callK ?_ | with_reducible refine w_testB ?_ | with_reducible refine w_tru ?_ | with_reducible refine w_andD ?_ | with_reducible refine w_orD ?_ | with_reducible refine w_notD ?_
  | with_reducible refine w_andE ?_ | with_reducible refine w_orE ?_ | with_reducible refine w_notE ?_ | with_reducible refine w_ifE ?_ | with_reducible refine w_is ?_ | with_reducible refine w_isN ?_ | with_reducible refine w_notN ?_ | with_reducible refine w_tupOf ?_
  | with_reducible refine w_tup ?_ | with_reducible refine w_lst ?_ | with_reducible refine w_lstM ?_ | with_reducible refine w_sl ?_ | with_reducible refine w_part ?_ | with_reducible refine w_noPart ?_ | with_reducible refine w_repr ?_ | with_reducible refine w_seqI ?_
  | with_reducible refine w_rdI ?_ | with_reducible refine w_rdB ?_ | with_reducible refine w_rdAdd ?_ | with_reducible refine w_neg ?_ | with_reducible refine w_lenL ?_ | with_reducible refine w_lenT ?_ | with_reducible refine w_abs ?_ | with_reducible refine w_int ?_ | with_reducible refine w_intB ?_ | with_reducible refine w_gcd ?_
  | with_reducible refine w_gname ?_ | with_reducible refine w_gnil ?_ | with_reducible refine w_gcons ?_
  | with_reducible refine w_true ?_ | with_reducible refine w_false ?_
  | dsimp only [truthD, seqD, isNonD, permL, List.filterMap] | with_reducible refine w_drop ?_ | with_reducible refine w_retN ?_ | with_reducible refine w_nilP ?_ | with_reducible refine w_consP ?_ | with_reducible refine w_rng ?_ | with_reducible refine w_cont ?_ | with_reducible refine w_brk ?_)
local macro_rules | `(tactic| walk_at "z") => `(tactic| repeat walk_at "z1")
open PySem L2

/-! ### data: no instances, no classes, no addresses, all the way in -/
mutual
def plainD : D → Bool
  | .non | .bl _ | .int _ | .str _ | .flt _ | .dct _ => true
  | .lst xs | .tup xs => plainDs xs
  | _ => false
def plainDs : List D → Bool
  | [] => true
  | x :: xs => plainD x && plainDs xs
end
theorem plainDs_iff : ∀ {xs : List D}, plainDs xs = true ↔ ∀ x ∈ xs, plainD x = true
  | [] => by simp [plainDs]
  | x :: xs => by simp [plainDs, plainDs_iff (xs := xs)]
theorem plain_at {xs : List D} {i : Int} {x : D} (h : plainDs xs = true) (e : atI xs i = some x) : plainD x = true := by
  unfold atI at e
  cases q : ixN xs.length i with
  | none => rw [q] at e; cases e
  | some j => rw [q] at e; exact plainDs_iff.mp h x (List.mem_of_getElem? e)
def isIntB : D → Bool | .int _ => true | _ => false
theorem tag_int {d : D} (h : plainD d = true) : isTag .int d = some (match d with | .int _ => true | .bl _ => true | _ => false) := by cases d <;> first | rfl | (simp [plainD] at h)
theorem tag_bool {d : D} (h : plainD d = true) : isTag .bool d = some (match d with | .bl _ => true | _ => false) := by cases d <;> first | rfl | (simp [plainD] at h)
theorem tag_str {d : D} (h : plainD d = true) : isTag .str d = some (match d with | .str _ => true | _ => false) := by cases d <;> first | rfl | (simp [plainD] at h)
theorem tag_lt {d : D} (h : plainD d = true) : isTag2 .list .tuple d = some (seqD d).isSome := by cases d <;> first | rfl | (simp [plainD] at h)
theorem seq_plain {d : D} {xs : List D} (h : plainD d = true) (e : seqD d = some xs) : plainDs xs = true := by
  cases d <;> simp [seqD] at e <;> subst e <;> simpa [plainD] using h
/-- a question about one value -/
def spF1 (g : D → Bool) : SpD := fun ds M F _ => ∃ d, ds = [d] ∧ plainD d = true ∧ F (.bl (g d)) M
theorem f1_do {g : D → Bool} {d : D} {M : MH} {F : QD} {E : ED} (h : plainD d = true) (k : F (.bl (g d)) M) : spF1 g [d] M F E := ⟨d, rfl, h, k⟩
/-- a list comprehension whose element draws -/
theorem lc_draw {ti : TAD} {te : TED} {v : Nat} {W : WD} {τ : EnvD} {M : MH} {Q : QD} (xs : List D) (M1 : MH) {a : Addr} {t c : Int} {P : D → Prop} (hN : NutAt M1 a t) (hc : 0 ≤ c) (hl : xs.length ≤ 16777216)
    (step : ∀ x ∈ xs, ∀ t' M2 (R : QD), NutAt M2 a t' → t ≤ t' → t' + c ≤ t + xs.length * c → (∀ d M3, NutAt M3 a (t' + c) → Upd1 M2 a M3 → P d → R d M3) → te noW (setN (wipeD τ [v]) v (some x)) M2 R)
    (hq : ∀ ds M3, NutAt M3 a (t + xs.length * c) → Upd1 M1 a M3 → ds.length = xs.length → (∀ d ∈ ds, P d) → Q (.lst ds) M3) (hi : ∀ R : List D → MH → Prop, R xs M1 → ti W τ M R) : tLcD ti (gNameD v) tYesD te [v] W τ M Q := by
  refine hi _ fun p hp => ⟨fun i M2 => ∃ acc, M2 p = some (.lst acc) ∧ NutAt M2 a (t + i * c) ∧ (∀ b, b ≠ a → b ≠ p → M2 b = M1 b) ∧ acc.length = i ∧ ∀ d ∈ acc, P d, ?_, ?_, ?_⟩
  · have n : a ≠ p := fun e => by obtain ⟨_, _, _, h, _⟩ := hN; rw [e, hp] at h; cases h
    refine ⟨[], mput_same, ?_, fun b _ h2 => mput_ne h2, rfl, fun d h => by cases h⟩
    obtain ⟨cs, u, f, h, r⟩ := hN
    exact ⟨cs, u, f, by rw [mput_ne n]; exact h, by simpa using r⟩
  · rintro i x M2 hx ⟨acc, h1, h2, h3, h4, h5⟩
    have n : a ≠ p := fun e => by obtain ⟨_, _, _, h, _⟩ := hN; rw [e, hp] at h; cases h
    have hi' : i < xs.length := (List.getElem?_eq_some_iff.mp hx).1
    have e1 : ((i : Int) + 1) * c ≤ xs.length * c := Int.mul_le_mul_of_nonneg_right (by omega) hc
    have e0 : 0 ≤ (i : Int) * c := Int.mul_nonneg (by omega) hc
    have e2 : ((i : Int) + 1) * c = i * c + c := by rw [Int.add_mul, Int.one_mul]
    refine w_gname ?_
    show (true = true → _) ∧ (true = false → _)
    refine w_true ?_
    refine step x (List.mem_of_getElem? hx) (t + i * c) M2 _ h2 (by omega) (by omega) fun d M3 n3 u3 pd => ?_
    rw [u3 p (Ne.symm n), h1]
    refine ⟨by omega, acc ++ [d], mput_same, ?_, fun b b1 b2 => by rw [mput_ne b2, u3 b b1]; exact h3 b b1 b2, by simp [h4], fun e he => ?_⟩
    · obtain ⟨cs, u, f, h, r1, r2, r3⟩ := n3
      refine ⟨cs, u, f, by rw [mput_ne n]; exact h, r1, ?_, r3⟩
      have e3 : ((i + 1 : Nat) : Int) * c = i * c + c := by rw [← e2]; rfl
      omega
    · rcases List.mem_append.mp he with he | he
      · exact h5 e he
      · rw [List.mem_singleton] at he; rw [he]; exact pd
  · rintro M2 ⟨acc, h1, h2, h3, h4, h5⟩
    have n : a ≠ p := fun e => by obtain ⟨_, _, _, h, _⟩ := hN; rw [e, hp] at h; cases h
    show match M2 p with | some (.lst acc) => _ | _ => False
    rw [h1]
    refine hq acc _ ?_ (fun b hb => ?_) h4 h5
    · obtain ⟨cs, u, f, h, r⟩ := h2
      exact ⟨cs, u, f, by rw [mdel_ne n]; exact h, r⟩
    · by_cases e : b = p
      · subst e; rw [mdel_same, hp]
      · rw [mdel_ne e]; exact h3 b hb e
end Z

set_option Elab.async false
set_option linter.all false
set_option maxRecDepth 100000
set_option maxHeartbeats 4000000
namespace Z
local macro_rules | `(tactic| walk_at "z at") => `(tactic| first | rfl | (simp only [atI, ixN, List.length_cons, List.length_nil, List.length_map]; rfl) | assumption)
local macro_rules | `(tactic| walk_at "z1") => `(tactic| first
  | with_reducible refine w_seq ?_ | with_reducible refine w_set ?_ | with_reducible refine w_ret ?_ | with_reducible refine w_if ?_ | with_reducible refine w_asg ?_ | with_reducible refine w_next ?_ | with_reducible refine w_setIx ?_ | with_reducible refine w_par ?_
  | ((with_reducible refine' w_var ?h ?_); (case h => exact rfl))
  | with_reducible refine w_c ?_ | with_reducible refine w_op ?_ | with_reducible refine w_un ?_ | with_reducible refine w_cons ?_ | with_reducible refine w_nil ?_ | with_reducible refine w_cb ?_
  | with_reducible refine w_call ?_ | with_reducible refine w_callK ?_ | with_reducible refine w_testB ?_ | with_reducible refine w_tru ?_ | with_reducible refine w_andD ?_ | with_reducible refine w_orD ?_ | with_reducible refine w_notD ?_
  | with_reducible refine w_andE ?_ | with_reducible refine w_orE ?_ | with_reducible refine w_notE ?_ | with_reducible refine w_ifE ?_ | with_reducible refine w_is ?_ | with_reducible refine w_isN ?_ | with_reducible refine w_notN ?_ | with_reducible refine w_tupOf ?_
  | with_reducible refine w_tup ?_ | with_reducible refine w_lst ?_ | with_reducible refine w_lstM ?_ | with_reducible refine w_sl ?_ | with_reducible refine w_part ?_ | with_reducible refine w_noPart ?_ | with_reducible refine w_repr ?_ | with_reducible refine w_seqI ?_
  | with_reducible refine w_rdI ?_ | with_reducible refine w_rdB ?_ | with_reducible refine w_rdAdd ?_ | with_reducible refine w_neg ?_ | with_reducible refine w_lenL ?_ | with_reducible refine w_lenT ?_ | with_reducible refine w_abs ?_ | with_reducible refine w_int ?_ | with_reducible refine w_intB ?_ | with_reducible refine w_gcd ?_
  | with_reducible refine w_gname ?_ | with_reducible refine w_gnil ?_ | with_reducible refine w_gcons ?_
  | with_reducible refine w_true ?_ | with_reducible refine w_false ?_
  | dsimp only [truthD, seqD, isNonD, permL, List.filterMap] | with_reducible refine w_drop ?_ | with_reducible refine w_retN ?_ | with_reducible refine w_nilP ?_ | with_reducible refine w_consP ?_ | with_reducible refine w_rng ?_ | with_reducible refine w_cont ?_ | with_reducible refine w_brk ?_)
local macro_rules | `(tactic| walk_at "z") => `(tactic| repeat walk_at "z1")
open PySem L2 PySem.Spec PyProof.Rows

/-! ### own exceptions: what the written part says of such a class -/
structure ExK (K : PySem.W.Frag) (C : Addr) : Prop where
  o : OexC K C
  ga : PySem.W.findIn K (.ref C) "__getattribute__" = some (some (.builtin "BaseException.__getattribute__"))
  gg : PySem.W.findIn K (.ref C) "__getattr__" = some none
  hd : PySem.W.hasDictIn K C = true
  ca : PySem.W.findIn K (.ref C) "__class__" = some (some (.builtin "object.__class__"))
  om : PySem.W.mroIn K C (.type "object") = some true
  ic : PySem.W.isClsIn K C = true
  sg : PySem.W.specialIn K (.builtin "object.__class__") "__get__" = some (some (.builtin "getset_descriptor.__get__"))
  tg : PySem.W.takesIn K (.builtin "object.__class__") = some true

/-! ### an exception that a clause has caught, and a name keeps: laid open in the heap -/
theorem exc_ext {P : Program} {w : World} {H : Hp} {h : Heap} {a C : Addr} {dx : Option Addr} {oe : Obj} {vs : Array Value} (e : h.get? a = some oe) (z : Zc (.ref C) dx oe) (hv : oe.data = .fields vs) : ObjOk P w H h a (.ext (ExcAt a C dx)) :=
  ⟨⟨oe, vs, e, z.1, z.2, hv⟩, ⟨oe, e⟩, fun _ _ ⟨o1, w1, q1, q2, q3, q4⟩ kk => ⟨o1, w1, kk _ q1, q2, q3, q4⟩⟩
theorem lay_exc {X : Cx} {pins : List (Addr × Obj)} {σ : L2.St} {H : Hp} {s : Shared} {a C : Addr} {dx : Option Addr} {oe : Obj} {vs : Array Value} (I : Inv X pins σ H s) (e : s.heap.get? a = some oe) (z : Zc (.ref C) dx oe) (hv : oe.data = .fields vs)
    (na : H a = none) (nL : a ≠ X.env.locals) (np : ∀ p ∈ X.pn ++ pins, p.1 ≠ a) (n0 : X.s_0.heap.get? a = none) : Inv X pins σ (upd H a (.ext (ExcAt a C dx))) s := by
  have un : ∀ {b : Addr} {u : HO}, H b = some u → b ≠ a := fun q w => by rw [w, na] at q; cases q
  have ub : ∀ {b : Addr} {ob : Obj}, X.s_0.heap.get? b = some ob → b ≠ a := fun q w => by rw [w, n0] at q; cases q
  refine { ok := I.ok, os := I.os, bare := I.bare, loc := I.loc, cell := I.cell, len := I.len, base := ?_, free := ?_, freeC := ?_, pin := ?_, hok := ?_ }
  · exact { keep := I.base.keep, slot := I.base.slot, there := I.base.there
            free := fun b ob q1 q2 q3 => (upd_ne (ub q1)).trans (I.base.free b ob q1 q2 q3)
            tups := fun b xs q => (upd_ne (un (I.base.tups b xs q))).trans (I.base.tups b xs q)
            frzs := fun b ob v q => (upd_ne (un (I.base.frzs b ob v q))).trans (I.base.frzs b ob v q)
            tbls := fun b ps q => let ⟨m, q'⟩ := I.base.tbls b ps q; ⟨m, (upd_ne (un q')).trans q'⟩ }
  · exact (upd_ne (Ne.symm nL)).trans I.free
  · intro x c q
    refine (upd_ne fun w => ?_).trans (I.freeC x c q)
    obtain ⟨v, hc⟩ := I.cell x c q
    obtain ⟨ob, q1, q2⟩ := hc
    rw [w, e] at q1
    cases q1
    rw [hv] at q2
    cases q2
  · intro p hp
    obtain ⟨q1, q2, q3⟩ := I.pin p hp
    exact ⟨q1, (upd_ne (np p hp)).trans q2, q3⟩
  · intro b ob q
    by_cases hb : b = a
    · subst hb
      rw [upd_same] at q
      cases q
      exact exc_ext e z hv
    · rw [upd_ne hb] at q
      exact (I.hok b ob q).stay (fun _ _ _ w => w) (fun c w => (upd_ne (un w)).trans w) fun c xs w => (upd_ne (un w)).trans w
end Z

set_option Elab.async false
set_option linter.all false
set_option maxRecDepth 100000
set_option maxHeartbeats 4000000
namespace Z
local macro_rules | `(tactic| walk_at "z at") => `(tactic| first | rfl | (simp only [atI, ixN, List.length_cons, List.length_nil, List.length_map]; rfl) | assumption)
local macro_rules | `(tactic| walk_at "z1") => `(tactic| first
  | with_reducible refine w_seq ?_ | with_reducible refine w_set ?_ | with_reducible refine w_ret ?_ | with_reducible refine w_if ?_ | with_reducible refine w_asg ?_ | with_reducible refine w_next ?_ | with_reducible refine w_setIx ?_ | with_reducible refine w_par ?_
  | ((with_reducible refine' w_var ?h ?_); (case h => exact rfl))
  | with_reducible refine w_c ?_ | with_reducible refine w_op ?_ | with_reducible refine w_un ?_ | with_reducible refine w_cons ?_ | with_reducible refine w_nil ?_ | with_reducible refine w_cb ?_
  | with_reducible refine w_call ?_ | with_reducible refine w_callK ?_ | with_reducible refine w_testB ?_ | with_reducible refine w_tru ?_ | with_reducible refine w_andD ?_ | with_reducible refine w_orD ?_ | with_reducible refine w_notD ?_
  | with_reducible refine w_andE ?_ | with_reducible refine w_orE ?_ | with_reducible refine w_notE ?_ | with_reducible refine w_ifE ?_ | with_reducible refine w_is ?_ | with_reducible refine w_isN ?_ | with_reducible refine w_notN ?_ | with_reducible refine w_tupOf ?_
  | with_reducible refine w_tup ?_ | with_reducible refine w_lst ?_ | with_reducible refine w_lstM ?_ | with_reducible refine w_sl ?_ | with_reducible refine w_part ?_ | with_reducible refine w_noPart ?_ | with_reducible refine w_repr ?_ | with_reducible refine w_seqI ?_
  | with_reducible refine w_rdI ?_ | with_reducible refine w_rdB ?_ | with_reducible refine w_rdAdd ?_ | with_reducible refine w_neg ?_ | with_reducible refine w_lenL ?_ | with_reducible refine w_lenT ?_ | with_reducible refine w_abs ?_ | with_reducible refine w_int ?_ | with_reducible refine w_intB ?_ | with_reducible refine w_gcd ?_
  | with_reducible refine w_gname ?_ | with_reducible refine w_gnil ?_ | with_reducible refine w_gcons ?_
  | with_reducible refine w_true ?_ | with_reducible refine w_false ?_
  | dsimp only [truthD, seqD, isNonD, permL, List.filterMap] | with_reducible refine w_drop ?_ | with_reducible refine w_retN ?_ | with_reducible refine w_nilP ?_ | with_reducible refine w_consP ?_ | with_reducible refine w_rng ?_ | with_reducible refine w_cont ?_ | with_reducible refine w_brk ?_)
local macro_rules | `(tactic| walk_at "z") => `(tactic| repeat walk_at "z1")
open PySem L2 PySem.Spec PyProof.Rows

/-- what a clause that keeps its exception wishes: slot i is its name's -/
def wKeep (K : PySem.W.Frag) (c : Value) (i : Nat) (ts : Addr → TS) (Wout : WX) (D : Ends) : WX := fun cls d σ H =>
  ∃ b, PySem.W.exmOne K cls c = some b ∧
    (b = true → ∀ a, H a = none → ∃ C, cls = .ref C ∧ ts a { nx := fun σ' H' => D.nx (σ'.set i none) (upd H' a (.ext (ExcAt a C d))), rt := fun _ _ => False } (σ.set i (some (.ref a))) H) ∧ (b = false → Wout cls d σ H)
section
variable {X : Cx} {x n : Str} {c : Value} {i : Nat} {body suite : List Stmt} {st0 : Stmt} {p1 p2 p3 : Pos} {tb : WX → TS} {ts : Addr → TS} {Wout : WX}
/-- what stands at a caught exception's address at the end of its suite -/
theorem keep_end {pins : List (Addr × Obj)} {σ σ6 : L2.St} {H6 : Hp} {s6 : Shared} {a C : Addr} {d : Option Addr} {oe : Obj} {vs : Array Value} {D : Ends} (ok : X.Ok) (hN : X.N.Nodup) (hi : X.N[i]? = some n) (hln : X.env.kindOf n = some .local) (z : Zc (.ref C) d oe) (hv : oe.data = .fields vs)
    (n0 : X.s_0.heap.get? a = none) (np : ∀ p ∈ X.pn ++ pins, p.1 ≠ a) (S : Inv (X.suite a ((a, oe) :: (X.pn ++ pins))) [] σ6 H6 s6) (q : D.nx (σ6.set i none) (upd H6 a (.ext (ExcAt a C d)))) {A : Around} {E : Value → Shared → Prop} :
    wpAny (model X.prog X.w) A (do bindName X.env n .none; unbindBehindTheSuite X.env n p3) (fun _ s7 => SP X pins D .next s7) E s6 := by
  have here := S.pin (a, oe) (by simp)
  exact gone_ok (lay_exc (S.unsuite ok) here.1 z hv here.2.1 here.2.2.1 np n0) hN hi hln fun s7 J7 => ⟨_, _, J7, q⟩
theorem ps_try_keep (hs : X.stack = X.env :: X.outer) (hf : X.env.frame = some X.env.locals) (hex : X.ex = []) (hN : X.N.Nodup) (hi : X.N[i]? = some n) (hln : X.env.kindOf n = some .local) (hc : Names X x c) (tk : Takes X Wout)
    (hb : ∀ (W : WX) (pn : List (Addr × Obj)) (xe : Value → Shared → Prop), Takes (X.tr pn xe) W → PassesOwn (model X.prog X.w) X.A X.env xe → PSs (X.tr pn xe) body (tb W))
    (hsu : ∀ (a : Addr) (oe : Obj) (pn : List (Addr × Obj)), PSs (X.suite a ((a, oe) :: pn)) (st0 :: suite) (ts a)) :
    PS X (.Try body [.ExceptHandler (some (.Name x p1)) (some n) (st0 :: suite) p3] [] [] p2) (fun D σ H => tb (wKeep X.K c i ts Wout D) D σ H) := by
  constructor
  intro pins s σ H D I h
  have ok := I.ok
  have stk : X.A.frames = some (X.env :: X.outer) := ok.frames.trans (congrArg some hs)
  refine wpAny_Try_except (wpAny_mono ((hb (wKeep X.K c i ts Wout D) (X.pn ++ pins) _ (fun u s' air => ?_) PassesOwn.looking).run [] s σ H D (I.toTry _) h) ?_ fun _ _ z => z)
  · revert air
    rintro ⟨a, B, sI, _, σ', H', cls, d, rfl, J', nb, up, sky, na, os, ag, b, hb1, hyes, hno⟩
    have J : Inv X pins σ' H' sI := J'.ofTry ok
    rw [show (X.tr (X.pn ++ pins) _).stack = X.env :: X.outer from hs] at sky
    refine (?_ : wpAny (model X.prog X.w) X.A (noteFrame (.ref a) X.env) _ _ _)
    refine Sky.land Zc.steady stk hf sky fun h3 fl3 up3 => ?_
    have up13 := up.trans up3
    have J3 : Inv X pins σ' H' { s' with heap := h3 } := J.landed nb fl3.1 up13 os ag
    obtain ⟨oe3, _, he3, hz3, hd3⟩ := fl3.there
    have nfr : a ∉ frs (X.env :: X.outer) := fun hm => by
      obtain ⟨_, _, e', hnf⟩ := fl3.2.2.1.mem hm
      cases he3.symm.trans e'
      exact hnf _ hd3
    have nL : a ≠ X.env.locals := fun z => nfr (List.mem_filterMap.mpr ⟨_, List.mem_cons_self, z ▸ hf⟩)
    have nF : a ∉ X.fs := fun hm => let ⟨e, m, q⟩ := List.mem_filterMap.mp hm; nfr (List.mem_filterMap.mpr ⟨e, List.mem_cons_of_mem _ m, q⟩)
    have nI : sI.heap.get? a = none := by
      cases q : sI.heap.get? a with
      | none => rfl
      | some ob =>
        have w := nb a ob q (by rw [show (X.tr (X.pn ++ pins) _).stack = X.env :: X.outer from hs]; exact nfr)
        rw [fl3.2.1] at w
        cases w
    have n0 : X.s_0.heap.get? a = none := by
      cases q : X.s_0.heap.get? a with
      | none => rfl
      | some ob =>
        obtain ⟨_, w⟩ := J.base.there a ob q (by rw [hex]; exact List.not_mem_nil)
        rw [nI] at w
        cases w
    have np : ∀ p ∈ X.pn ++ pins, p.1 ≠ a := fun p hp w => by
      have q := (J.pin p hp).1
      rw [w, nI] at q
      cases q
    have S3 := J3.suite he3 hd3 na nL nF
    refine wpAny_handleBy_cons (codeAny_handlers_test ?_) (fun q => nomatch q)
    have LM := PySem.W.exm_one (M := model X.prog X.w) J3.kIn (fun A Q E s k q => wpAny_typeOf_ref (k _ _ he3) (hz3.1.symm ▸ q)) hb1
    have test : ∀ {Q : Value → Shared → Prop} {E : Value → Shared → Prop}, Q c { s' with heap := h3 } → wpAny (model X.prog X.w) (X.A.mark (some (.ref a))) (eval (.Name x p1) X.env) Q E { s' with heap := h3 } := fun q =>
      let ⟨hg, hdb, w⟩ := hc
      w.elim (fun hm => ld_glob (X := X.suite a ((a, oe3) :: (X.pn ++ pins))) S3 hg hm q hdb) fun ⟨hm, hv, hnn⟩ => ld_blt (X := X.suite a ((a, oe3) :: (X.pn ++ pins))) S3 hg hm hv q hnn hdb
    refine test (LM.here ?_)
    cases b with
    | true =>
      obtain ⟨C, rfl, q⟩ := hyes rfl a na
      refine codeAny_handlers_suite_as (HandSPX.lands_againZ fl3 fun h4 fl4 up4 => ?_)
      obtain ⟨oe4, _, he4, hz4, hd4⟩ := fl4.there
      have S4 := (J.landed (s' := { s' with heap := h4 }) nb fl4.1 (up13.trans up4) os ag).suite he4 hd4 na nL nF
      refine store_ok (X := X.suite a ((a, oe4) :: (X.pn ++ pins))) (v := .ref a) S4 hN hi (.inl hln) rfl (fun s5 S5 => ?_) (.inr hln)
      refine wpAny_mono ((hsu a oe4 (X.pn ++ pins)).run [] s5 _ H' _ S5 q) (fun f s6 r => ?_) (fun _ _ z => z.elim)
      cases f with
      | next =>
        obtain ⟨σ6, H6, S6, q6⟩ := r
        exact keep_end (σ := σ6) ok hN hi hln hz4 hd4 n0 np S6 q6
      | brk => obtain ⟨_, _, _, w⟩ := r; exact w.elim
      | cont => obtain ⟨_, _, _, w⟩ := r; exact w.elim
      | ret u => obtain ⟨_, _, _, _, _, w⟩ := r; exact w.elim
    | false =>
      refine (?_ : wpAny _ X.A (handleBy (.ref a) X.env []) _ _ _)
      refine wpAny_handleBy_nil ?_
      obtain ⟨_, _, _, oe, vs, T, _, _, he, _, hd, h1, _⟩ := id fl3
      unfold PySem.passOn
      refine wpAny_bind (wpAny_field he hd h1 ?_)
      rw [if_neg (show ¬ (Value.ref T == Value.none) = true by simp)]
      have fin : wpAny (model X.prog X.w) X.A (setFlight (.ref a) X.env.frame) (fun _ s4 => wpAny (model X.prog X.w) X.A (throw (.ref a) : Sem Flow) (SP X pins D) X.xe s4) X.xe { s' with heap := h3 } :=
        hf ▸ HandSPX.setFlight_upZ fl3 fun h4 hh4 up4 => wpAny_throw (tk _ _ ⟨a, B, sI, pins, σ', H', cls, d, rfl, J, nb, up13.trans up4, .inr (.inr (hs ▸ hh4)), na, os, ag, hno rfl⟩)
      first
        | exact wpAny_bind fin
        | exact wpAny_bind (wpAny_pure (wpAny_bind fin))
  · intro f s1 r
    cases f with
    | next => obtain ⟨_, _, J, q⟩ := r; exact wpAny_execs_nil ⟨_, _, J.ofTry ok, q⟩
    | brk => obtain ⟨_, _, J, q⟩ := r; exact ⟨_, _, J.ofTry ok, q⟩
    | cont => obtain ⟨_, _, J, q⟩ := r; exact ⟨_, _, J.ofTry ok, q⟩
    | ret u => obtain ⟨_, _, _, J, rr, q⟩ := r; exact ⟨_, _, _, J.ofTry ok, rr, q⟩
end
end Z

set_option Elab.async false
set_option linter.all false
set_option maxRecDepth 100000
set_option maxHeartbeats 4000000
namespace Z
local macro_rules | `(tactic| walk_at "z at") => `(tactic| first | rfl | (simp only [atI, ixN, List.length_cons, List.length_nil, List.length_map]; rfl) | assumption)
local macro_rules | `(tactic| walk_at "z1") => `(tactic| first
  | with_reducible refine w_seq ?_ | with_reducible refine w_set ?_ | with_reducible refine w_ret ?_ | with_reducible refine w_if ?_ | with_reducible refine w_asg ?_ | with_reducible refine w_next ?_ | with_reducible refine w_setIx ?_ | with_reducible refine w_par ?_
  | ((with_reducible refine' w_var ?h ?_); (case h => exact rfl))
  | with_reducible refine w_c ?_ | with_reducible refine w_op ?_ | with_reducible refine w_un ?_ | with_reducible refine w_cons ?_ | with_reducible refine w_nil ?_ | with_reducible refine w_cb ?_
  | with_reducible refine w_call ?_ | with_reducible refine w_callK ?_ | with_reducible refine w_testB ?_ | with_reducible refine w_tru ?_ | with_reducible refine w_andD ?_ | with_reducible refine w_orD ?_ | with_reducible refine w_notD ?_
  | with_reducible refine w_andE ?_ | with_reducible refine w_orE ?_ | with_reducible refine w_notE ?_ | with_reducible refine w_ifE ?_ | with_reducible refine w_is ?_ | with_reducible refine w_isN ?_ | with_reducible refine w_notN ?_ | with_reducible refine w_tupOf ?_
  | with_reducible refine w_tup ?_ | with_reducible refine w_lst ?_ | with_reducible refine w_lstM ?_ | with_reducible refine w_sl ?_ | with_reducible refine w_part ?_ | with_reducible refine w_noPart ?_ | with_reducible refine w_repr ?_ | with_reducible refine w_seqI ?_
  | with_reducible refine w_rdI ?_ | with_reducible refine w_rdB ?_ | with_reducible refine w_rdAdd ?_ | with_reducible refine w_neg ?_ | with_reducible refine w_lenL ?_ | with_reducible refine w_lenT ?_ | with_reducible refine w_abs ?_ | with_reducible refine w_int ?_ | with_reducible refine w_intB ?_ | with_reducible refine w_gcd ?_
  | with_reducible refine w_gname ?_ | with_reducible refine w_gnil ?_ | with_reducible refine w_gcons ?_
  | with_reducible refine w_true ?_ | with_reducible refine w_false ?_
  | dsimp only [truthD, seqD, isNonD, permL, List.filterMap] | with_reducible refine w_drop ?_ | with_reducible refine w_retN ?_ | with_reducible refine w_nilP ?_ | with_reducible refine w_consP ?_ | with_reducible refine w_rng ?_ | with_reducible refine w_cont ?_ | with_reducible refine w_brk ?_)
local macro_rules | `(tactic| walk_at "z") => `(tactic| repeat walk_at "z1")
open PySem L2 PySem.Spec PyProof.Rows

section
variable {X : Cx} {x n : Str} {i j : Nat} {body : List Stmt} {e o : Expr} {es : List Expr} {te ta : TED} {ts : TAD} {pos p p1 p2 p3 p4 p5 p6 : Pos}
/-! ### try: .. except C as n: y = n -/
def tTryK (ex : Addr → Option Bool) (i j : Nat) (tb : TSD) : TSD := fun W F τ M => tb (fun C fs τ' M' => ∃ b, ex C = some b ∧ (b = true → i < τ'.length ∧ F.nx (setN (setN τ' j (some (.exn C fs))) i none) M') ∧ (b = false → W C fs τ' M')) F τ M
theorem exn_rep {K : PySem.W.Frag} {H : Hp} {M : MH} {a C : Addr} {d : Option Addr} {fs : List (Str × D)} (mu : Mut K H M) (na : H a = none) (ex : ExD K H M d fs) : Rep K (upd H a (.ext (ExcAt a C d))) M (.ref a) (.exn C fs) := by
  have ma := mut_none mu na
  rcases ex with ⟨dx, ws, rfl, m, e, r⟩ | ⟨rfl, rfl⟩
  · exact .exn ma m upd_same ((upd_ne (ne_of_none e na)).trans e) (r.good (good_new na))
  · exact .exn0 ma upd_same
theorem slots_keep {K : PySem.W.Frag} {H : Hp} {M : MH} {σ : L2.St} {τ : EnvD} {a C : Addr} {d : Option Addr} {fs : List (Str × D)} (sl : Slots K H M σ τ) (mu : Mut K H M) (na : H a = none) (ex : ExD K H M d fs) (hij : i ≠ j) :
    Slots K (upd H a (.ext (ExcAt a C d))) M (((σ.set i (some (.ref a))).set j (some (.ref a))).set i none) (setN (setN τ j (some (.exn C fs))) i none) := by
  have s1 := ((sl.good (good_new (o := .ext (ExcAt a C d)) na)).set (i := j) (exn_rep mu na ex)).unset (i := i)
  rw [setN_eq, setN_eq]
  have e : ((σ.set i (some (V.ref a))).set j (some (.ref a))).set i none = (σ.set j (some (.ref a))).set i none := by
    rw [List.set_comm _ _ hij, List.set_set]
  rw [e]
  exact s1
theorem pds_try_keep {c : Value} {ex : Addr → Option Bool} {tb : TSD} {y : Str} (hs : X.stack = X.env :: X.outer) (hf : X.env.frame = some X.env.locals) (hex : X.ex = []) (hN : X.N.Nodup) (hi : X.N[i]? = some n) (hln : X.env.kindOf n = some .local)
    (hj : X.N[j]? = some y) (hlj : X.env.scope.names.lookup y = some .local) (hij : i ≠ j) (hc : Names X x c) (he : ∀ C b, ex C = some b → PySem.W.exmOne X.K (.ref C) c = some b) (hb : PDB X body tb)
    (hnv : (n == ("__debug__" : Str)) = false) (hncd : (n == ("__classdict__" : Str)) = false) (hsw : swapsWith (.Name n p4) (some (.Name y p5)) p6.line X.env = pure false) :
    PDS X (.Try body [.ExceptHandler (some (.Name x p1)) (some n) [.Assign [.Name y p5] (.Name n p4) p6] p3] [] [] p2) (tTryK ex i j tb) := fun pn xe H0 M0 W at_ => by
  have R := ps_try_keep (X := X.tr pn xe) (x := x) (n := n) (c := c) (i := i) (body := body) (suite := []) (st0 := .Assign [.Name y p5] (.Name n p4) p6) (p1 := p1) (p2 := p2) (p3 := p3)
    (tb := fun Wx D σ H => ∃ Wd M1, (∀ cls d σ' H', liftW X.K H M1 Wd cls d σ' H' → Wx cls d σ' H') ∧ upS X.K H M1 Wd tb D σ H) (ts := fun a => tAsg (tVar i) (gName j)) (Wout := liftW X.K H0 M0 W) hs hf hex hN hi hln hc at_.tk
    (fun Wx pn' xe' tk po => ⟨fun pins s σ H D I ⟨Wd, M1, imp, q⟩ => (hb pn' xe' H M1 Wd ⟨Takes.imp tk imp, po⟩).run pins s σ H D I q⟩)
    (fun a oe pn' => pss_one (ps_set (X := (X.tr pn xe).suite a ((a, oe) :: pn')) hN hj (.inl hlj) (pe_var (i := i) hi (.inl hln) hnv hncd) hsw (.inr hlj)))
  refine imS R ?_
  rintro D σ H ⟨τ, M, F, g0, sl, mu, h, k1, k2, k3, k4⟩
  refine ⟨_, M, fun cls d σ' H' w => ?_, τ, M, F, .refl, sl, mu, h, k1, k2, k3, k4⟩
  obtain ⟨C, fs, τ', M', rfl, exd, g', sl', mu', b, hb1, hy, hn⟩ := w
  refine ⟨b, he C b hb1, fun bt a na => ⟨C, rfl, ?_⟩, fun bf => ⟨C, fs, τ', M', rfl, exd, g0.trans g', sl', mu', hn bf⟩⟩
  have il : i < σ'.length := by rw [sl'.1]; exact (hy bt).1
  refine ⟨.ref a, by rw [List.getElem?_set_self il], ?_⟩
  exact k1 _ _ ⟨_, M', g'.trans (good_new na), slots_keep sl' mu' na exd hij, mut_new mu' na, (hy bt).2⟩

/-! ### raise C(..), C with its own __init__ -/
/-- __init__(self, p): self.f = p; __init__(self, p, q): self.f = p, self.g = q -/
def spI1 (C : Addr) (f : Str) : Sp := fun vs H Q _ => ∃ a v, vs = [.ref a, v] ∧ H a = some (exo a C none) ∧ ∀ dx, H dx = none → dx ≠ a → Q .non (upd (upd H dx (exd dx [(f, v)])) a (exo a C (some dx)))
def spI2 (C : Addr) (f g : Str) : Sp := fun vs H Q _ => ∃ a v w, vs = [.ref a, v, w] ∧ H a = some (exo a C none) ∧
  ∀ dx, H dx = none → dx ≠ a → Q .non (upd (upd (upd H dx (exd dx [(f, v)])) a (exo a C (some dx))) dx (exd dx [(g, w), (f, v)]))
/-- what a class's own __init__ is -/
structure ExI (K : PySem.W.Frag) (C fI : Addr) : Prop where
  k : ExK K C
  iC : PySem.W.findIn K (.ref C) "__init__" = some (some (.ref fI))
  tI : PySem.W.typeIn K (.ref fI) = some (.type "function")
def tRaiseD (C : Addr) (fl : List D → List (Str × D)) (ta : TAD) : TSD := fun W F τ M => ta W τ M fun ds M1 => W C (fl ds) τ M1
def fl1 (f : Str) : List D → List (Str × D) | [d] => [(f, d)] | _ => []
def fl2 (f g : Str) : List D → List (Str × D) | [d, e] => [(g, e), (f, d)] | _ => []
theorem reps_fl1 {K : PySem.W.Frag} {H : Hp} {M : MH} {f : Str} {v : V} {d : D} (r : Rep K H M v d) : RepF K H M [(f, v)] [(f, d)] := .cons r .nil
/-- an exception's dict, behind its making -/
theorem made_good {H : Hp} {M : MH} {a d : Addr} {fs : List (Str × V)} {G : Hp} (na : H a = none) (nd : H d = none) (h : ∀ b, b ≠ a → b ≠ d → G b = H b) : Good H M (upd (del G a) d (.xd fs)) M := fun b u q m => by
  have b1 : b ≠ a := fun z => by rw [z, na] at q; cases q
  have b2 : b ≠ d := fun z => by rw [z, nd] at q; cases q
  exact ⟨by rw [upd_ne b2, del_ne b1, h b b1 b2]; exact q, m⟩
theorem made_mut {K : PySem.W.Frag} {H : Hp} {M : MH} {a d : Addr} {fs : List (Str × V)} {G : Hp} (mu : Mut K H M) (na : H a = none) (nd : H d = none) (h : ∀ b, b ≠ a → b ≠ d → G b = H b) : Mut K (upd (del G a) d (.xd fs)) M := fun b mo e => by
  obtain ⟨ho, q, r⟩ := mu b mo e
  have b1 : b ≠ a := fun z => by rw [z, na] at q; cases q
  have b2 : b ≠ d := fun z => by rw [z, nd] at q; cases q
  exact ⟨ho, by rw [upd_ne b2, del_ne b1, h b b1 b2]; exact q, r.good (made_good na nd h)⟩
variable {C fI : Addr} {k : Nat} {fd : FuncData} {f g : Str}
theorem pds_raise1 {a : Expr} {ps : List Str} (hc : X.calm = true) (T : ExI X.K C fI) (F1 : FnOk X.prog X.w X.K X.mg X.base CX0 k fI fd ps (spI1 C f)) (hr : Room (k + 1) X.A) (hb : Binds X.K fd ps []) (hm : X.mg x = some (.ref C)) (ha : PDN X [a] ts) (hg : Gl X x := by rfl)
    (hdb : (x == ("__debug__" : Str)) = false := by decide) (he : starEach (a :: []) X.env = (false, eval a X.env) :: starEach [] X.env := by rfl) (hpl : (backTo pos (starEach [] X.env)).any (·.1) = false := by rfl) :
    PDS X (.Raise (some (.Call (.Name x p) [a] [] pos)) none p2) (tRaiseD C (fl1 f) ts) := fun pn xe H0 M0 W at_ => by
  refine imS (ps_raise (X := X.tr pn xe) hc at_.tk (pmk_oex (X := X.tr pn xe) T.k.o T.iC T.tI F1 hr hb .nil pass0 hg hm (ha pn xe H0 M0 W at_) hdb he hpl)) ?_
  rintro D σ H ⟨τ, M, F, g0, sl, mu, h, k1, k2, k3, k4⟩
  refine ⟨τ, M, _, g0, sl, mu, h, fun vs H1 ds M1 g1 mu1 r l q => ?_⟩
  cases r with
  | nil => cases l
  | @cons v0 d0 vs0 ds0 r rs =>
    cases rs with
    | cons _ _ => simp at l
    | nil =>
      refine ⟨by show 1 ≤ 1000; decide, fun a na => ⟨a, _, rfl, upd_same, fun dx hdx ne => ⟨rfl, dx, _, upd_same, by rw [upd_ne ne, upd_same], ?_, ?_⟩⟩⟩
      · rw [upd_ne ne] at hdx; exact hdx
      · rw [upd_ne ne] at hdx
        have ho : ∀ b, b ≠ a → b ≠ dx → upd (upd (upd H1 a (exo a C none)) dx (exd dx [(f, v0)])) a (exo a C (some dx)) b = H1 b := fun b b1 b2 => by rw [upd_ne b1, upd_ne b2, upd_ne b1]
        have gg := made_good (M := M1) (fs := [(f, v0)]) na hdx ho
        exact ⟨C, _, τ, M1, rfl, .inl ⟨dx, _, rfl, mut_none mu1 hdx, upd_same, reps_fl1 (r.good gg)⟩, (g0.trans g1).trans gg, (sl.good g1).good gg, made_mut mu1 na hdx ho, q⟩
theorem pds_raise2 {a b : Expr} {ps : List Str} (hc : X.calm = true) (T : ExI X.K C fI) (F1 : FnOk X.prog X.w X.K X.mg X.base CX0 k fI fd ps (spI2 C f g)) (hr : Room (k + 1) X.A) (hb : Binds X.K fd ps []) (hm : X.mg x = some (.ref C)) (ha : PDN X [a, b] ts) (hg : Gl X x := by rfl)
    (hdb : (x == ("__debug__" : Str)) = false := by decide) (he : starEach (a :: [b]) X.env = (false, eval a X.env) :: starEach [b] X.env := by rfl) (hpl : (backTo pos (starEach [b] X.env)).any (·.1) = false := by rfl) :
    PDS X (.Raise (some (.Call (.Name x p) [a, b] [] pos)) none p2) (tRaiseD C (fl2 f g) ts) := fun pn xe H0 M0 W at_ => by
  refine imS (ps_raise (X := X.tr pn xe) hc at_.tk (pmk_oex (X := X.tr pn xe) T.k.o T.iC T.tI F1 hr hb .nil pass0 hg hm (ha pn xe H0 M0 W at_) hdb he hpl)) ?_
  rintro D σ H ⟨τ, M, F, g0, sl, mu, h, k1, k2, k3, k4⟩
  refine ⟨τ, M, _, g0, sl, mu, h, fun vs H1 ds M1 g1 mu1 r l q => ?_⟩
  cases r with
  | nil => cases l
  | @cons v0 d0 vs0 ds0 r rs =>
    cases rs with
    | nil => simp at l
    | @cons v1 d1 vs1 ds1 r' rs =>
      cases rs with
      | cons _ _ => simp at l
      | nil =>
        refine ⟨by show 2 ≤ 1000; decide, fun a na => ⟨a, _, _, rfl, upd_same, fun dx hdx ne => ⟨rfl, dx, _, by rw [upd_ne (Ne.symm ne), upd_same], upd_same, ?_, ?_⟩⟩⟩
        · rw [upd_ne ne] at hdx; exact hdx
        · rw [upd_ne ne] at hdx
          have ho : ∀ b, b ≠ a → b ≠ dx → upd (upd (upd (upd H1 a (exo a C none)) dx (exd dx [(f, v0)])) a (exo a C (some dx))) dx (exd dx [(g, v1), (f, v0)]) b = H1 b := fun b b1 b2 => by rw [upd_ne b2, upd_ne b1, upd_ne b2, upd_ne b1]
          have gg := made_good (M := M1) (fs := [(g, v1), (f, v0)]) na hdx ho
          exact ⟨C, _, τ, M1, rfl, .inl ⟨dx, _, rfl, mut_none mu1 hdx, upd_same, .cons (r'.good gg) (.cons (r.good gg) .nil)⟩, (g0.trans g1).trans gg, (sl.good g1).good gg, made_mut mu1 na hdx ho, q⟩
end
end Z

set_option Elab.async false
set_option linter.all false
set_option maxRecDepth 100000
set_option maxHeartbeats 4000000
namespace PySem
namespace ZKW
open PySem.W PySem.Calls PyProof.Rows PySem.HandSPX
section
variable {prog : Program} {w : World} {M : Model} {A : Around} {E : Value → Shared → Prop} {R : Result → Shared → Prop} {h : Heap} {g : Array GenState} {d : Drawn} {t : Nat} {os : OsState}
variable {nm q : Str} {C N : Addr} {bs bm bmB : List Value} {hdct : Bool} {sn : List Str} {sub : List Value} {ab : Bool} {col : Option Bool} {dd : Option Addr} {k0 k1 k2 k3 k5 : Option Value} {B newId initId : String} {ks : List (Str × Value)}
/-- an exception made by keywords alone: BaseException.__new__ takes them and keeps none -/
theorem check_new_kw (F : ExcBaseFacts B newId initId bmB) (hT : ∀ X : String, bm.contains (.type X) = bmB.contains (.type X)) {Q : Unit → Shared → Prop}
    (hC : h.get? C = some (excClassObj nm q C N bs bm hdct sn sub ab col dd k0 k1 k2 k3 k5 newId)) (hq : Q () ⟨h, g, d, t, os⟩) : wpAny M A (checkBuiltinCall newId ⟨[.ref C], ks⟩) Q E ⟨h, g, d, t, os⟩ := by
  have c1 : (Value.ref C :: bm).contains (.type B) = true := (List.contains_cons ..).trans (by rw [hT, F.hasB, Bool.or_true])
  have c2 := F.noStar
  simp only [checkBuiltinCall, F.newKind, F.newSplit, F.newRow]
  repeat (first | refine wpAny_loadPart_at hC ?_ | (refine wpAny_isSubtype_exc hC ?_; rw [c1]) | refine wpAny_staticBase_exc hC ?_ | refine wpAny_madeBy_exc hC ?_ | simp only [bne_self_eq_false, Bool.false_eq_true, if_false] | wp_step)
  exact hq
theorem new_kw (F : ExcBaseFacts B newId initId bmB) (hT : ∀ X : String, bm.contains (.type X) = bmB.contains (.type X)) (hC : h.get? C = some (excClassObj nm q C N bs bm hdct sn sub ab col dd k0 k1 k2 k3 k5 newId))
    (hq : R (.ok (.ret (.ref (h.objs.size + 1)))) ⟨(h.push (kdv_tup [])).push (excO C h.objs.size), g, d, t, os⟩) : codeAny (model prog w) A (.builtin newId ⟨[.ref C], ks⟩) R ⟨h, g, d, t, os⟩ := by
  have own : ∀ T : String, T ≠ "" → (Value.ref C :: bm).contains (.type T) = bmB.contains (.type T) := fun T _ => (List.contains_cons ..).trans (by rw [hT]; rfl)
  have c1 : (Value.ref C :: bm).contains (.type B) = true := (List.contains_cons ..).trans (by rw [hT, F.hasB, Bool.or_true])
  have c2 := (own "AttributeError" (by decide)).trans F.noAttr
  have c3 := (own "NameError" (by decide)).trans F.noName
  have c4 := F.ends
  refine codeAny_builtinAt F.entry ?_
  unfold Builtin.«BaseException.__new__»
  refine wpAt_bind ?_
  refine (?_ : wpAt _ _ _ (stack >>= _) _ _ _)
  refine wpAt_bind (wpAt_stack fun p below => wpAt_of_wpAny ?_)
  wp_walk
  refine wpAt_of_wpAny ?_
  rw [F.owner]
  repeat (first | with_reducible refine wpAny_madeHere_exc F.canon hC ?_ | with_reducible refine wpAny_loadPart_at hC ?_ | (with_reducible refine wpAny_isSubtype_exc hC ?_; first | rw [c1] | rw [c2] | rw [c3]) | wp_step)
  refine (?_ : R _ _)
  rw [Heap.size_push]
  exact hq
theorem call_kw (F : ExcBaseFacts B newId initId bmB) (hT : ∀ X : String, bm.contains (.type X) = bmB.contains (.type X)) {fI : Addr} (hC : h.get? C = some (excClassObj nm q C N bs bm hdct sn sub ab col dd k0 k1 k2 k3 k5 newId))
    (hi : W.Looks (model prog w) h (typeLookup (.ref C) "__init__") (some (.ref fI))) (hb : ∀ self, W.Looks (model prog w) h (bindSpecial (.ref fI) self) (.ref fI, [self]))
    (hq : codeAny (model prog w) (A.under (.builtin "type.__call__" ⟨[.ref C], ks⟩)) (.call (.ref fI) ⟨[.ref (h.objs.size + 1)], ks⟩) (W.InitBack (h.objs.size + 1) R) ⟨(h.push (kdv_tup [])).push (excO C h.objs.size), g, d, t, os⟩) :
    codeAny (model prog w) A (.call (.ref C) ⟨[], ks⟩) R ⟨h, g, d, t, os⟩ := by
  have f1 := tc_lookup
  have f2 := tc_bind (.ref C)
  have hTy : (⟨h, g, d, t, os⟩ : Shared).TypeIs (.ref C) "type" := ⟨_, hC, rfl⟩
  refine codeAny_of_tree (?_ : wpAny _ _ (callAny (.ref C) _) _ _ _)
  repeat (any_goals (first | assumption | with_reducible refine wpAny_loadPart_at hC ?_ | wp_step))
  refine ⟨rfl, codeAny_call_builtin_at (Code.quiet_builtin _ (by decide +kernel)) entry_typeCall (wpAny_check_type_call_sub hC ?_)⟩
  have inner : ∀ {A' : Around} {Q : Fin → Shared → Prop} {E : Value → Shared → Prop}, codeAny (model prog w) A' (.call (.ref fI) ⟨[.ref (h.objs.size + 1)], ks⟩)
      (fun r s' => match r with | .ok (.ret v) => v = .none ∧ Q (.done (.ret (.ref (h.objs.size + 1)))) s' | .ok _ => False | .error e => E e s') ⟨(h.push (kdv_tup [])).push (excO C h.objs.size), g, d, t, os⟩ →
      wpAny (model prog w) A' (Builtin.«type.__call__» ⟨[.ref C], ks⟩) Q E ⟨h, g, d, t, os⟩ := fun {A' Q E} z => by
    repeat (first | with_reducible refine wpAny_loadPart_at hC ?_ | with_reducible refine wpAny_madeBy_exc hC ?_ | wp_step)
    refine codeAny_call_builtin_code (Code.quiet_builtin _ F.quiet) (check_new_kw F hT hC (new_kw F hT hC (?_ : wpAny _ _ _ _ _ _)))
    have kk : ∀ b o, h.get? b = some o → ((h.push (kdv_tup [])).push (excO C h.objs.size)).get? b = some o := fun b o e => Heap.get?_push_of_some _ (Heap.get?_push_of_some _ e)
    have at1 : ((h.push (kdv_tup [])).push (excO C h.objs.size)).get? (h.objs.size + 1) = some (excO C h.objs.size) := by heap_get
    have cC : (Value.ref C :: bm).contains (.ref C) = true := by simp
    unfold isInstance
    repeat (first | with_reducible refine wpAny_loadPart_at at1 ?_ | (with_reducible refine wpAny_isSubtype_exc (kk _ _ hC) ?_; rw [cC]) | wp_step)
    refine (?_ : wpAny _ _ (typeLookup (.ref C) _) _ _ _)
    refine (hi.keeps kk).at (wpAny_holding (wpAny_bind (((hb (.ref (h.objs.size + 1))).keeps kk).at ?_)))
    refine wpAny_bind (wpAny_call (codeAny_mono z fun r s' y => ?_))
    rcases r with e | (v | _ | _ | _) <;> first | exact y | exact y.elim | skip
    obtain ⟨rfl, y⟩ := y
    first | exact wpAny_pure (wpAny_pure y) | (wp_walk; exact y)
  refine inner (codeAny_mono hq fun r s' z => ?_)
  rcases r with e | (v | _ | _ | _) <;> exact z
end
end ZKW
end PySem

namespace Z
local macro_rules | `(tactic| walk_at "z at") => `(tactic| first | rfl | (simp only [atI, ixN, List.length_cons, List.length_nil, List.length_map]; rfl) | assumption)
local macro_rules | `(tactic| walk_at "z1") => `(tactic| first
  | with_reducible refine w_seq ?_ | with_reducible refine w_set ?_ | with_reducible refine w_ret ?_ | with_reducible refine w_if ?_ | with_reducible refine w_asg ?_ | with_reducible refine w_next ?_ | with_reducible refine w_setIx ?_ | with_reducible refine w_par ?_
  | ((with_reducible refine' w_var ?h ?_); (case h => exact rfl))
  | with_reducible refine w_c ?_ | with_reducible refine w_op ?_ | with_reducible refine w_un ?_ | with_reducible refine w_cons ?_ | with_reducible refine w_nil ?_ | with_reducible refine w_cb ?_
  | with_reducible refine w_call ?_ | with_reducible refine w_callK ?_ | with_reducible refine w_testB ?_ | with_reducible refine w_tru ?_ | with_reducible refine w_andD ?_ | with_reducible refine w_orD ?_ | with_reducible refine w_notD ?_
  | with_reducible refine w_andE ?_ | with_reducible refine w_orE ?_ | with_reducible refine w_notE ?_ | with_reducible refine w_ifE ?_ | with_reducible refine w_is ?_ | with_reducible refine w_isN ?_ | with_reducible refine w_notN ?_ | with_reducible refine w_tupOf ?_
  | with_reducible refine w_tup ?_ | with_reducible refine w_lst ?_ | with_reducible refine w_lstM ?_ | with_reducible refine w_sl ?_ | with_reducible refine w_part ?_ | with_reducible refine w_noPart ?_ | with_reducible refine w_repr ?_ | with_reducible refine w_seqI ?_
  | with_reducible refine w_rdI ?_ | with_reducible refine w_rdB ?_ | with_reducible refine w_rdAdd ?_ | with_reducible refine w_neg ?_ | with_reducible refine w_lenL ?_ | with_reducible refine w_lenT ?_ | with_reducible refine w_abs ?_ | with_reducible refine w_int ?_ | with_reducible refine w_intB ?_ | with_reducible refine w_gcd ?_
  | with_reducible refine w_gname ?_ | with_reducible refine w_gnil ?_ | with_reducible refine w_gcons ?_
  | with_reducible refine w_true ?_ | with_reducible refine w_false ?_
  | dsimp only [truthD, seqD, isNonD, permL, List.filterMap] | with_reducible refine w_drop ?_ | with_reducible refine w_retN ?_ | with_reducible refine w_nilP ?_ | with_reducible refine w_consP ?_ | with_reducible refine w_rng ?_ | with_reducible refine w_cont ?_ | with_reducible refine w_brk ?_)
local macro_rules | `(tactic| walk_at "z") => `(tactic| repeat walk_at "z1")
open PySem L2 PySem.Spec PyProof.Rows

/-- how a call by keywords alone binds behind self -/
def KwS (K : PySem.W.Frag) (fd : FuncData) (ps ks : List Str) (ix : List Nat) : Prop := ∀ (self : Value) (ws : List Value), ws.length = ks.length → bindArgs fd ⟨[self], ks.zip ws⟩ = pure (ps.zip (self :: permL ix ws))
theorem kwS {K : PySem.W.Frag} {x qual : Str} {st : Stmt} {f : Addr} {fd : FuncData} {ps ks : List Str} {ix : List Nat} (F : Fun K x qual st f fd)
    (h : ∀ (kV doc pm : Value) (an : Option Addr) (cdv ct : Value) (self : Value) (us : List Value), us.length = ks.length → bindArgs (PySem.W.fnOf x qual (defArgs st) (defBody st) (defScope st) .none kV doc pm an cdv ct) ⟨[self], ks.zip us⟩ = pure (ps.zip (self :: permL ix us))) : KwS K fd ps ks ix := by
  obtain ⟨oc, od, kV, doc, pm, an, cdv, ct, osl, rfl, lk, hcd⟩ := F.ex
  exact h kV doc pm an cdv ct
def tMkK (C : Addr) (sp : Sp) (ix : List Nat) (n : Nat) (ta : TA) : L2.St → Hp → XK → Prop := fun σ H Q => ta σ H fun vs H1 => vs.length = n ∧ ∀ a, H1 a = none → sp (.ref a :: permL ix vs) (upd H1 a (exo a C none))
  (fun v H2 => v = .non ∧ ∃ (d : Addr) (fs : List (Str × V)), H2 a = some (exo a C (some d)) ∧ H2 d = some (exd d fs) ∧ H1 d = none ∧ Q (.ref C) (some d) (upd (del H2 a) d (.xd fs))) (fun _ _ _ => False)
section
variable {X : Cx} {x n : Str} {i j : Nat} {body : List Stmt} {e o a b : Expr} {es : List Expr} {te ta : TED} {ts : TAD} {pos p p1 p2 p3 : Pos} {C fI : Addr} {k : Nat} {fd : FuncData} {f g : Str} {ps ks : List Str} {ix : List Nat} {kws : List Keyword}
theorem pmk_kw {sp : Sp} {tv : TA} (T : ExI X.K C fI) (F1 : FnOk X.prog X.w X.K X.mg X.base CX0 k fI fd ps sp) (hr : Room (k + 1) X.A) (hb : KwS X.K fd ps ks ix) (hm : X.mg x = some (.ref C)) (hk : PK X kws tv) (hg : Gl X x)
    (hdb : (x == ("__debug__" : Str)) = false) (hall : (backToKw pos (keywordEach kws X.env)).all (·.1.isSome) = true) (hks : (backToKw pos (keywordEach kws X.env)).filterMap (·.1) = ks)
    (hpl : ((backTo pos (starEach [] X.env)).any (·.1) || (backToKw pos (keywordEach kws X.env)).any (·.1.isNone)) = false) : PMk X (.Call (.Name x p) [] kws pos) (tMkK C sp ix ks.length tv) := by
  intro pins s σ H Q I h
  obtain ⟨nm, q, N, bs, bm, sn, sub, ab, col, dd, k0, k1, k2, k3, k5, hC, hbm⟩ := T.k.o.cls
  refine wpAny_Call_Name_kw (ld_glob I hg hm ?_ hdb)
  refine PySem.W.callWith_KW0 (h₀ := X.base) I.ok.mod.kin T.k.o.kC hall (thn (hk.run pos pins s σ H _ I h) fun us s1 ⟨vs, H1, I1, r1, hz, q1⟩ => ⟨I1.kIn, ?_⟩) hpl
  rw [hks]
  obtain ⟨hp, gg, dr, tk, os⟩ := s1
  have up1 : hp.objs.size ≤ hp.objs.size + 1 := Nat.le_succ _
  have na : H1 (hp.objs.size + 1) = none := I1.hok.fresh up1
  have kk : ∀ b o, hp.get? b = some o → ((hp.push (PySem.W.kdv_tup [])).push (PySem.HandSPX.excO C hp.objs.size)).get? b = some o := fun b o e => Heap.get?_push_of_some _ (Heap.get?_push_of_some _ e)
  have at1 : ((hp.push (PySem.W.kdv_tup [])).push (PySem.HandSPX.excO C hp.objs.size)).get? (hp.objs.size + 1) = some (PySem.HandSPX.excO C hp.objs.size) := by heap_get
  have I2 : Inv X pins σ (upd H1 (hp.objs.size + 1) (exo (hp.objs.size + 1) C none)) ⟨(hp.push (PySem.W.kdv_tup [])).push (PySem.HandSPX.excO C hp.objs.size), gg, dr, tk, os⟩ :=
    I1.laid (t' := tk) (o := exo (hp.objs.size + 1) C none) (h' := (hp.push (PySem.W.kdv_tup [])).push (PySem.HandSPX.excO C hp.objs.size)) kk up1 (exo_ok at1)
  have hl : us.length = ks.length := r1.length.symm.trans hz
  have r2 : Vals (V.ref (hp.objs.size + 1) :: permL ix vs) (Value.ref (hp.objs.size + 1) :: permL ix us) := .cons rfl (vals_perm r1 ix)
  refine wpAny_call (PySem.ZKW.call_kw F.excBase_ValueError (fun Y => PySem.HandSPX.refsVE_contains Y bm hbm) (I1.kIn _ _ hC) (PySem.W.looks_findIn I1.kIn T.iC) (fun self => PySem.W.bind_fn I1.kIn self T.tI)
    (codeAny_mono (F1.run _ X.stack _ _ ⟨[Value.ref (hp.objs.size + 1)], ks.zip us⟩ (Value.ref (hp.objs.size + 1) :: permL ix us) _ _ (fun _ _ _ => False) (hr.make C [] (ks.zip us)) (I2.env0.make C [] (ks.zip us)) (BindsTo.of_eq (hb _ us hl)) r2 (q1 _ na)) fun r s' hq => ?_))
  cases r with
  | error er => obtain ⟨_, _, _, _, _, _, _, _, _, _, _, _, z⟩ : False := hq
  | ok fl =>
    cases fl with
    | ret u =>
      obtain ⟨v, H2, os2, bare2, un2, hok2, rv, ev, d, fs, ea, ed, hd1, q2⟩ := hq
      subst ev
      obtain ⟨h2, g2, d2, t2, os'⟩ := s'
      exact ⟨rv, mk_end (raises_own T.k.o.exC T.k.o.tyC) I1 up1 kk un2 hok2 os2 bare2 ea ed hd1 q2⟩
    | next => exact False.elim hq
    | brk => exact False.elim hq
    | cont => exact False.elim hq
theorem pds_raiseK1 (hc : X.calm = true) (T : ExI X.K C fI) (F1 : FnOk X.prog X.w X.K X.mg X.base CX0 k fI fd ps (spI1 C f)) (hr : Room (k + 1) X.A) (hb : KwS X.K fd ps ks ix) (hks1 : ks.length = 1) (hm : X.mg x = some (.ref C)) (ha : PDKn X kws ts) (hln : kws.length = ks.length) (hix : ∀ (α : Type) (v : α), permL ix [v] = [v]) (hg : Gl X x := by rfl)
    (hdb : (x == ("__debug__" : Str)) = false := by decide) (hall : (backToKw pos (keywordEach kws X.env)).all (·.1.isSome) = true := by rfl) (hks : (backToKw pos (keywordEach kws X.env)).filterMap (·.1) = ks := by rfl)
    (hpl : ((backTo pos (starEach [] X.env)).any (·.1) || (backToKw pos (keywordEach kws X.env)).any (·.1.isNone)) = false := by rfl) :
    PDS X (.Raise (some (.Call (.Name x p) [] kws pos)) none p2) (tRaiseD C (fl1 f) ts) := fun pn xe H0 M0 W at_ => by
  refine imS (ps_raise (X := X.tr pn xe) hc at_.tk (pmk_kw (X := X.tr pn xe) T F1 hr hb hm (ha pn xe H0 M0 W at_) hg hdb hall hks hpl)) ?_
  rintro D σ H ⟨τ, M, F, g0, sl, mu, h, k1, k2, k3, k4⟩
  refine ⟨τ, M, _, g0, sl, mu, h, fun vs H1 ds M1 g1 mu1 r l q => ?_⟩
  rw [hln, hks1] at l
  cases r with
  | nil => cases l
  | @cons v0 d0 vs0 ds0 r rs =>
    cases rs with
    | cons _ _ => simp at l
    | nil =>
      refine ⟨hks1.symm, fun a na => ⟨a, v0, by rw [hix], upd_same, fun dx hdx ne => ⟨rfl, dx, _, upd_same, by rw [upd_ne ne, upd_same], ?_, ?_⟩⟩⟩
      · rw [upd_ne ne] at hdx; exact hdx
      · rw [upd_ne ne] at hdx
        have ho : ∀ b, b ≠ a → b ≠ dx → upd (upd (upd H1 a (exo a C none)) dx (exd dx [(f, v0)])) a (exo a C (some dx)) b = H1 b := fun b b1 b2 => by rw [upd_ne b1, upd_ne b2, upd_ne b1]
        have gg := made_good (M := M1) (fs := [(f, v0)]) na hdx ho
        exact ⟨C, _, τ, M1, rfl, .inl ⟨dx, _, rfl, mut_none mu1 hdx, upd_same, reps_fl1 (r.good gg)⟩, (g0.trans g1).trans gg, (sl.good g1).good gg, made_mut mu1 na hdx ho, q⟩
/-- the two keywords stand the other way round -/
theorem pds_raiseK2 (hc : X.calm = true) (T : ExI X.K C fI) (F1 : FnOk X.prog X.w X.K X.mg X.base CX0 k fI fd ps (spI2 C f g)) (hr : Room (k + 1) X.A) (hb : KwS X.K fd ps ks [1, 0]) (hks1 : ks.length = 2) (hm : X.mg x = some (.ref C)) (ha : PDKn X kws ts) (hln : kws.length = ks.length) (hg : Gl X x := by rfl)
    (hdb : (x == ("__debug__" : Str)) = false := by decide) (hall : (backToKw pos (keywordEach kws X.env)).all (·.1.isSome) = true := by rfl) (hks : (backToKw pos (keywordEach kws X.env)).filterMap (·.1) = ks := by rfl)
    (hpl : ((backTo pos (starEach [] X.env)).any (·.1) || (backToKw pos (keywordEach kws X.env)).any (·.1.isNone)) = false := by rfl) :
    PDS X (.Raise (some (.Call (.Name x p) [] kws pos)) none p2) (tRaiseD C (fun ds => fl2 f g (permL [1, 0] ds)) ts) := fun pn xe H0 M0 W at_ => by
  refine imS (ps_raise (X := X.tr pn xe) hc at_.tk (pmk_kw (X := X.tr pn xe) T F1 hr hb hm (ha pn xe H0 M0 W at_) hg hdb hall hks hpl)) ?_
  rintro D σ H ⟨τ, M, F, g0, sl, mu, h, k1, k2, k3, k4⟩
  refine ⟨τ, M, _, g0, sl, mu, h, fun vs H1 ds M1 g1 mu1 r l q => ?_⟩
  rw [hln, hks1] at l
  cases r with
  | nil => cases l
  | @cons v1 d1 vs0 ds0 r rs =>
    cases rs with
    | nil => simp at l
    | @cons v0 d0 vs1 ds1 r' rs =>
      cases rs with
      | cons _ _ => simp at l
      | nil =>
        refine ⟨hks1.symm, fun a na => ⟨a, v0, v1, rfl, upd_same, fun dx hdx ne => ⟨rfl, dx, _, by rw [upd_ne (Ne.symm ne), upd_same], upd_same, ?_, ?_⟩⟩⟩
        · rw [upd_ne ne] at hdx; exact hdx
        · rw [upd_ne ne] at hdx
          have ho : ∀ b, b ≠ a → b ≠ dx → upd (upd (upd (upd H1 a (exo a C none)) dx (exd dx [(f, v0)])) a (exo a C (some dx))) dx (exd dx [(g, v1), (f, v0)]) b = H1 b := fun b b1 b2 => by rw [upd_ne b2, upd_ne b1, upd_ne b2, upd_ne b1]
          have gg := made_good (M := M1) (fs := [(g, v1), (f, v0)]) na hdx ho
          exact ⟨C, _, τ, M1, rfl, .inl ⟨dx, _, rfl, mut_none mu1 hdx, upd_same, .cons (r.good gg) (.cons (r'.good gg) .nil)⟩, (g0.trans g1).trans gg, (sl.good g1).good gg, made_mut mu1 na hdx ho, q⟩
/-- raise C(), no __init__ of its own -/
theorem pmk_bare (hx : PySem.W.excIn X.K C [.type "ValueError", .type "Exception", .type "BaseException", .type "object"] "ValueError.__new__" = true) (gC : X.mg x = some (.ref C)) (kC : PySem.W.keepIn X.K (.ref C) = true) (r : Raises X (.ref C)) (hg : Gl X x) (hdb : (x == ("__debug__" : Str)) = false) :
    PMk X (.Call (.Name x p) [] [] pos) (fun _ H Q => Q (.ref C) none H) := by
  intro pins s σ H Q I h
  refine wpAny_Call_Name_kw (ld_glob I hg gC ?_ hdb)
  refine PySem.W.callWith_K0 I.kIn kC (?_ : wpAny _ _ (call (.ref C) []) _ _ _)
  obtain ⟨bm, N, nm, qn, bs, hdct, sn, sub, ab, col, dd, k0, k1, k2, k3, k5, mN, hC, hN, hni, T⟩ := exc_obj I.kIn hx
  refine wpAny_call_exc_subT F.excBase_ValueError T hC hN hni (fun h' e hm => mk_of I hm r h (I.hok.gone hm.new)) (by show 0 ≤ sizeLine; omega)
theorem pds_raise0 (hc : X.calm = true) (hx : PySem.W.excIn X.K C [.type "ValueError", .type "Exception", .type "BaseException", .type "object"] "ValueError.__new__" = true) (T : ExK X.K C) (hm : X.mg x = some (.ref C)) (hg : Gl X x := by rfl) (hdb : (x == ("__debug__" : Str)) = false := by decide) :
    PDS X (.Raise (some (.Call (.Name x p) [] [] pos)) none p2) (tRaiseD C (fun _ => []) tNilD) := fun pn xe H0 M0 W at_ => by
  refine imS (ps_raise (X := X.tr pn xe) hc at_.tk (pmk_bare (X := X.tr pn xe) hx hm T.o.kC (raises_own T.o.exC T.o.tyC) hg hdb)) ?_
  rintro D σ H ⟨τ, M, F, g0, sl, mu, h, k1, k2, k3, k4⟩
  exact ⟨C, _, τ, M, rfl, .inr ⟨rfl, rfl⟩, g0, sl, mu, h⟩

/-! ### isinstance of an exception, its fields -/
/-- C of an exception of the class that is asked -/
def isE (sub : Addr → Option Bool) (d : D) : Option Bool := match d with | .exn C _ => sub C | _ => none
theorem exc_at {pins : List (Addr × Obj)} {σ : L2.St} {H : Hp} {s : Shared} {a C : Addr} {dx : Option Addr} (I : Inv X pins σ H s) (e : H a = some (.ext (ExcAt a C dx))) : ∃ oe vs, s.heap.get? a = some oe ∧ oe.cls = .ref C ∧ oe.dict = dx ∧ oe.data = .fields vs :=
  (show ObjOk X.prog X.w H s.heap a (.ext (ExcAt a C dx)) from I.hok a _ e).1
theorem pd_isE {cn : Str} {cv : Value} {sub : Addr → Option Bool} {c : Expr} (hm : X.mg "isinstance" = none) (ha : PD X a ta) (hc : ∀ pn xe, ∃ v, (∀ u, RelV v u → u = cv) ∧ PE (X.tr pn xe) c (tC v)) (hs : ∀ C' b, sub C' = some b → ExK X.K C' ∧ PySem.W.kitOne X.K (.ref C') cv = some b)
    (hg : Gl X "isinstance" := by rfl) (he : starEach [a, c] X.env = (false, eval a X.env) :: starEach [c] X.env := by rfl) (he2 : starEach [c] X.env = [(false, eval c X.env)] := by rfl) (hpl : (backTo pos (starEach [c] X.env)).any (·.1) = false := by rfl) :
    PD X (.Call (.Name "isinstance" p) [a, c] [] pos) (tIs (isE sub) ta) := fun pn xe H0 M0 W at_ => by
  obtain ⟨v, hv, hpe⟩ := hc pn xe
  have cr : CallR (X.tr pn xe) (.builtin "isinstance") (fun xs H Q => ∃ a C dx b, xs = [.ref a, v] ∧ H a = some (.ext (ExcAt a C dx)) ∧ (∀ d, dx = some d → ∃ ws, H d = some (.xd ws)) ∧ sub C = some b ∧ Q (.bl b) H) := by
    intro pins s σ H xs us Q I r h
    obtain ⟨a, C, dx, b, rfl, e, hd, hb, q⟩ := h
    obtain ⟨T, hk⟩ := hs C b hb
    cases r with
    | cons rx rr =>
      cases rr with
      | cons rt rr =>
        cases rr
        cases rx
        have ec := hv _ rt
        subst ec
        obtain ⟨oe, vs, h1, h2, h3, h4⟩ := exc_at I e
        have J : ∃ od, PySem.W.InstAt s.heap a oe C od := by
          cases dx with
          | none => exact ⟨none, h1, h2, by unfold PySem.W.notCls; rw [h4] <;> trivial, by rw [h3]; trivial⟩
          | some d =>
            obtain ⟨ws, hw⟩ := hd d rfl
            obtain ⟨mA, hns, _⟩ := (show ObjOk X.prog X.w H s.heap d (.xd ws) from I.hok d _ hw)
            obtain ⟨od, ho, hl⟩ := lookIn_ns hns
            exact ⟨some od, h1, h2, by unfold PySem.W.notCls; rw [h4] <;> trivial, by rw [h3]; exact ho⟩
        obtain ⟨od, J⟩ := J
        exact PySem.W.kia_one (PySem.W.kitx_exc T.ic T.ga T.gg T.o.exC T.ca T.sg T.tg T.om) I.kIn J hk (fun z => nomatch z) fun tk => ⟨.bl b, H, I.kept (t' := tk) fun _ _ z => z, rfl, q⟩
  refine imE (pe_callB (X := X.tr pn xe) cr hg hm (by decide +kernel) (pa_cons (ha pn xe H0 M0 W at_) (pa_cons hpe pa_nil he2) he) (by decide) (by decide) he hpl) fun σ H Q ⟨τ, M, F, g0, sl, mu, h, k⟩ => upE_fin g0 sl mu h fun x H1 d M1 g1 mu1 r1 q => ?_
  cases r1 with
  | exn m m2 e e2 rf =>
    cases eb : isE sub (.exn _ _) with
    | none => rw [eb] at q; exact q.elim
    | some b => rw [eb] at q; exact ⟨_, _, _, b, rfl, e, fun d hd => (by cases hd; exact ⟨_, e2⟩), eb, k _ _ _ _ g1 mu1 (.bl _) q⟩
  | exn0 m e =>
    cases eb : isE sub (.exn _ _) with
    | none => rw [eb] at q; exact q.elim
    | some b => rw [eb] at q; exact ⟨_, _, _, b, rfl, e, fun d hd => (by cases hd), eb, k _ _ _ _ g1 mu1 (.bl _) q⟩
  | _ => exact q.elim
/-- e.f of a caught exception -/
def tFldX (f : Str) (t : TED) : TED := fun W τ M Q => t W τ M fun d M1 => match d with | .exn _ fs => (match fs.lookup f with | some x => Q x M1 | none => False) | _ => False
theorem pd_fldX (cls : Addr → Prop) (ha : PD X a ta) (hs : ∀ C', ExK X.K C' → PySem.W.findIn X.K (.ref C') f = some none → True) (hk : ∀ C', cls C' → ExK X.K C' ∧ PySem.W.findIn X.K (.ref C') f = some none) (hb : attributeBase a f X.env (eval a X.env) = eval a X.env := by rfl) :
    PD X (.Attribute a f pos) (fun W τ M Q => ta W τ M fun d M1 => match d with | .exn C fs => cls C ∧ (match fs.lookup f with | some x => Q x M1 | none => False) | _ => False) := fun pn xe H0 M0 W at_ => by
  refine ⟨fun pins s σ H Q I ⟨τ, M, F, g0, sl, mu, h, k⟩ => ?_⟩
  refine attr_of hb (thn ((ha pn xe H0 M0 W at_).run pins s σ H (fun v H1 => ∃ d M1 C dx fs ws x, v = .ref d ∧ Good H M H1 M1 ∧ Mut X.K H1 M1 ∧ cls C ∧ H1 d = some (.ext (ExcAt d C (some dx))) ∧ H1 dx = some (.xd fs) ∧ RepF X.K H1 M1 fs ws ∧ ws.lookup f = some x ∧ F x M1) I ?_) fun u s1 hh => ?_)
  · refine upE_fin g0 sl mu h fun v H1 d M1 g1 mu1 r1 q => ?_
    cases r1 with
    | @exn a C dx fs ds m m2 e e2 rf =>
      obtain ⟨hC, q⟩ := q
      cases el : ds.lookup f with
      | none => rw [el] at q; exact q.elim
      | some x => rw [el] at q; exact ⟨_, M1, C, dx, fs, ds, x, rfl, g1, mu1, hC, e, e2, rf, el, q⟩
    | exn0 m e => exact q.2.elim
    | _ => exact q.elim
  · obtain ⟨_, H1, I1, rx, a, M1, C, dx, fs, ws, x, rfl, g1, mu1, hC, e, e2, rf, el, q⟩ := hh
    obtain rfl : u = Value.ref a := rx
    obtain ⟨T, hno⟩ := hk C hC
    obtain ⟨oe, vs, h1, h2, h3, h4⟩ := exc_at (X := X.tr pn xe) I1 e
    obtain ⟨v, lv, rv⟩ := rf.lookup el
    obtain ⟨mA, hns, hr⟩ := (show ObjOk X.prog X.w H1 s1.heap dx (.xd fs) from I1.hok dx _ e2)
    obtain ⟨od, ho, hl⟩ := lookIn_ns hns
    obtain ⟨u, hu, ru⟩ := RelO.some_of (v := v) (o := mA f) (by rw [← lv]; exact hr f)
    have J : PySem.W.InstAt s1.heap a oe C (some od) := ⟨h1, h2, by unfold PySem.W.notCls; rw [h4] <;> rfl, by rw [h3]; exact ho⟩
    exact HandSPX.exc_get I1.kIn J T.ga T.gg T.o.exC (PySem.W.findObj_own T.hd hno rfl (by rw [hl, hu])) (handed_of ru) ⟨v, H1, I1.tok _, ru, k _ H1 _ M1 g1 mu1 rv q⟩
end
end Z

set_option Elab.async false
set_option linter.all false
set_option maxRecDepth 100000
set_option maxHeartbeats 4000000
namespace Z
local macro_rules | `(tactic| walk_at "z at") => `(tactic| first | rfl | (simp only [atI, ixN, List.length_cons, List.length_nil, List.length_map]; rfl) | assumption)
local macro_rules | `(tactic| walk_at "z1") => `(tactic| first
  | with_reducible refine w_seq ?_ | with_reducible refine w_set ?_ | with_reducible refine w_ret ?_ | with_reducible refine w_if ?_ | with_reducible refine w_asg ?_ | with_reducible refine w_next ?_ | with_reducible refine w_setIx ?_ | with_reducible refine w_par ?_
  | ((with_reducible refine' w_var ?h ?_); (case h => exact rfl))
  | with_reducible refine w_c ?_ | with_reducible refine w_op ?_ | with_reducible refine w_un ?_ | with_reducible refine w_cons ?_ | with_reducible refine w_nil ?_ | with_reducible refine w_cb ?_
  | with_reducible refine w_call ?_ | with_reducible refine w_callK ?_ | with_reducible refine w_testB ?_ | with_reducible refine w_tru ?_ | with_reducible refine w_andD ?_ | with_reducible refine w_orD ?_ | with_reducible refine w_notD ?_
  | with_reducible refine w_andE ?_ | with_reducible refine w_orE ?_ | with_reducible refine w_notE ?_ | with_reducible refine w_ifE ?_ | with_reducible refine w_is ?_ | with_reducible refine w_isN ?_ | with_reducible refine w_notN ?_ | with_reducible refine w_tupOf ?_
  | with_reducible refine w_tup ?_ | with_reducible refine w_lst ?_ | with_reducible refine w_lstM ?_ | with_reducible refine w_sl ?_ | with_reducible refine w_part ?_ | with_reducible refine w_noPart ?_ | with_reducible refine w_repr ?_ | with_reducible refine w_seqI ?_
  | with_reducible refine w_rdI ?_ | with_reducible refine w_rdB ?_ | with_reducible refine w_rdAdd ?_ | with_reducible refine w_neg ?_ | with_reducible refine w_lenL ?_ | with_reducible refine w_lenT ?_ | with_reducible refine w_abs ?_ | with_reducible refine w_int ?_ | with_reducible refine w_intB ?_ | with_reducible refine w_gcd ?_
  | with_reducible refine w_gname ?_ | with_reducible refine w_gnil ?_ | with_reducible refine w_gcons ?_
  | with_reducible refine w_true ?_ | with_reducible refine w_false ?_
  | dsimp only [truthD, seqD, isNonD, permL, List.filterMap] | with_reducible refine w_drop ?_ | with_reducible refine w_retN ?_ | with_reducible refine w_nilP ?_ | with_reducible refine w_consP ?_ | with_reducible refine w_rng ?_ | with_reducible refine w_cont ?_ | with_reducible refine w_brk ?_)
local macro_rules | `(tactic| walk_at "z") => `(tactic| repeat walk_at "z1")
open PySem L2 PySem.Spec PyProof.Rows

/-! ### a class of errors right below the package's own base L, by one look -/
def veMro (L C : Addr) : List Value := [.ref C, .ref L, .type "ValueError", .type "Exception", .type "BaseException", .type "object"]
def exB (K : PySem.W.Frag) (L C : Addr) (fl : List Str) : Bool :=
  (match K.lookup C with
    | some ⟨.type "type", _, .cls cd, sl⟩ => (match sl.toList with | [_, _, _, _, some (.builtin n), _] => n == "ValueError.__new__" | _ => false) && (cd.mro == veMro L C) && cd.hasDict && !cd.hasDel
    | _ => false) &&
  (PySem.W.findIn K (.ref C) "__setattr__" == some (some (.builtin "object.__setattr__"))) && (PySem.W.keepIn K (.ref C)) && (PySem.W.findIn K (.ref C) "__getattribute__" == some (some (.builtin "BaseException.__getattribute__"))) &&
  (PySem.W.findIn K (.ref C) "__getattr__" == some none) && (PySem.W.findIn K (.ref C) "__class__" == some (some (.builtin "object.__class__"))) &&
  (PySem.W.specialIn K (.builtin "object.__class__") "__get__" == some (some (.builtin "getset_descriptor.__get__"))) && (PySem.W.takesIn K (.builtin "object.__class__") == some true) && fl.all fun f => PySem.W.findIn K (.ref C) f == some none
theorem ve_has {L C : Addr} : (veMro L C).contains (.type "BaseException") = true := by simp [veMro]
theorem ve_has2 {L C : Addr} : (veMro L C).contains (.type "object") = true := by simp [veMro]
theorem ve_has3 {L C : Addr} : (veMro L C).contains (.type "ValueError") = true := by simp [veMro]
theorem ve_own {L C D : Addr} : (veMro L C).contains (.ref D) = (decide (C = D) || decide (D = L)) := by
  by_cases h : C = D
  · subst h; simp [veMro]
  · by_cases h2 : D = L
    · subst h2; simp [veMro]
    · simp [veMro, h, h2, Ne.symm h]
structure ExG (K : PySem.W.Frag) (L C : Addr) (fl : List Str) : Prop where
  k : ExK K C
  sub : ∀ base, PySem.W.subIn K (.ref C) base = some ((veMro L C).contains base)
  nf : ∀ f ∈ fl, PySem.W.findIn K (.ref C) f = some none
theorem exB_ok {K : PySem.W.Frag} {L C : Addr} {fl : List Str} (h : exB K L C fl = true) : ExG K L C fl := by
  unfold exB at h
  simp only [Bool.and_eq_true, beq_iff_eq, List.all_eq_true] at h
  obtain ⟨⟨⟨⟨⟨⟨⟨⟨hl, sa⟩, kp⟩, ga⟩, gg⟩, ca⟩, sg⟩, tg⟩, nf⟩ := h
  split at hl
  · rename_i dd cd sl ho
    simp only [Bool.and_eq_true, beq_iff_eq, Bool.not_eq_true'] at hl
    obtain ⟨⟨⟨h1, h2⟩, h3⟩, h4⟩ := hl
    split at h1
    · rename_i k0 k1 k2 k3 n k5 hs
      have h1' := beq_iff_eq.mp h1
      subst h1'
      obtain ⟨nm, bs, mro, ns, qn, hd, sn, sb, ab, col, dl⟩ := cd
      dsimp only at h2 h3 h4
      subst h2 h3 h4
      have hsl : sl = #[k0, k1, k2, k3, some (.builtin "ValueError.__new__"), k5] := by
        obtain ⟨l⟩ := sl
        simp only at hs
        rw [hs]
      subst hsl
      have hc : PySem.W.clsIn K C = some { name := nm, bases := bs, mro := veMro L C, ns := ns, qualname := qn, hasDict := true, slotNames := sn, subclasses := sb, abstract := ab, collection := col, hasDel := false } := by unfold PySem.W.clsIn; rw [ho]
      have sub : ∀ base, PySem.W.subIn K (.ref C) base = some ((veMro L C).contains base) := fun base => by
        show PySem.W.mroIn K C base = _
        unfold PySem.W.mroIn
        rw [hc]
        rfl
      have ty : PySem.W.typeIn K (.ref C) = some (.type "type") := by show (K.lookup C).map _ = _; rw [ho]; rfl
      have ex : PySem.W.subIn K (.ref C) (.type "BaseException") = some true := (sub _).trans (by rw [ve_has])
      refine ⟨⟨⟨⟨nm, qn, ns, bs, _, sn, sb, ab, col, dd, k0, k1, k2, k3, k5, ho, rfl⟩, sa, ex, ty, kp⟩, ga, gg, by show (PySem.W.clsIn K C).any _ = true; rw [hc]; rfl, ca, (sub (.type "object")).trans (by rw [ve_has2]), by show (PySem.W.clsIn K C).isSome = true; rw [hc]; rfl, sg, tg⟩, sub, fun f hf => nf f hf⟩
    · cases h1
  · cases hl
theorem exg_kit {K : PySem.W.Frag} {L C D : Addr} {fl fl' : List Str} (T : ExG K L C fl) (U : ExG K L D fl') : PySem.W.kitOne K (.ref C) (.ref D) = some (decide (C = D) || decide (D = L)) := by
  unfold PySem.W.kitOne
  by_cases h : C = D
  · subst h; simp
  · have e : (Value.ref C == Value.ref D) = false := by simpa using h
    rw [if_neg (by rw [e]; exact Bool.false_ne_true)]
    have e2 : ((PySem.W.clsIn K D).isSome && PySem.W.typeIn K (.ref D) == some (.type "type")) = true := by
      have h1 : (PySem.W.clsIn K D).isSome = true := U.k.ic
      rw [h1, U.k.o.tyC]
      rfl
    unfold PySem.W.kitCls
    simp only [e2, if_true]
    rw [T.sub, ve_own]
theorem exg_ve {K : PySem.W.Frag} {L C : Addr} {fl : List Str} (T : ExG K L C fl) : PySem.W.kitOne K (.ref C) (.type "ValueError") = some true := by
  have m : PySem.W.kitMeta "ValueError" = true := by decide +kernel
  have e : (Value.ref C == Value.type "ValueError") = false := rfl
  unfold PySem.W.kitOne PySem.W.kitCls
  simp only [e, m, if_true, Bool.false_eq_true, if_false]
  rw [T.sub, ve_has3]
theorem exg_exm {K : PySem.W.Frag} {L C : Addr} {fl : List Str} (T : ExG K L C fl) (h1 : PySem.W.subIn K (.ref L) (.type "BaseException") = some true) (hd : PySem.W.hasDictIn K L = true) (ht : PySem.W.typeIn K (.ref L) = some (.type "type")) : PySem.W.exmOne K (.ref C) (.ref L) = some true := by
  have hc : PySem.W.isClsIn K L = true := by
    unfold PySem.W.hasDictIn at hd
    show (PySem.W.clsIn K L).isSome = true
    cases q : PySem.W.clsIn K L with
    | none => rw [q] at hd; cases hd
    | some _ => rfl
  have e1 : (PySem.W.subIn K (.ref L) (.type "BaseException") == some true) = true := by rw [h1]; rfl
  have e2 : ((PySem.W.clsIn K L).isSome && PySem.W.typeIn K (.ref L) == some (.type "type")) = true := by
    have hc' : (PySem.W.clsIn K L).isSome = true := hc
    rw [hc', ht]
    rfl
  have e3 := T.sub (.ref L)
  rw [ve_own] at e3
  simp only [decide_true, Bool.or_true] at e3
  show (if (PySem.W.subIn K (.ref L) (.type "BaseException") == some true) = true then (if ((PySem.W.clsIn K L).isSome && PySem.W.typeIn K (.ref L) == some (.type "type")) = true then PySem.W.subIn K (.ref C) (.ref L) else none) else none) = some true
  rw [if_pos e1, if_pos e2, e3]
end Z

set_option Elab.async false
set_option linter.all false
set_option maxRecDepth 100000
set_option maxHeartbeats 4000000
namespace Z
local macro_rules | `(tactic| walk_at "z at") => `(tactic| first | rfl | (simp only [atI, ixN, List.length_cons, List.length_nil, List.length_map]; rfl) | assumption)
local macro_rules | `(tactic| walk_at "z1") => `(tactic| first
  | with_reducible refine w_seq ?_ | with_reducible refine w_set ?_ | with_reducible refine w_ret ?_ | with_reducible refine w_if ?_ | with_reducible refine w_asg ?_ | with_reducible refine w_next ?_ | with_reducible refine w_setIx ?_ | with_reducible refine w_par ?_
  | ((with_reducible refine' w_var ?h ?_); (case h => exact rfl))
  | with_reducible refine w_c ?_ | with_reducible refine w_op ?_ | with_reducible refine w_un ?_ | with_reducible refine w_cons ?_ | with_reducible refine w_nil ?_ | with_reducible refine w_cb ?_
  | with_reducible refine w_call ?_ | with_reducible refine w_callK ?_ | with_reducible refine w_testB ?_ | with_reducible refine w_tru ?_ | with_reducible refine w_andD ?_ | with_reducible refine w_orD ?_ | with_reducible refine w_notD ?_
  | with_reducible refine w_andE ?_ | with_reducible refine w_orE ?_ | with_reducible refine w_notE ?_ | with_reducible refine w_ifE ?_ | with_reducible refine w_is ?_ | with_reducible refine w_isN ?_ | with_reducible refine w_notN ?_ | with_reducible refine w_tupOf ?_
  | with_reducible refine w_tup ?_ | with_reducible refine w_lst ?_ | with_reducible refine w_lstM ?_ | with_reducible refine w_sl ?_ | with_reducible refine w_part ?_ | with_reducible refine w_noPart ?_ | with_reducible refine w_repr ?_ | with_reducible refine w_seqI ?_
  | with_reducible refine w_rdI ?_ | with_reducible refine w_rdB ?_ | with_reducible refine w_rdAdd ?_ | with_reducible refine w_neg ?_ | with_reducible refine w_lenL ?_ | with_reducible refine w_lenT ?_ | with_reducible refine w_abs ?_ | with_reducible refine w_int ?_ | with_reducible refine w_intB ?_ | with_reducible refine w_gcd ?_
  | with_reducible refine w_gname ?_ | with_reducible refine w_gnil ?_ | with_reducible refine w_gcons ?_
  | with_reducible refine w_true ?_ | with_reducible refine w_false ?_
  | dsimp only [truthD, seqD, isNonD, permL, List.filterMap] | with_reducible refine w_drop ?_ | with_reducible refine w_retN ?_ | with_reducible refine w_nilP ?_ | with_reducible refine w_consP ?_ | with_reducible refine w_rng ?_ | with_reducible refine w_cont ?_ | with_reducible refine w_brk ?_)
local macro_rules | `(tactic| walk_at "z") => `(tactic| repeat walk_at "z1")
open PySem L2 PySem.Spec PyProof.Rows

/-! ### repr of a list that holds dicts of plain values -/
def scalPy : D → Option PyData | .non => some .none | .bl b => some (.bool b) | .int i => some (.int i) | .str x => some (.str x) | _ => none
def keyPy : Key → PyData | .inl i => .int i | .inr x => .str x
def kvPy : List (Key × D) → Option (List (PyData × PyData))
  | [] => some []
  | (k, d) :: r => match scalPy d, kvPy r with | some p, some q => some ((keyPy k, p) :: q) | _, _ => none
def toPyE (d : D) : Option PyData := match d with | .dct kvs => (kvPy kvs).map .dict | d => toPy d
def toPyEs : List D → Option (List PyData)
  | [] => some []
  | x :: xs => match toPyE x, toPyEs xs with | some p, some ps => some (p :: ps) | _, _ => none
/-- values that are read, none of which has the table of modules -/
inductive SafeAll (h : Heap) : List Value → List PyData → Prop
  | nil : SafeAll h [] []
  | cons {v d as vs ds} : Reads h v d as → (d.hasDict = true → sysModules ∉ as) → SafeAll h vs ds → SafeAll h (v :: vs) (d :: ds)
theorem SafeAll.reads {h : Heap} : ∀ {vs : List Value} {ds : List PyData}, SafeAll h vs ds → ∃ as, ReadsAll h vs ds as
  | _, _, .nil => ⟨_, .nil⟩
  | _, _, .cons r _ t => let ⟨_, q⟩ := t.reads; ⟨_, .cons r q⟩
theorem SafeAll.shows {prog : Program} {w : World} {h : Heap} : ∀ {vs : List Value} {ds : List PyData}, SafeAll h vs ds → PyData.showableAll ds = true → (∀ t ∈ PyData.shownAll ds, t.length ≤ sizeLine) → ∃ bs, ReadAtMost h (PyData.depthAll ds) bs ∧ ReprAllK prog w bs h (PyData.depthAll ds) vs (PyData.shownAll ds)
  | _, _, .nil, _, _ => ⟨[], (fun b q => absurd q List.not_mem_nil), .nil⟩
  | _, _, .cons (d := d) (ds := ds) r nf t, hs, hz => by
    simp only [PyData.showableAll, Bool.and_eq_true] at hs
    simp only [PyData.shownAll, List.mem_cons] at hz
    obtain ⟨b1, m1, q1⟩ := ReprK.of_reads (prog := prog) (w := w) r hs.1 nf (hz _ (.inl rfl))
    obtain ⟨b2, m2, q2⟩ := t.shows (prog := prog) (w := w) hs.2 fun x hx => hz x (.inr hx)
    simp only [PyData.depthAll, PyData.shownAll]
    exact ⟨b1 ++ b2, (m1.mono (Nat.le_max_left _ _)).append (m2.mono (Nat.le_max_right _ _)), .cons ((q1.more fun b hb => List.mem_append_left _ hb).level_le (Nat.le_max_left _ _)) (q2.more_le (fun b hb => List.mem_append_right _ hb) (Nat.le_max_right _ _))⟩
theorem repr_safe {prog : Program} {w : World} {A : Around} {E : Value → Shared → Prop} {s : Shared} {Q : Value → Shared → Prop} {a : Addr} {o : Obj} {its : List Value} {n : Nat} {ds : List PyData} (ha : s.heap.get? a = some o) (hc : o.cls = .type "list") (hd : o.data = .seq its.toArray n) (sa : SafeAll s.heap its ds)
    (ok : okRepr (.list ds)) (hg : A.guards = some []) (hu : A.units + 66 < cLine) (hQ : ∀ h' u tk, (∀ b o, s.heap.get? b = some o → h'.get? b = some o) → Q (.str (PyData.list ds).shown u) { s with heap := h', toks := tk }) : wpAny (model prog w) A (call (.builtin "repr") [.ref a]) Q E s := by
  obtain ⟨h1, h2, h3⟩ := ok
  have z : (listText (PyData.shownAll ds)).length ≤ sizeLine := by rw [sizeLine_eq]; simpa only [PyData.shown] using h2
  simp only [PyData.showable] at h1
  simp only [PyData.depth] at h3
  simp only [PyData.shown] at hQ
  obtain ⟨as, hr⟩ := sa.reads
  obtain ⟨bs, hb, hk⟩ := sa.shows (prog := prog) (w := w) h1 fun t ht => Nat.le_trans (listText_mem_le ht) z
  have na : a ∉ bs := not_mem_of_deeper (.list ha hc hd hr) (by simp only [PyData.depth]; omega) hb
  refine call_repr_slot (by omega) ⟨o, ha, hc⟩ F.slot_list_repr.toG ?_
  cases its with
  | nil =>
    cases sa
    simp only [PyData.shownAll, listText_nil] at hQ
    exact call_list_repr_empty ⟨o, ha, hc⟩ ha hd ⟨_, _, rfl, hQ s.heap _ _ fun _ _ e => e⟩
  | cons x l =>
    exact call_list_reprK ha hc hd na (by simpa using hk.length_eq) (fun i y e => hk.item i y (by simpa using e)) hg (fun b _ => Clear.nil b) (by show A.units + 1 + _ < cLine; omega) (fun _ _ e => e) (fun h' u tk kk => ⟨_, _, rfl, hQ h' u tk kk⟩) z
section
variable {X : Cx} {pins : List (Addr × Obj)} {σ : L2.St} {H : Hp} {s : Shared} {M : MH}
theorem scal_reads {v : V} {u : Value} {d : D} {p : PyData} (rp : Rep X.K H M v d) (r : RelV v u) (e : scalPy d = some p) : Reads s.heap u p [] := by
  cases rp <;> simp only [scalPy] at e <;> first | cases e | skip
  · cases r; exact .none
  · cases r; exact .bool _
  · obtain ⟨t, rfl⟩ := r; exact .int _ t
  · obtain ⟨t, rfl⟩ := r; exact .str _ t
theorem kv_reads {P : Program} {w : World} : ∀ {kvs : List (Key × V)} {kds : List (Key × D)} {ps : List (PyData × PyData)} {vs : List (Key × Value)} {es : List DictEntry}, RepK X.K H M kvs kds → KV kvs vs → Pairs (mixKind P w) es vs → kvPy kds = some ps →
    ReadsAll s.heap (es.map (·.key)) (ps.map (·.1)) [] ∧ ReadsAll s.heap (es.map (·.val)) (ps.map (·.2)) []
  | _, _, _, _, _, .nil, .nil, .nil, e => by cases e; exact ⟨.nil, .nil⟩
  | _, _, _, _, _, .cons (k := k) (d := d) (ds := ds) rv rr, .cons rk rt, .cons hk hv pr, e => by
    simp only [kvPy] at e
    cases e1 : scalPy d with
    | none => rw [e1] at e; cases e
    | some p =>
      cases e2 : kvPy ds with
      | none => rw [e1, e2] at e; cases e
      | some q =>
        rw [e1, e2] at e
        cases e
        obtain ⟨q1, q2⟩ := kv_reads (P := P) (w := w) rr rt pr e2
        have hv' := scal_reads (s := s) rv (hv ▸ rk.2) e1
        have hk' : ∀ ky, keyIs k ky = true → Reads s.heap ky (keyPy k) [] := fun ky h => by
          rcases keyIs_shape h with ⟨i, t, rfl, rfl⟩ | ⟨x, t, rfl, rfl⟩
          · exact .int i t
          · exact .str x t
        exact ⟨.cons (as := []) (bs := []) (hk' _ (by have e0 := rk.1; dsimp only at e0; rw [e0]; exact hk)) q1, .cons (as := []) (bs := []) hv' q2⟩
theorem safe_all (I : Inv X pins σ H s) (mu : Mut X.K H M) : ∀ {vs : List V} {ds : List D} {us : List Value} {ps : List PyData}, Reps X.K H M vs ds → Vals vs us → toPyEs ds = some ps → SafeAll s.heap us ps
  | _, _, _, _, .nil, .nil, e => by cases e; exact .nil
  | _, _, _, _, .cons (v := v) (d := d) (ds := ds) rp rr, .cons r rs, e => by
    simp only [toPyEs] at e
    cases e1 : toPyE d with
    | none => rw [e1] at e; cases e
    | some p =>
      cases e2 : toPyEs ds with
      | none => rw [e1, e2] at e; cases e
      | some q =>
        rw [e1, e2] at e
        cases e
        have t := safe_all I mu rr rs e2
        unfold toPyE at e1
        split at e1
        · rename_i kvs
          cases rp with
          | dct m hd rk =>
            cases r
            cases ek : kvPy kvs with
            | none => rw [ek] at e1; cases e1
            | some ps =>
              rw [ek] at e1
              cases e1
              obtain ⟨_, hm, vs, kv, o, es, ep, h1, h2, h3, _, h5, _⟩ := (show ObjOk X.prog X.w H s.heap _ (.dK _) from I.hok _ _ hd)
              obtain ⟨q1, q2⟩ := kv_reads (s := s) rk kv h5 ek
              exact .cons (.dict (as := []) (bs := []) h1 h2.1 h3 q1 q2) (fun _ hh => by rw [List.append_nil, List.mem_singleton] at hh; rw [← hh] at hm; simp at hm) t
        · obtain ⟨as, hr⟩ := Dp.reads I p v _ (toPy_dp rp e1) r
          exact .cons hr (fun z => by rw [toPy_noDict _ _ e1] at z; cases z) t
def tReprE (t : TED) : TED := fun W τ M Q => t W τ M fun d M1 => match d with | .lst xs => (match toPyEs xs with | some ps => okRepr (.list ps) ∧ Q (.str (PyData.list ps).shown) M1 | none => False) | _ => False
end
section
variable {X : Cx}
theorem pd_reprE {a : Expr} {ta : TED} {pos p : Pos} (hgd : X.A.guards = some []) (hu : X.A.units + 66 < cLine) (hm : X.mg "repr" = none) (ha : PD X a ta) (hg : Gl X "repr" := by rfl) (he : starEach [a] X.env = (false, eval a X.env) :: starEach [] X.env := by rfl) (hpl : (backTo pos (starEach [] X.env)).any (·.1) = false := by rfl) :
    PD X (.Call (.Name "repr" p) [a] [] pos) (tReprE ta) := fun pn xe H0 M0 W at_ => by
  refine ⟨fun pins s σ H Q I ⟨τ, M, F, g0, sl, mu, h, k⟩ => ?_⟩
  refine wpAny_Call_Name_kw (ld_blt I hg hm (show bootBuiltins "repr" = some (.builtin "repr") by decide +kernel) ?_ (by decide) (by decide))
  refine PyProof.Rows.callWith_builtin1 (thn ((pa_cons (X := X.tr pn xe) (ha pn xe H0 M0 W at_) pa_nil he).run pos pins s σ H (fun vs H1 => ∃ v xs M1 ps, vs = [v] ∧ Good H M H1 M1 ∧ Mut X.K H1 M1 ∧ Rep X.K H1 M1 v (.lst xs) ∧ toPyEs xs = some ps ∧ okRepr (.list ps) ∧ F (.str (PyData.list ps).shown) M1) I ?_) fun us s1 ⟨vs, H1, I1, r1, v, xs, M1, ps, ev, g1, mu1, rp, e, ok, q⟩ => ?_) he hpl
  · exact upE_fin g0 sl mu h fun v H1 d M1 g1 mu1 r1 q => by
      cases d with
      | lst xs =>
        dsimp only at q
        cases e : toPyEs xs with
        | none => rw [e] at q; exact q.elim
        | some ps => rw [e] at q; exact ⟨v, xs, M1, ps, rfl, g1, mu1, r1, e, q.1, q.2⟩
      | _ => exact q.elim
  · subst ev
    cases r1 with
    | cons r rs =>
      cases rs
      cases rp with
      | lst rr rs =>
        cases r
        obtain ⟨its, rv, ⟨o, n, ho, hc, _, hd⟩, _⟩ := I1.list rr.sq
        refine repr_safe ho hc hd (safe_all (X := X.tr pn xe) I1 mu1 rs rv e) ok hgd hu fun h' u tk kk => ⟨.str (PyData.list ps).shown, H1, I1.kept kk, ⟨u, rfl⟩, k _ H1 _ M1 g1 mu1 (.str _) q⟩
end
end Z

set_option Elab.async false
set_option linter.all false
set_option maxRecDepth 100000
set_option maxHeartbeats 4000000
namespace Z
local macro_rules | `(tactic| walk_at "z at") => `(tactic| first | rfl | (simp only [atI, ixN, List.length_cons, List.length_nil, List.length_map]; rfl) | assumption)
local macro_rules | `(tactic| walk_at "z1") => `(tactic| first
  | with_reducible refine w_seq ?_ | with_reducible refine w_set ?_ | with_reducible refine w_ret ?_ | with_reducible refine w_if ?_ | with_reducible refine w_asg ?_ | with_reducible refine w_next ?_ | with_reducible refine w_setIx ?_ | with_reducible refine w_par ?_
  | ((with_reducible refine' w_var ?h ?_); (case h => exact rfl))
  | with_reducible refine w_c ?_ | with_reducible refine w_op ?_ | with_reducible refine w_un ?_ | with_reducible refine w_cons ?_ | with_reducible refine w_nil ?_ | with_reducible refine w_cb ?_
  | with_reducible refine w_call ?_ | with_reducible refine w_callK ?_ | with_reducible refine w_testB ?_ | with_reducible refine w_tru ?_ | with_reducible refine w_andD ?_ | with_reducible refine w_orD ?_ | with_reducible refine w_notD ?_
  | with_reducible refine w_andE ?_ | with_reducible refine w_orE ?_ | with_reducible refine w_notE ?_ | with_reducible refine w_ifE ?_ | with_reducible refine w_is ?_ | with_reducible refine w_isN ?_ | with_reducible refine w_notN ?_ | with_reducible refine w_tupOf ?_
  | with_reducible refine w_tup ?_ | with_reducible refine w_lst ?_ | with_reducible refine w_lstM ?_ | with_reducible refine w_sl ?_ | with_reducible refine w_part ?_ | with_reducible refine w_noPart ?_ | with_reducible refine w_repr ?_ | with_reducible refine w_seqI ?_
  | with_reducible refine w_rdI ?_ | with_reducible refine w_rdB ?_ | with_reducible refine w_rdAdd ?_ | with_reducible refine w_neg ?_ | with_reducible refine w_lenL ?_ | with_reducible refine w_lenT ?_ | with_reducible refine w_abs ?_ | with_reducible refine w_int ?_ | with_reducible refine w_intB ?_ | with_reducible refine w_gcd ?_
  | with_reducible refine w_gname ?_ | with_reducible refine w_gnil ?_ | with_reducible refine w_gcons ?_
  | with_reducible refine w_true ?_ | with_reducible refine w_false ?_
  | dsimp only [truthD, seqD, isNonD, permL, List.filterMap] | with_reducible refine w_drop ?_ | with_reducible refine w_retN ?_ | with_reducible refine w_nilP ?_ | with_reducible refine w_consP ?_ | with_reducible refine w_rng ?_ | with_reducible refine w_cont ?_ | with_reducible refine w_brk ?_)
local macro_rules | `(tactic| walk_at "z") => `(tactic| repeat walk_at "z1")
open PySem L2 PySem.Spec PyProof.Rows

/-! ### list + list -/
def rCatL (K : PySem.W.Frag) : R2 := fun x y H Q => ∃ l b xs zs, x = .ref l ∧ y = .ref b ∧ SqL K H l xs ∧ SqL K H b zs ∧ xs.length + zs.length ≤ sizeLine ∧ ∀ p, H p = none → Q (.ref p) (upd H p (.lst (xs ++ zs)))
theorem op_catL {X : Cx} : OpR X (binaryOp .Add) (rCatL X.K) := by
  intro pins s σ H x y v u Q I rx ry h
  obtain ⟨l, b, xs, zs, rfl, rfl, hH, hB, hz, q⟩ := h
  cases rx
  cases ry
  obtain ⟨its, r, ⟨⟨cls, dd, data, sl⟩, n, ho, hc, _, hd⟩, _⟩ := I.list hH
  obtain ⟨its2, r2, ⟨⟨cls2, dd2, data2, sl2⟩, n2, ho2, hc2, _, hd2⟩, _⟩ := I.list hB
  simp only at hc hd hc2 hd2
  subst hc hd hc2 hd2
  have hl := r.length
  have hl2 := r2.length
  refine concat_meets ⟨_, ho, rfl⟩ ⟨_, ho2, rfl⟩ noFill_list_add seq_list_add PySem.F.slot_list_add PySem.F.entry_list_add (PySem.F.args_list_add_2 _ _) (list_addW l b its.toArray its2.toArray n n2 dd dd2 sl sl2 (by rw [List.size_toArray, List.size_toArray]; omega)) ⟨ho, ho2, ?_⟩
  have ea : its.toArray ++ its2.toArray = (its ++ its2).toArray := by simp
  rw [ea]
  exact ⟨.ref _, _, I.lnew (t' := s.toks) (r.append r2) (by rw [List.length_append]; omega), rfl, q _ I.fresh⟩
def rdCatL : R2D := fun d e M F => match d, e with
  | .lst xs, .lst ys => decide (xs.length + ys.length ≤ 16777216) = true ∧ F (.lst (xs ++ ys)) M
  | _, _ => False
theorem simCatL {K : PySem.W.Frag} : SimOp K (rCatL K) rdCatL := fun x y d e H M F Q rx ry mu h k => by
  unfold rdCatL at h
  split at h
  · cases rx with
    | lst rr rs =>
      cases ry with
      | lst rr2 rs2 =>
        refine ⟨_, _, _, _, rfl, rfl, rr.sq, rr2.sq, by rw [rs.length, rs2.length]; exact szl h.1, fun p hp => ?_⟩
        exact k _ _ _ _ (good_new hp) (mut_new mu hp) (.lst (.inl ⟨mut_none mu hp, .inl upd_same⟩) ((rs.append rs2).good (good_new hp))) h.2
  · exact h.elim
theorem w_catL {xs ys : List D} {M : MH} {Q : QD} (h1 : xs.length + ys.length ≤ 16777216) (h : Q (.lst (xs ++ ys)) M) : rdCatL (.lst xs) (.lst ys) M Q := ⟨decide_eq_true h1, h⟩
section
variable {X : Cx} {a b e : Expr} {ta tb te : TED} {pos p p2 : Pos}
theorem pd_cat (ha : PD X a ta) (hb : PD X b tb) : PD X (.BinOp a .Add b pos) (tOpD rdCatL ta tb) := pd_op (fun _ _ => op_catL) simCatL ha hb

/-! ### enumerate of a list -/
def numL : Nat → List D → List D
  | _, [] => []
  | n, x :: r => .tup [.int (n : Int), x] :: numL (n + 1) r
theorem numL_len : ∀ (n : Nat) (xs : List D), (numL n xs).length = xs.length
  | _, [] => rfl
  | n, x :: r => by simp [numL, numL_len (n + 1) r]
theorem numL_get : ∀ (n : Nat) (xs : List D) (i : Nat) (d : D), (numL n xs)[i]? = some d → ∃ x, xs[i]? = some x ∧ d = .tup [.int ((n + i : Nat) : Int), x]
  | _, [], _, _, e => by simp [numL] at e
  | n, x :: r, 0, d, e => by simp [numL] at e; exact ⟨x, rfl, e.symm⟩
  | n, x :: r, i + 1, d, e => by
    obtain ⟨y, h1, h2⟩ := numL_get (n + 1) r i d (by simpa [numL] using e)
    exact ⟨y, by simpa using h1, by rw [h2]; congr 4; omega⟩
def iEnumD (te : TED) : TAD := fun W τ M Q => te W τ M fun d M1 => match d with | .lst xs => Q (numL 0 xs) M1 | _ => False
theorem pdi_enum {tpos : Pos} {elts : List Expr} {kk : Nat} (hm : X.mg "enumerate" = none) (ha : PD X e te) (hg : Gl X "enumerate" := by rfl) (hs : starEach [e] X.env = [(false, eval e X.env)] := by rfl) :
    PDI X (.Tuple elts kk tpos) (.Call (.Name "enumerate" p) [e] [] pos) (iEnumD te) := fun pn xe H0 M0 W at_ =>
  imI (pi_enum (X := X.tr pn xe) hg hm (pa_cons (X := X.tr pn xe) (ha pn xe H0 M0 W at_) pa_nil hs) hs) fun σ H R ⟨τ, M, F, g0, sl, mu, h, k⟩ => upE_fin g0 sl mu h fun v H1 d M1 g1 mu1 r1 q => by
    cases r1 with
    | lst rr rs =>
      refine ⟨_, _, rfl, rr.sq, k _ H1 _ M1 g1 mu1 (fun H2 M2 g2 mu2 => ⟨fun i d hd => ?_, ⟨_, (rr.good g2).sq, by rw [numL_len]; exact Nat.le_of_eq rs.length⟩⟩) q⟩
      obtain ⟨x, hx, rfl⟩ := numL_get _ _ _ _ hd
      obtain ⟨v, hv, rv⟩ := (rs.good g2).get hx
      refine ⟨⟨_, v, (rr.good g2).sq, hv⟩, fun y H3 ⟨T, w, e1, hT, e3, hw⟩ => ?_⟩
      have := hw _ (rr.good g2).sq
      rw [hv] at this
      cases this
      subst e1 e3
      rw [Nat.zero_add]
      exact ⟨good_new hT, mut_new mu2 hT, .tup (.inl ⟨mut_none mu2 hT, .inl upd_same⟩) (.cons (.int _) (.cons (rv.good (good_new hT)) .nil))⟩
    | _ => exact q.elim
theorem w_enum {W : WD} {τ : EnvD} {M : MH} {QA : List D → MH → Prop} (h : te W τ M fun d M1 => match d with | .lst xs => QA (numL 0 xs) M1 | _ => False) : iEnumD te W τ M QA := h

/-! ### own errors: asked, caught, their fields -/
def subX (all : List Addr) (L D : Addr) : Addr → Option Bool := fun C => if C ∈ all then some (decide (C = D) || decide (D = L)) else none
theorem subX_in {all : List Addr} {L D C : Addr} (h : C ∈ all) : subX all L D C = some (decide (C = D) || decide (D = L)) := if_pos h
def subV (all : List Addr) : Addr → Option Bool := fun C => if C ∈ all then some true else none
theorem subV_in {all : List Addr} {C : Addr} (h : C ∈ all) : subV all C = some true := if_pos h
theorem pd_isX {x : Str} {all : List Addr} {L D : Addr} {fl : List Str} (hx : ∀ C ∈ all, ExG X.K L C fl) (hD : D ∈ all) (hi : X.mg "isinstance" = none) (hm : X.mg x = some (.ref D)) (ha : PD X a ta) (hg : Gl X x := by rfl) (hd : (x == ("__debug__" : Str)) = false := by decide)
    (hg2 : Gl X "isinstance" := by rfl) (he : starEach [a, .Name x p] X.env = (false, eval a X.env) :: starEach [.Name x p] X.env := by rfl) (he2 : starEach [.Name x p] X.env = [(false, eval (.Name x p) X.env)] := by rfl) (hpl : (backTo pos (starEach [.Name x p] X.env)).any (·.1) = false := by rfl) :
    PD X (.Call (.Name "isinstance" p2) [a, .Name x p] [] pos) (tIs (isE (subX all L D)) ta) :=
  pd_isE (cn := x) (cv := .ref D) hi ha (fun pn xe => ⟨.ref D, fun u r => r, pe_glob (X := X.tr pn xe) hg hm rfl hd⟩)
    (fun C b e => by
      unfold subX at e
      split at e
      · rename_i hC
        cases e
        exact ⟨(hx C hC).k, exg_kit (hx C hC) (hx D hD)⟩
      · cases e) hg2 he he2 hpl
theorem pd_isV {all : List Addr} {L : Addr} {fl : List Str} (hx : ∀ C ∈ all, ExG X.K L C fl) (hi : X.mg "isinstance" = none) (hm : X.mg "ValueError" = none) (ha : PD X a ta) (hg : Gl X "ValueError" := by rfl)
    (hg2 : Gl X "isinstance" := by rfl) (he : starEach [a, .Name "ValueError" p] X.env = (false, eval a X.env) :: starEach [.Name "ValueError" p] X.env := by rfl) (he2 : starEach [.Name "ValueError" p] X.env = [(false, eval (.Name "ValueError" p) X.env)] := by rfl) (hpl : (backTo pos (starEach [.Name "ValueError" p] X.env)).any (·.1) = false := by rfl) :
    PD X (.Call (.Name "isinstance" p2) [a, .Name "ValueError" p] [] pos) (tIs (isE (subV all)) ta) :=
  pd_isE (cn := "ValueError") (cv := .type "ValueError") hi ha (fun pn xe => ⟨.ty "ValueError", fun u r => r, pe_tag hm (by decide +kernel) hg (by decide) (by decide) pn xe⟩)
    (fun C b e => by
      unfold subV at e
      split at e
      · rename_i hC
        cases e
        exact ⟨(hx C hC).k, exg_ve (hx C hC)⟩
      · cases e) hg2 he he2 hpl
def tFldA (all : List Addr) (f : Str) (t : TED) : TED := fun W τ M Q => t W τ M fun d M1 => match d with | .exn C fs => C ∈ all ∧ (match fs.lookup f with | some x => Q x M1 | none => False) | _ => False
theorem pd_fldA {f : Str} {all : List Addr} {L : Addr} {fl : List Str} (hx : ∀ C ∈ all, ExG X.K L C fl) (hf : f ∈ fl) (ha : PD X a ta) (hb : attributeBase a f X.env (eval a X.env) = eval a X.env := by rfl) : PD X (.Attribute a f pos) (tFldA all f ta) :=
  pd_fldX (fun C => C ∈ all) ha (fun _ _ _ => trivial) (fun C h => ⟨(hx C h).k, (hx C h).nf f hf⟩) hb
theorem w_fldA {all : List Addr} {f : Str} {W : WD} {τ : EnvD} {M : MH} {Q : QD} (h : te W τ M fun d M1 => match d with | .exn C fs => C ∈ all ∧ (match fs.lookup f with | some x => Q x M1 | none => False) | _ => False) : tFldA all f te W τ M Q := h
theorem w_raise {C : Addr} {fl : List D → List (Str × D)} {tr : TAD} {W : WD} {F : EndsD} {τ : EnvD} {M : MH} (h : tr W τ M fun ds M1 => W C (fl ds) τ M1) : tRaiseD C fl tr W F τ M := h
theorem w_tryK {ex : Addr → Option Bool} {i j : Nat} {tb : TSD} {W : WD} {F : EndsD} {τ : EnvD} {M : MH} (h : tb (fun C fs τ' M' => ∃ b, ex C = some b ∧ (b = true → i < τ'.length ∧ F.nx (setN (setN τ' j (some (.exn C fs))) i none) M') ∧ (b = false → W C fs τ' M')) F τ M) : tTryK ex i j tb W F τ M := h
theorem try_in {all : List Addr} {C : Addr} {P R : Prop} (h1 : C ∈ all) (h : P) : ∃ b, subV all C = some b ∧ (b = true → P) ∧ (b = false → R) := ⟨true, subV_in h1, fun _ => h, fun z => nomatch z⟩
theorem exm_all {K : PySem.W.Frag} {all : List Addr} {L : Addr} {fl : List Str} (hx : ∀ C ∈ all, ExG K L C fl) (h1 : PySem.W.subIn K (.ref L) (.type "BaseException") = some true) (hd : PySem.W.hasDictIn K L = true) (ht : PySem.W.typeIn K (.ref L) = some (.type "type")) :
    ∀ C b, subV all C = some b → PySem.W.exmOne K (.ref C) (.ref L) = some b := fun C b e => by
  unfold subV at e
  split at e
  · rename_i hC
    cases e
    exact exg_exm (hx C hC) h1 hd ht
  · cases e
end

/-! ### what an own __init__ does -/
theorem ost1 {K : PySem.W.Frag} {C : Addr} {f p : Str} {N : List Str} {vs : List V} {H : Hp} {Q : VK} {E : XK} (hN : N.length = 2) (T : ExK K C) (nf : PySem.W.findIn K (.ref C) f = some none) (h : spI1 C f vs H Q E) :
    tOst K f (tVar 0) (tVar 1) { nx := fun _ H' => Q .non H', rt := Q } (L2.start N vs) H := by
  obtain ⟨a, v, rfl, e, k⟩ := h
  have es : L2.start N [.ref a, v] = [some (.ref a), some v] := by unfold L2.start; rw [hN]; rfl
  rw [es]
  exact ⟨v, rfl, .ref a, rfl, a, C, rfl, T.o, nf, .inl ⟨e, k⟩⟩
theorem ost2 {K : PySem.W.Frag} {C : Addr} {f g p : Str} {N : List Str} {vs : List V} {H : Hp} {Q : VK} {E : XK} (hN : N.length = 3) (T : ExK K C) (nf : PySem.W.findIn K (.ref C) f = some none) (ng : PySem.W.findIn K (.ref C) g = some none) (h : spI2 C f g vs H Q E) :
    tSeq (tOst K f (tVar 0) (tVar 1)) (tOst K g (tVar 0) (tVar 2)) { nx := fun _ H' => Q .non H', rt := Q } (L2.start N vs) H := by
  obtain ⟨a, v, w, rfl, e, k⟩ := h
  have es : L2.start N [.ref a, v, w] = [some (.ref a), some v, some w] := by unfold L2.start; rw [hN]; rfl
  rw [es]
  refine ⟨v, rfl, .ref a, rfl, a, C, rfl, T.o, nf, .inl ⟨e, fun dx hdx ne => ?_⟩⟩
  refine ⟨w, rfl, .ref a, rfl, a, C, rfl, T.o, ng, .inr ⟨dx, [(f, v)], upd_same, by rw [upd_ne ne]; exact upd_same, by show 1 ≤ 900; decide, ?_⟩⟩
  exact k dx hdx ne
end Z

set_option Elab.async false
set_option linter.all false
set_option maxRecDepth 100000
set_option maxHeartbeats 4000000
/-! A lambda, with a default or none: how it is made, how it is called by whoever got it. -/
namespace Z
local macro_rules | `(tactic| walk_at "z at") => `(tactic| first | rfl | (simp only [atI, ixN, List.length_cons, List.length_nil, List.length_map]; rfl) | assumption)
local macro_rules | `(tactic| walk_at "z1") => `(tactic| first
  | with_reducible refine w_seq ?_ | with_reducible refine w_set ?_ | with_reducible refine w_ret ?_ | with_reducible refine w_if ?_ | with_reducible refine w_asg ?_ | with_reducible refine w_next ?_ | with_reducible refine w_setIx ?_ | with_reducible refine w_par ?_
  | ((with_reducible refine' w_var ?h ?_); (case h => exact rfl))
  | with_reducible refine w_c ?_ | with_reducible refine w_op ?_ | with_reducible refine w_un ?_ | with_reducible refine w_cons ?_ | with_reducible refine w_nil ?_ | with_reducible refine w_cb ?_
  | with_reducible refine w_call ?_ | with_reducible refine w_callK ?_ | with_reducible refine w_testB ?_ | with_reducible refine w_tru ?_ | with_reducible refine w_andD ?_ | with_reducible refine w_orD ?_ | with_reducible refine w_notD ?_
  | with_reducible refine w_andE ?_ | with_reducible refine w_orE ?_ | with_reducible refine w_notE ?_ | with_reducible refine w_ifE ?_ | with_reducible refine w_is ?_ | with_reducible refine w_isN ?_ | with_reducible refine w_notN ?_ | with_reducible refine w_tupOf ?_
  | with_reducible refine w_tup ?_ | with_reducible refine w_lst ?_ | with_reducible refine w_lstM ?_ | with_reducible refine w_sl ?_ | with_reducible refine w_part ?_ | with_reducible refine w_noPart ?_ | with_reducible refine w_repr ?_ | with_reducible refine w_seqI ?_
  | with_reducible refine w_rdI ?_ | with_reducible refine w_rdB ?_ | with_reducible refine w_rdAdd ?_ | with_reducible refine w_neg ?_ | with_reducible refine w_lenL ?_ | with_reducible refine w_lenT ?_ | with_reducible refine w_abs ?_ | with_reducible refine w_int ?_ | with_reducible refine w_intB ?_ | with_reducible refine w_gcd ?_
  | with_reducible refine w_gname ?_ | with_reducible refine w_gnil ?_ | with_reducible refine w_gcons ?_
  | with_reducible refine w_true ?_ | with_reducible refine w_false ?_
  | dsimp only [truthD, seqD, isNonD, permL, List.filterMap] | with_reducible refine w_drop ?_ | with_reducible refine w_retN ?_ | with_reducible refine w_nilP ?_ | with_reducible refine w_consP ?_ | with_reducible refine w_rng ?_ | with_reducible refine w_cont ?_ | with_reducible refine w_brk ?_)
local macro_rules | `(tactic| walk_at "z") => `(tactic| repeat walk_at "z1")
open PySem L2 PySem.Spec PyProof.Rows
def zFn (q : Str) (ps : Arguments) (b : Expr) (sc : Scope) (cl : List (Str × Addr)) (pm cv ct dV : Value) : FuncData :=
  { name := "<lambda>", qualname := q, params := ps, body := .expr b, scope := sc, globals := mainGlobals, closure := cl, closureTuple := ct, code := cv, builtins := builtinsNs, defaults := dV, kwdefaults := .none, annotations := none, pyModule := pm, doc := .none }
def zOb (q : Str) (ps : Arguments) (b : Expr) (sc : Scope) (cl : List (Str × Addr)) (pm cv ct dV : Value) : Obj := { cls := .type "function", data := .func (zFn q ps b sc cl pm cv ct dV) }
def tabO (tb : Array Value) : Obj := { cls := .none, data := .fields tb }
section
variable {M : Model} {A : Around} {E : Value → Shared → Prop} {s : Shared} {q : Str} {ps : Arguments} {b : Expr} {sc : Scope} {env : Env} {c P : Addr} {tb : Array Value} {pos : Pos} {n : Nat} {mg : Str → Option Value} {cl : List (Str × Addr)} {dV : Value} {Q : Value → Shared → Prop}
theorem zt_miss (k1 : closureFor sc env = pure cl) (k2 : env.globals = mainGlobals) (k3 : s.heap.Ns mainGlobals mg) (k4 : env.code = .ref c) (k5 : PySem.W.CodeHd s.heap c P) (k6 : s.heap.get? P = some (tabO tb)) (k7 : TriplesOk tb.toList) (k8 : codeAmong pos tb.toList = none) (k9 : mainGlobals ≠ P) (k10 : s.heap.BuiltinsAt mg P)
    (fin : ∀ c' ct h' tk, Heap.ExtBut P s.heap h' → s.heap.objs.size ≤ c' → c' < h'.objs.size → h'.CodeRec (.ref c') q → h'.get? P = some (tabO (tb ++ #[rawInt pos.line, rawInt pos.col, .ref c'])) → Q (.ref h'.objs.size) { s with heap := h'.push (zOb q ps b sc cl ((mg "__name__").getD .none) (.ref c') ct dV), toks := tk }) :
    wpAny M A (makeTail "<lambda>" q ps (.expr b) sc env dV .none none pos n) Q E s := by
  obtain ⟨bm, ob, e1, e2, _, e3, e4, e5, e6, e7⟩ := k10
  unfold makeTail
  rw [k1, k2]
  refine wpAny_bind (wpAny_pure ?_)
  cases cl with
  | nil =>
    simp only [List.isEmpty_nil, if_true]
    refine wpAny_bind (wpAny_pure (wpAny_bind (wpAny_functionCodeX k4 (k5.code k6 k7) (k5.tab k6) k8 fun c' h' tk hx hge hlt _ hr ht _ => ?_)))
    have g' := k3.extBut hx k9
    refine wpAny_bind (wpAny_builtinsFor g' e1 e2 (hx _ _ e3 e4) e5 e6 e7 (wpAny_bind (wpAny_nsGet g' ?_)))
    exact wpAny_bind (wpAny_pure (wpAny_newObj_type (fin c' .none h' tk hx hge hlt hr ht.2) (by size_fits)))
  | cons y l =>
    simp only [List.isEmpty_cons, Bool.false_eq_true, if_false]
    have up : ∀ {o : Obj} (b' : Addr) (o' : Obj), s.heap.get? b' = some o' → (s.heap.push o).get? b' = some o' := fun b' o' e => Heap.get?_push_of_some _ e
    refine wpAny_bind (wpAny_newTextTuple (wpAny_bind (wpAny_functionCodeX k4 ((k5.keeps up).code (up _ _ k6) k7) ((k5.keeps up).tab (up _ _ k6)) k8 fun c' h' tk hx hge hlt _ hr ht _ => ?_)))
    have g' := (k3.push _).extBut hx k9
    have hx' : Heap.ExtBut P s.heap h' := fun b o hb' e => hx b o hb' (up _ _ e)
    have hge' : s.heap.objs.size ≤ c' := Nat.le_trans (by rw [Heap.size_push]; omega) hge
    refine wpAny_bind (wpAny_builtinsFor g' e1 e2 (hx' _ _ e3 e4) e5 e6 e7 (wpAny_bind (wpAny_nsGet g' ?_)))
    exact wpAny_bind (wpAny_pure (wpAny_newObj_type (fin c' _ h' tk hx' hge' hlt hr ht.2) (by size_fits)))
theorem zt_hit {cv : Value} (k1 : closureFor sc env = pure cl) (k2 : env.globals = mainGlobals) (k3 : s.heap.Ns mainGlobals mg) (k4 : env.code = .ref c) (k5 : PySem.W.CodeHd s.heap c P) (k6 : s.heap.get? P = some (tabO tb)) (k7 : TriplesOk tb.toList) (k8 : codeAmong pos tb.toList = some cv) (k10 : s.heap.BuiltinsAt mg P)
    (fin : ∀ (ct : Value) (h' : Heap) (tk : Tok), (∀ b o, s.heap.get? b = some o → h'.get? b = some o) → s.heap.objs.size ≤ h'.objs.size → Q (.ref h'.objs.size) { s with heap := h'.push (zOb q ps b sc cl ((mg "__name__").getD .none) cv ct dV), toks := tk }) :
    wpAny M A (makeTail "<lambda>" q ps (.expr b) sc env dV .none none pos n) Q E s := by
  obtain ⟨bm, ob, e1, e2, _, e3, e4, e5, e6, e7⟩ := k10
  unfold makeTail
  rw [k1, k2]
  refine wpAny_bind (wpAny_pure ?_)
  cases cl with
  | nil =>
    simp only [List.isEmpty_nil, if_true]
    refine wpAny_bind (wpAny_pure (wpAny_bind (wpAny_functionCode_hit k4 (k5.code k6 k7) k8 ?_)))
    refine wpAny_bind (wpAny_builtinsFor k3 e1 e2 e4 e5 e6 e7 (wpAny_bind (wpAny_nsGet k3 ?_)))
    exact wpAny_bind (wpAny_pure (wpAny_newObj_type (fin .none s.heap s.toks (fun _ _ e => e) (Nat.le_refl _)) (by size_fits)))
  | cons y l =>
    simp only [List.isEmpty_cons, Bool.false_eq_true, if_false]
    have up : ∀ {o : Obj} (b' : Addr) (o' : Obj), s.heap.get? b' = some o' → (s.heap.push o).get? b' = some o' := fun b' o' e => Heap.get?_push_of_some _ e
    refine wpAny_bind (wpAny_newTextTuple (wpAny_bind (wpAny_functionCode_hit k4 ((k5.keeps up).code (up _ _ k6) k7) k8 ?_)))
    refine wpAny_bind (wpAny_builtinsFor (k3.push _) e1 e2 (up _ _ e4) e5 e6 e7 (wpAny_bind (wpAny_nsGet (k3.push _) ?_)))
    exact wpAny_bind (wpAny_pure (wpAny_newObj_type (fin _ _ s.toks up (by rw [Heap.size_push]; omega)) (by size_fits)))
end
section
variable {X : Cx} {pins : List (Addr × Obj)} {σ : L2.St} {H : Hp} {s : Shared} {q : Str} {ps : Arguments} {b : Expr} {sc : Scope} {c P : Addr} {pos : Pos} {dV : Value} {E : Value → Shared → Prop} {Q : Value → Shared → Prop}
/-- only the table at P is another one, new is just one code object -/
def TabUp (P c' : Addr) (q : Str) (H H1 : Hp) : Prop := H1 = H ∨ ∃ (pos : Pos) (tb : Array Value), H P = some (.tbl tb) ∧ H c' = none ∧ c' ≠ P ∧ H1 = upd (upd H P (.tbl (tb ++ #[rawInt pos.line, rawInt pos.col, .ref c']))) c' (LamX.CodeO c' q)
theorem among_more {pos : Pos} {cv : Value} (l more : List Value) (e : codeAmong pos l = some cv) : codeAmong pos (l ++ more) = some cv := by
  fun_induction codeAmong pos l with
  | case1 line _ col _ x rest h => simp only [List.cons_append, codeAmong, if_pos h]; exact e
  | case2 line _ col _ x rest h ih => simp only [List.cons_append, codeAmong, if_neg h]; exact ih e
  | case3 => cases e
theorem zlam_mk (I : Inv X pins σ H s) (TB : LamX.TabB X.base X.mg c P) (hcode : X.env.code = .ref c) (hT : LamX.TabS H P (X.env.qual ++ "<lambda>")) (hfree : ∀ y ∈ sc.names, y.2 = .free → ∃ c, X.env.cells.lookup y.1 = some c)
    (h : ∀ (f c' : Addr) (H1 : Hp) (s' : Shared) (pm ct : Value), Inv X pins σ (upd H1 f (CloO f (zOb (X.env.qual ++ "<lambda>") ps b sc (cloFrom X.env.cells sc.names []) pm (.ref c') ct dV))) s' → TabUp P c' (X.env.qual ++ "<lambda>") H H1 → LamX.TabS H1 P (X.env.qual ++ "<lambda>") → H1 f = none → (∃ tb : Array Value, H1 P = some (.tbl tb) ∧ codeAmong pos tb.toList = some (.ref c')) → Q (.ref f) s') :
    wpAny (model X.prog X.w) X.A (makeTail "<lambda>" (X.env.qual ++ "<lambda>") ps (.expr b) sc X.env dV .none none pos pos.line) Q E s := by
  obtain ⟨tb, hP, ht, ha⟩ := hT
  have bP : s.heap.BuiltinsAt X.mg P := TB.bm.keeps I.bk
  have hP' : s.heap.get? P = some (tabO tb) := I.hok P _ hP
  have lay : ∀ {H1 : Hp} {s1 : Shared} (o : Obj) (tk : Nat), o.isFreed = false → Inv X pins σ H1 s1 → Inv X pins σ (upd H1 s1.heap.objs.size (CloO s1.heap.objs.size o)) { s1 with heap := s1.heap.push o, toks := tk } := fun {H1 s1} o tk hfr J => by
    have e : (s1.heap.push o).get? s1.heap.objs.size = some o := Heap.get?_push_size _ hfr
    exact J.laid (a := s1.heap.objs.size) (fun b u e => Heap.get?_push_of_some _ e) (Nat.le_refl _) ⟨e, ⟨_, e⟩, fun h1 h2 z st => st _ z⟩
  cases hc : codeAmong pos tb.toList with
  | none =>
    refine zt_miss (mg := X.mg) (c := c) (P := P) (tb := tb) (closure_ok hfree) I.ok.glob (I.mod.glob.keeps I.bk) hcode (TB.code.keeps I.bk) hP' ht hc TB.gP bP fun c' ct h' tk hx hge hlt hrec htb => ?_
    obtain ⟨c2, oc, vs, t, e2, hoc, hd, hv⟩ := hrec
    cases e2
    have hsz : s.heap.objs.size ≤ h'.objs.size := Nat.le_trans hge (Nat.le_of_lt hlt)
    have nC : H c' = none := I.hok.fresh hge
    have nCP : c' ≠ P := fun z => by rw [z, hP] at nC; cases nC
    have I1 := LamX.inv_table (t' := tk) (more := #[rawInt pos.line, rawInt pos.col, .ref c']) (h' := h') I hP (fun b o hb e => hx b o hb e) htb hge ⟨oc, vs, t, hoc, hd, hv⟩
    have eL : (tb ++ #[rawInt pos.line, rawInt pos.col, .ref c']).toList = tb.toList ++ [rawInt pos.line, rawInt pos.col, .ref c'] := by simp
    have atP : upd (upd H P (.tbl (tb ++ #[rawInt pos.line, rawInt pos.col, .ref c']))) c' (LamX.CodeO c' (X.env.qual ++ "<lambda>")) P = some (.tbl (tb ++ #[rawInt pos.line, rawInt pos.col, .ref c'])) := by rw [upd_ne (Ne.symm nCP), upd_same]
    refine h h'.objs.size c' _ _ _ _ (lay _ _ rfl I1) (.inr ⟨pos, tb, hP, nC, nCP, rfl⟩) ⟨_, atP, by rw [eL]; exact PySem.TriplesOk_snoc _ _ _ _ ht, fun p' cv hcv => ?_⟩ ?_ ⟨_, atP, by rw [eL]; exact PySem.codeAmong_snoc _ ht hc⟩
    · rw [eL] at hcv
      rcases LamX.among_app _ ht hcv with z | z
      · obtain ⟨c0, e1, e2⟩ := ha p' cv z
        refine ⟨c0, e1, ?_⟩
        rw [upd_ne (ne_of_none e2 nC), upd_ne fun z => by rw [z, hP] at e2; exact LamX.codeO_ne tb (Option.some.inj e2).symm]
        exact e2
      · exact ⟨c', z, upd_same⟩
    · have n1 : h'.objs.size ≠ c' := Nat.ne_of_gt hlt
      have n2 : h'.objs.size ≠ P := Nat.ne_of_gt (Nat.lt_of_lt_of_le (Heap.lt_size hP') hsz)
      rw [upd_ne n1, upd_ne n2]
      exact I.hok.fresh hsz
  | some cv =>
    obtain ⟨c', e, hco⟩ := ha pos cv hc
    subst e
    refine zt_hit (mg := X.mg) (c := c) (P := P) (tb := tb) (closure_ok hfree) I.ok.glob (I.mod.glob.keeps I.bk) hcode (TB.code.keeps I.bk) hP' ht hc bP fun ct h' tk hx hsz => ?_
    have I1 : Inv X pins σ H { s with heap := h', toks := tk } := I.kept hx
    exact h h'.objs.size c' H _ _ _ (lay _ _ rfl I1) (.inl rfl) ⟨tb, hP, ht, ha⟩ (I.hok.fresh hsz) ⟨tb, hP, hc⟩
end
end Z

set_option Elab.async false
set_option linter.all false
set_option maxRecDepth 100000
set_option maxHeartbeats 4000000
namespace Z
local macro_rules | `(tactic| walk_at "z at") => `(tactic| first | rfl | (simp only [atI, ixN, List.length_cons, List.length_nil, List.length_map]; rfl) | assumption)
local macro_rules | `(tactic| walk_at "z1") => `(tactic| first
  | with_reducible refine w_seq ?_ | with_reducible refine w_set ?_ | with_reducible refine w_ret ?_ | with_reducible refine w_if ?_ | with_reducible refine w_asg ?_ | with_reducible refine w_next ?_ | with_reducible refine w_setIx ?_ | with_reducible refine w_par ?_
  | ((with_reducible refine' w_var ?h ?_); (case h => exact rfl))
  | with_reducible refine w_c ?_ | with_reducible refine w_op ?_ | with_reducible refine w_un ?_ | with_reducible refine w_cons ?_ | with_reducible refine w_nil ?_ | with_reducible refine w_cb ?_
  | with_reducible refine w_call ?_ | with_reducible refine w_callK ?_ | with_reducible refine w_testB ?_ | with_reducible refine w_tru ?_ | with_reducible refine w_andD ?_ | with_reducible refine w_orD ?_ | with_reducible refine w_notD ?_
  | with_reducible refine w_andE ?_ | with_reducible refine w_orE ?_ | with_reducible refine w_notE ?_ | with_reducible refine w_ifE ?_ | with_reducible refine w_is ?_ | with_reducible refine w_isN ?_ | with_reducible refine w_notN ?_ | with_reducible refine w_tupOf ?_
  | with_reducible refine w_tup ?_ | with_reducible refine w_lst ?_ | with_reducible refine w_lstM ?_ | with_reducible refine w_sl ?_ | with_reducible refine w_part ?_ | with_reducible refine w_noPart ?_ | with_reducible refine w_repr ?_ | with_reducible refine w_seqI ?_
  | with_reducible refine w_rdI ?_ | with_reducible refine w_rdB ?_ | with_reducible refine w_rdAdd ?_ | with_reducible refine w_neg ?_ | with_reducible refine w_lenL ?_ | with_reducible refine w_lenT ?_ | with_reducible refine w_abs ?_ | with_reducible refine w_int ?_ | with_reducible refine w_intB ?_ | with_reducible refine w_gcd ?_
  | with_reducible refine w_gname ?_ | with_reducible refine w_gnil ?_ | with_reducible refine w_gcons ?_
  | with_reducible refine w_true ?_ | with_reducible refine w_false ?_
  | dsimp only [truthD, seqD, isNonD, permL, List.filterMap] | with_reducible refine w_drop ?_ | with_reducible refine w_retN ?_ | with_reducible refine w_nilP ?_ | with_reducible refine w_consP ?_ | with_reducible refine w_rng ?_ | with_reducible refine w_cont ?_ | with_reducible refine w_brk ?_)
local macro_rules | `(tactic| walk_at "z") => `(tactic| repeat walk_at "z1")
open PySem L2 PySem.Spec PyProof.Rows LamX NdefX
theorem startF_eq {N : List Str} {vs ws : List V} : startF N vs (ws.map some) = L2.start N (vs ++ ws) := by
  unfold startF L2.start
  rw [List.map_append, List.append_assoc, List.length_map, List.length_append, Nat.sub_sub]
/-- a lambda that stands at f is called without arguments: own, its parameters with defaults; fr, the names that it takes from around -/
theorem zlam_run {P : Program} {w : World} {K : PySem.W.Frag} {mg : Str → Option Value} {base : Heap} {k : Nat} {q : Str} {ps : Arguments} {b : Expr} {sc : Scope} {cl : List (Str × Addr)} {pm ct dV : Value} {N own fr : List Str} {f c' : Addr} {tb : TED}
    (S : NScope N own fr sc)
    (hb : ∀ (A : Around) (outer : List Env) (s : Shared) (H : Hp) (E : XK), Room k (A.deeper (envF ⟨"<lambda>", q, ps, [], sc, cl, c'⟩ f s.heap.objs.size)) → A.guards = some [] → PD (ncx (L2.CX P w) P w K mg base N ⟨"<lambda>", q, ps, [], sc, cl, c'⟩ f A outer s H E) b tb)
    {A : Around} {outer : List Env} {s : Shared} {H : Hp} {Q : VK} {E : XK} (hr : Room (k + 1) A) (hgd : A.guards = some []) (e0 : Env0 P w K mg base A outer s H) (of1 : s.heap.get? f = some (zOb q ps b sc cl pm (.ref c') ct dV)) (rc : s.heap.CodeRec (.ref c') q)
    {ous : List Value} {ovs cvs : List V} {ods cds : List D} {M : MH} {G : QD} {FE : ED} (hbd : BindsTo s (zFn q ps b sc cl pm (.ref c') ct dV) ⟨[], []⟩ (own.zip ous)) (ro : Vals ovs ous) (hol : ovs.length = own.length) (C : CellsAt cl fr (cvs.map some) s.heap H)
    (rro : Reps K H M ovs ods) (rrc : Reps K H M cvs cds) (mu : Mut K H M) (h : tb (fun C fs _ M => FE C fs M) (startD N (ods ++ cds)) M G) (kq : Fin K H M G Q)
    (ke : ∀ C fs d H' M', Good H M H' M' → Mut K H' M' → ExD K H' M' d fs → FE C fs M' → E (.ref C) d H') :
    codeAny (model P w) A (.call (.ref f) ⟨[], []⟩) (CR (L2.CX P w) outer P w H s Q E) s := by
  have old : ∀ b o, base.get? b = some o → s.heap.get? b = some o := fun b o e => (e0.bs b o e).1
  have lim := e0.mod.nolimit.keeps old
  refine PySem.W.kla_callFunE hr.depth of1 rfl S.co S.gen rfl rc (hbd _ _ _ _ ?_)
  refine wpAny_newFunctionEnv (fun y hy => S.nocell y hy) (fun y hy => ?_) (fun h₁ hns hsb => ⟨lim.fresh _ hsb, ?_⟩) S.kind
  · obtain ⟨n, v⟩ := y
    exact S.par n (List.of_mem_zip hy).1
  have kp : ∀ b o, s.heap.get? b = some o → h₁.get? b = some o := fun b o e => hsb.extBut b o (Nat.ne_of_lt (Heap.lt_size e)) (Heap.get?_push_of_some _ e)
  have I := inv_startN (CX := L2.CX P w) (P := P) (w := w) (K := K) (mg := mg) (base := base) (F := ⟨"<lambda>", q, ps, [], sc, cl, c'⟩) (f := f) (E := E) (tk := s.toks + (own.zip ous).length) S hr.hd e0 hol ro C hns kp
  rw [startF_eq] at I
  have at_ : At (ncx (L2.CX P w) P w K mg base N ⟨"<lambda>", q, ps, [], sc, cl, c'⟩ f A outer s H E) (ncx (L2.CX P w) P w K mg base N ⟨"<lambda>", q, ps, [], sc, cl, c'⟩ f A outer s H E).pn (ncx (L2.CX P w) P w K mg base N ⟨"<lambda>", q, ps, [], sc, cl, c'⟩ f A outer s H E).xe H M (fun C fs _ M => FE C fs M) := by
    refine ⟨Takes.imp (takes_of rfl rfl rfl rfl) fun c d σ H' ⟨C, ds', τ, M', e, ex, g, sl, mu', q⟩ => ?_, passes_of rfl⟩
    subst e
    exact ke C ds' d H' M' g mu' ex q
  have body := hb A outer s H E (hr.deeper _) hgd _ _ H M _ at_
  refine PySem.W.kla_codeExpr (wpAny_mono (body.run [] _ _ H Q I ⟨startD N (ods ++ cds), M, _, .refl, slots_start (rro.append rrc), mu, h, kq⟩) (fun v s' hq => ?_) fun e s' hq => hq)
  obtain ⟨w', H', J, rv, q⟩ := hq
  exact ⟨w', H', J.os, J.bare, J.base, J.hok, rv, q⟩
end Z

set_option Elab.async false
set_option linter.all false
set_option maxRecDepth 100000
set_option maxHeartbeats 4000000
namespace Z
local macro_rules | `(tactic| walk_at "z at") => `(tactic| first | rfl | (simp only [atI, ixN, List.length_cons, List.length_nil, List.length_map]; rfl) | assumption)
local macro_rules | `(tactic| walk_at "z1") => `(tactic| first
  | with_reducible refine w_seq ?_ | with_reducible refine w_set ?_ | with_reducible refine w_ret ?_ | with_reducible refine w_if ?_ | with_reducible refine w_asg ?_ | with_reducible refine w_next ?_ | with_reducible refine w_setIx ?_ | with_reducible refine w_par ?_
  | ((with_reducible refine' w_var ?h ?_); (case h => exact rfl))
  | with_reducible refine w_c ?_ | with_reducible refine w_op ?_ | with_reducible refine w_un ?_ | with_reducible refine w_cons ?_ | with_reducible refine w_nil ?_ | with_reducible refine w_cb ?_
  | with_reducible refine w_call ?_ | with_reducible refine w_callK ?_ | with_reducible refine w_testB ?_ | with_reducible refine w_tru ?_ | with_reducible refine w_andD ?_ | with_reducible refine w_orD ?_ | with_reducible refine w_notD ?_
  | with_reducible refine w_andE ?_ | with_reducible refine w_orE ?_ | with_reducible refine w_notE ?_ | with_reducible refine w_ifE ?_ | with_reducible refine w_is ?_ | with_reducible refine w_isN ?_ | with_reducible refine w_notN ?_ | with_reducible refine w_tupOf ?_
  | with_reducible refine w_tup ?_ | with_reducible refine w_lst ?_ | with_reducible refine w_lstM ?_ | with_reducible refine w_sl ?_ | with_reducible refine w_part ?_ | with_reducible refine w_noPart ?_ | with_reducible refine w_repr ?_ | with_reducible refine w_seqI ?_
  | with_reducible refine w_rdI ?_ | with_reducible refine w_rdB ?_ | with_reducible refine w_rdAdd ?_ | with_reducible refine w_neg ?_ | with_reducible refine w_lenL ?_ | with_reducible refine w_lenT ?_ | with_reducible refine w_abs ?_ | with_reducible refine w_int ?_ | with_reducible refine w_intB ?_ | with_reducible refine w_gcd ?_
  | with_reducible refine w_gname ?_ | with_reducible refine w_gnil ?_ | with_reducible refine w_gcons ?_
  | with_reducible refine w_true ?_ | with_reducible refine w_false ?_
  | dsimp only [truthD, seqD, isNonD, permL, List.filterMap] | with_reducible refine w_drop ?_ | with_reducible refine w_retN ?_ | with_reducible refine w_nilP ?_ | with_reducible refine w_consP ?_ | with_reducible refine w_rng ?_ | with_reducible refine w_cont ?_ | with_reducible refine w_brk ?_)
local macro_rules | `(tactic| walk_at "z") => `(tactic| repeat walk_at "z1")
open PySem L2 PySem.Spec PyProof.Rows LamX NdefX

/-! ### a lambda's making, seen from the trees -/
theorem tab_of {K : PySem.W.Frag} {H : Hp} {M : MH} {P : Addr} {q : Str} (mu : Mut K H M) (hP : M P = some (.tbl q)) : TabS H P q := by
  obtain ⟨ho, e, r⟩ := mu P _ hP
  cases r with
  | tbl t a => exact ⟨_, e, t, fun pos cv h => let ⟨c, h1, h2, _⟩ := a pos cv h; ⟨c, h1, h2⟩⟩
theorem made_tab {K : PySem.W.Frag} {H H1 : Hp} {M : MH} {P c' : Addr} {q : Str} (mu : Mut K H M) (hP : M P = some (.tbl q)) (tu : TabUp P c' q H H1) : Good H M H1 M ∧ Mut K H1 M := by
  rcases tu with rfl | ⟨pos, tb, e, nC, nCP, rfl⟩
  · exact ⟨.refl, mu⟩
  have mC : M c' = none := mut_none mu nC
  have g : Good H M (upd (upd H P (.tbl (tb ++ #[rawInt pos.line, rawInt pos.col, .ref c']))) c' (CodeO c' q)) M := fun a u h m => by
    have n1 : a ≠ P := fun z => by rw [z, hP] at m; cases m
    exact ⟨by rw [upd_ne (ne_of_none h nC), upd_ne n1]; exact h, m⟩
  refine ⟨g, fun a mo ea => ?_⟩
  obtain ⟨ho, h, r⟩ := mu a mo ea
  by_cases n1 : a = P
  · subst n1
    rw [hP] at ea
    cases ea
    cases r with
    | tbl t al =>
      rw [e] at h
      cases h
      have eL : (tb ++ #[rawInt pos.line, rawInt pos.col, .ref c']).toList = tb.toList ++ [rawInt pos.line, rawInt pos.col, .ref c'] := by simp
      refine ⟨_, by rw [upd_ne (Ne.symm nCP), upd_same], .tbl (by rw [eL]; exact PySem.TriplesOk_snoc _ _ _ _ t) fun p' cv hcv => ?_⟩
      rw [eL] at hcv
      rcases among_app _ t hcv with z | z
      · obtain ⟨c0, e1, e2, e3⟩ := al p' cv z
        exact ⟨c0, e1, (g _ _ e2 e3).1, e3⟩
      · exact ⟨c', z, upd_same, mC⟩
  · exact ⟨ho, by rw [upd_ne (ne_of_none h nC), upd_ne n1]; exact h, r.good g⟩
theorem cells_later {cl : List (Str × Addr)} {fr : List Str} {ws : List (Option V)} {fs : List Addr} {h h' : Heap} {H H' : Hp} (C : CellsAt cl fr ws h H) (u : Un fs [] H H' h h') : CellsAt cl fr ws h' H' := by
  have kp : ∀ y c, cl.lookup y = some c → ∀ v, h.IsCell c v → h'.IsCell c v := fun y c e v ⟨o, ho, hd⟩ => by
    obtain ⟨sl, q⟩ := u.any ho (C.all y c e).1 (by simp)
    exact ⟨_, q, hd⟩
  refine ⟨C.len, fun y c e => ?_, C.inj, fun i y e => ?_⟩
  · obtain ⟨n, v, z⟩ := C.all y c e
    refine ⟨?_, v, kp y c e v z⟩
    obtain ⟨o, ho, _⟩ := z
    exact u.free c o ho n (by simp)
  · obtain ⟨c, hc, hv⟩ := C.has i y e
    exact ⟨c, hc, fun v ev => let ⟨u', r, z⟩ := hv v ev; ⟨u', r, kp y c hc _ z⟩⟩
/-- where a lambda's defaults stand: none, or an int in a tuple that is told -/
inductive Dfl (H : Hp) : Option Int → Value → Prop
  | no : Dfl H none .none
  | int {T i} : H T = some (.tup [.int i]) → Dfl H (some i) (.ref T)
theorem Dfl.later {H H' : Hp} {o : Option Int} {dV : Value} (d : Dfl H o dV) (k : ∀ b xs, H b = some (.tup xs) → H' b = some (.tup xs)) : Dfl H' o dV := by
  cases d with
  | no => exact .no
  | int h => exact .int (k _ _ h)
section
variable {X : Cx} {pins : List (Addr × Obj)} {σ : L2.St} {H : Hp} {s : Shared} {ps : Arguments} {b : Expr} {sc : Scope} {c P : Addr} {pos : Pos} {E : Value → Shared → Prop} {Q : Value → Shared → Prop}
/-- how the lambda's defaults are written -/
inductive DflE (ps : Arguments) (env : Env) : Option Int → Prop
  | no : defaultsOf ps env = ([], []) → DflE ps env none
  | int {i j p} : defaultsOf ps env = ([eval (.Constant (.int i) j p) env], []) → DflE ps env (some i)
theorem zlam_ev {o : Option Int} (hd : DflE ps X.env o) (I : Inv X pins σ H s) (TB : TabB X.base X.mg c P) (hcode : X.env.code = .ref c) (hT : TabS H P (X.env.qual ++ "<lambda>")) (hfree : ∀ y ∈ sc.names, y.2 = .free → ∃ c, X.env.cells.lookup y.1 = some c)
    (h : ∀ (f c' : Addr) (Hd H1 : Hp) (s' : Shared) (pm ct dV : Value), Inv X pins σ (upd H1 f (CloO f (zOb (X.env.qual ++ "<lambda>") ps b sc (cloFrom X.env.cells sc.names []) pm (.ref c') ct dV))) s' → (Hd = H ∨ ∃ T i, H T = none ∧ Hd = upd H T (.tup [.int i])) → Dfl Hd o dV → TabUp P c' (X.env.qual ++ "<lambda>") Hd H1 → H1 f = none →
      (∃ tb : Array Value, H1 P = some (.tbl tb) ∧ codeAmong pos tb.toList = some (.ref c')) → Q (.ref f) s') : wpAny (model X.prog X.w) X.A (eval (.Lambda ps b sc pos) X.env) Q E s := by
  cases hd with
  | no e =>
    refine PySem.W.kla_eval e ?_
    rw [makeFunction_eq]
    simp only [List.zip_nil_right, List.filterMap_nil, List.isEmpty_nil, if_true, pure_bind]
    exact zlam_mk I TB hcode hT hfree fun f c' H1 s' pm ct I1 tu ts hn htb => h f c' H H1 s' pm ct .none I1 (.inl rfl) .no tu hn htb
  | @int i j p e =>
    rw [arm_eval_Lambda, e]
    show wpAny _ _ (do let dv ← evalAll [eval (.Constant (.int i) j p) X.env]; let kdv ← holding dv (evalAllOpt []); makeFunction "<lambda>" (X.env.qual ++ "<lambda>") ps (.expr b) sc X.env dv kdv [] pos pos.line) Q E s
    refine wpAny_bind (wpAny_bind (wpAny_Constant_int (wpAny_bind (wpAny_holding (wpAny_pure (wpAny_pure ?_))))))
    refine wpAny_bind (wpAny_holding (wpAny_pure ?_))
    rw [makeFunction_eq]
    simp only [List.zip_nil_right, List.filterMap_nil, List.isEmpty_nil, List.isEmpty_cons, Bool.false_eq_true, if_false, if_true, pure_bind]
    refine wpAny_bind (wpAny_newTextTuple ?_)
    have nT := I.hok.fresh (Nat.le_refl s.heap.objs.size)
    have I2 : Inv X pins σ (upd H s.heap.objs.size (.tup [.int i])) { s with heap := s.heap.push { cls := .type "tuple", data := .seq #[.int i s.toks] }, toks := s.toks + 1 } :=
      I.laid (fun b u e => Heap.get?_push_of_some _ e) (Nat.le_refl _) ⟨by show 1 ≤ sizeLine; decide, [.int i s.toks], .cons ⟨_, rfl⟩ .nil, ⟨_, Heap.get?_push_size _ rfl, rfl, _, rfl⟩⟩
    have nP : P ≠ s.heap.objs.size := fun z => by obtain ⟨tb, hP, _⟩ := hT; rw [z, nT] at hP; cases hP
    have hT2 : TabS (upd H s.heap.objs.size (.tup [.int i])) P (X.env.qual ++ "<lambda>") := hT.ext fun b o e => by rw [upd_ne (ne_of_none e nT)]; exact e
    exact zlam_mk I2 TB hcode hT2 hfree fun f c' H1 s' pm ct I1 tu ts hn htb => h f c' _ H1 s' pm ct _ I1 (.inr ⟨_, i, nT, rfl⟩) (.int upd_same) tu hn htb
end
end Z

set_option Elab.async false
set_option linter.all false
set_option maxRecDepth 100000
set_option maxHeartbeats 4000000
namespace Z
local macro_rules | `(tactic| walk_at "z at") => `(tactic| first | rfl | (simp only [atI, ixN, List.length_cons, List.length_nil, List.length_map]; rfl) | assumption)
local macro_rules | `(tactic| walk_at "z1") => `(tactic| first
  | with_reducible refine w_seq ?_ | with_reducible refine w_set ?_ | with_reducible refine w_ret ?_ | with_reducible refine w_if ?_ | with_reducible refine w_asg ?_ | with_reducible refine w_next ?_ | with_reducible refine w_setIx ?_ | with_reducible refine w_par ?_
  | ((with_reducible refine' w_var ?h ?_); (case h => exact rfl))
  | with_reducible refine w_c ?_ | with_reducible refine w_op ?_ | with_reducible refine w_un ?_ | with_reducible refine w_cons ?_ | with_reducible refine w_nil ?_ | with_reducible refine w_cb ?_
  | with_reducible refine w_call ?_ | with_reducible refine w_callK ?_ | with_reducible refine w_testB ?_ | with_reducible refine w_tru ?_ | with_reducible refine w_andD ?_ | with_reducible refine w_orD ?_ | with_reducible refine w_notD ?_
  | with_reducible refine w_andE ?_ | with_reducible refine w_orE ?_ | with_reducible refine w_notE ?_ | with_reducible refine w_ifE ?_ | with_reducible refine w_is ?_ | with_reducible refine w_isN ?_ | with_reducible refine w_notN ?_ | with_reducible refine w_tupOf ?_
  | with_reducible refine w_tup ?_ | with_reducible refine w_lst ?_ | with_reducible refine w_lstM ?_ | with_reducible refine w_sl ?_ | with_reducible refine w_part ?_ | with_reducible refine w_noPart ?_ | with_reducible refine w_repr ?_ | with_reducible refine w_seqI ?_
  | with_reducible refine w_rdI ?_ | with_reducible refine w_rdB ?_ | with_reducible refine w_rdAdd ?_ | with_reducible refine w_neg ?_ | with_reducible refine w_lenL ?_ | with_reducible refine w_lenT ?_ | with_reducible refine w_abs ?_ | with_reducible refine w_int ?_ | with_reducible refine w_intB ?_ | with_reducible refine w_gcd ?_
  | with_reducible refine w_gname ?_ | with_reducible refine w_gnil ?_ | with_reducible refine w_gcons ?_
  | with_reducible refine w_true ?_ | with_reducible refine w_false ?_
  | dsimp only [truthD, seqD, isNonD, permL, List.filterMap] | with_reducible refine w_drop ?_ | with_reducible refine w_retN ?_ | with_reducible refine w_nilP ?_ | with_reducible refine w_consP ?_ | with_reducible refine w_rng ?_ | with_reducible refine w_cont ?_ | with_reducible refine w_brk ?_)
local macro_rules | `(tactic| walk_at "z") => `(tactic| repeat walk_at "z1")
open PySem L2 PySem.Spec PyProof.Rows LamX NdefX

/-! ### what a lambda's own parameters are bound to -/
inductive OwnB (q : Str) (ps : Arguments) (b : Expr) (sc : Scope) : Option Int → List Str → Prop
  | no : (∀ (cl : List (Str × Addr)) (pm cv ct : Value), bindArgs (zFn q ps b sc cl pm cv ct .none) ⟨[], []⟩ = pure []) → OwnB q ps b sc none []
  | int {i : Int} {x : Str} : (∀ (cl : List (Str × Addr)) (pm cv ct : Value) (T : Addr) (t : Tok), ∃ k, bindArgs (zFn q ps b sc cl pm cv ct (.ref T)) ⟨[], []⟩ = seqItems? (.ref T) >>= k ∧ k (some #[.int i t]) = pure [(x, .int i t)]) → OwnB q ps b sc (some i) [x]
def ownD : Option Int → List D | none => [] | some i => [.int i]
def ownV : Option Int → List V | none => [] | some i => [.int i]
theorem own_reps {K : PySem.W.Frag} {H : Hp} {M : MH} : ∀ o : Option Int, Reps K H M (ownV o) (ownD o)
  | none => .nil
  | some i => .cons (.int i) .nil
theorem own_bind {P : Program} {w : World} {H : Hp} {s : Shared} {q : Str} {ps : Arguments} {b : Expr} {sc : Scope} {o : Option Int} {own : List Str} {dV : Value} (B : OwnB q ps b sc o own) (d : Dfl H o dV) (ok : HOk P w H s.heap) (cl : List (Str × Addr)) (pm cv ct : Value) :
    ∃ ous : List Value, Vals (ownV o) ous ∧ (ownV o).length = own.length ∧ BindsTo s (zFn q ps b sc cl pm cv ct dV) ⟨[], []⟩ (own.zip ous) := by
  cases B with
  | no h => cases d; exact ⟨[], .nil, rfl, .of_eq (h cl pm cv ct)⟩
  | @int i x h =>
    cases d with
    | @int T _ e =>
      obtain ⟨_, its, r, ob, ho, hc, n, hd⟩ := (show ObjOk P w H s.heap T (.tup [.int i]) from ok T _ e)
      cases r with
      | cons r rs =>
        cases rs
        obtain ⟨t, rfl⟩ := r
        obtain ⟨k, e1, e2⟩ := h cl pm cv ct T t
        refine ⟨[.int i t], .cons ⟨t, rfl⟩ .nil, rfl, fun M A E Q hq => ?_⟩
        rw [e1]
        refine wpAny_bind (wpAny_seqItems ho hd ?_)
        rw [e2]
        exact wpAny_pure hq
/-! ### a def that gets a function without parameters -/
/-- f(), f the function that stands in the first slot -/
def tActD (f : Addr) (tl : ED → MH → QD → Prop) : TED := fun W τ M Q => getN τ 0 = some (.ref f) ∧ tl (fun C fs M' => W C fs τ M') M Q
theorem pd_actZ {P : Program} {w : World} {K : PySem.W.Frag} {mg : Str → Option Value} {base : Heap} {k : Nat} {q : Str} {ps : Arguments} {b : Expr} {sc : Scope} {cl : List (Str × Addr)} {pm ct dV : Value} {N own fr Ng : List Str} {f c' g Pt : Addr} {tb : TED} {qg a : Str} {sg : Scope} {cdg : Value} {o : Option Int} {pos p1 p2 : Pos}
    {A : Around} {outer : List Env} {s : Shared} {H : Hp} {E : XK} {cvs : List V} {cds : List D}
    (S : NScope N own fr sc) (B : OwnB q ps b sc o own)
    (hb : ∀ (A : Around) (outer : List Env) (s : Shared) (H : Hp) (E : XK), Room k (A.deeper (envF ⟨"<lambda>", q, ps, [], sc, cl, c'⟩ f s.heap.objs.size)) → A.guards = some [] → PD (ncx (L2.CX P w) P w K mg base N ⟨"<lambda>", q, ps, [], sc, cl, c'⟩ f A outer s H E) b tb)
    (hr : Room (k + 1) (A.deeper (envOfC qg sg s.heap.objs.size g cdg))) (hgd : A.guards = some []) (C : CellsAt cl fr (cvs.map some) s.heap H) (d : Dfl H o dV) (ht : ∃ t : Array Value, H Pt = some (.tbl t) ∧ codeAmong pos t.toList = some (.ref c'))
    (hN : Ng[0]? = some a) (hv : Vis sg a) (hdb : (a == ("__debug__" : Str)) = false) (hcd : (a == ("__classdict__" : Str)) = false) :
    PD (cxOf (L2.CX P w) P w K mg base Ng qg sg g cdg A outer s H E) (.Call (.Name a p1) [] [] p2)
      (tActD f fun FE M' Q' => M' f = some (.clo f (zOb q ps b sc cl pm (.ref c') ct dV) cvs cds) ∧ M' Pt = some (.tbl q) ∧ tb (fun C fs _ M => FE C fs M) (startD N (ownD o ++ cds)) M' Q') := fun pn xe H0 M0 W at_ => by
  refine ⟨fun pins sZ σ HZ Q I ⟨τ, M, F, g0, sl, mu, ⟨hs, hm, hp, h⟩, kq⟩ => ?_⟩
  have hσ : σ[0]? = some (some (.ref f)) := by
    have e : τ[0]? = some (some (.ref f)) := getN_some hs
    obtain ⟨v, e1, r⟩ := sl.2 0 _ e
    cases r
    exact e1
  refine wpAny_Call_Name_kw (thn ((pe_var (pos := p1) (i := 0) hN hv hdb hcd).run pins sZ σ HZ (fun v H1 => v = .ref f ∧ H1 = HZ) I ⟨.ref f, hσ, rfl, rfl⟩) fun u s1 ⟨v, H1, I1, r1, ev, eH⟩ => ?_)
  subst ev eH
  obtain rfl : u = Value.ref f := r1
  obtain ⟨ho, e1, rm⟩ := mu f _ hm
  cases rm with
  | clo rc =>
    have of1 : s1.heap.get? f = some (zOb q ps b sc cl pm (.ref c') ct dV) := (show ObjOk _ _ _ _ f (CloO f _) from I1.hok f _ e1).1
    refine PySem.W.callWith_F0 ⟨_, _, _, _, of1⟩ ?_
    have un : Un (frs outer) [] H H1 s.heap s1.heap := I1.base
    obtain ⟨t, ht1, ht2⟩ := ht
    obtain ⟨more, ht3⟩ := un.tbls _ _ ht1
    obtain ⟨hoT, e2, rT⟩ := mu Pt _ hp
    cases rT with
    | tbl tt al =>
      rw [ht3] at e2
      cases e2
      obtain ⟨c2, z1, z2, _⟩ := al pos (.ref c') (by rw [Array.toList_append]; exact among_more _ _ ht2)
      cases z1
      have rcd : s1.heap.CodeRec (.ref c') q := codeO_at I1.hok z2
      obtain ⟨ous, v1, v2, v3⟩ := own_bind (s := s1) B (d.later un.tups) I1.hok cl pm (.ref c') ct
      have rr := zlam_run (A := A.deeper (envOfC qg sg s.heap.objs.size g cdg)) (outer := envOfC qg sg s.heap.objs.size g cdg :: outer) (s := s1) (H := H1) (Q := Q) (E := WE (liftW K H0 M0 W) σ) S hb hr hgd I1.env0 of1 rcd v3 v1 v2 (cells_later C un) (own_reps o) rc mu h kq
        (fun C fs d H' M' g' mu' ex we => ⟨C, fs, τ, M', rfl, ex, g0.trans g', sl.good g', mu', we⟩)
      have hx := passAt at_.tk σ
      refine wpAny_call (codeAny_mono rr fun r s' hq => ?_)
      cases r with
      | error e => exact hx pins H1 s1 e s' I1 hq
      | ok fl =>
        cases fl with
        | ret u => exact I1.after hq
        | next => exact hq.elim
        | brk => exact hq.elim
        | cont => exact hq.elim
end Z

set_option Elab.async false
set_option linter.all false
set_option maxRecDepth 100000
set_option maxHeartbeats 4000000
namespace Z
local macro_rules | `(tactic| walk_at "z at") => `(tactic| first | rfl | (simp only [atI, ixN, List.length_cons, List.length_nil, List.length_map]; rfl) | assumption)
local macro_rules | `(tactic| walk_at "z1") => `(tactic| first
  | with_reducible refine w_seq ?_ | with_reducible refine w_set ?_ | with_reducible refine w_ret ?_ | with_reducible refine w_if ?_ | with_reducible refine w_asg ?_ | with_reducible refine w_next ?_ | with_reducible refine w_setIx ?_ | with_reducible refine w_par ?_
  | ((with_reducible refine' w_var ?h ?_); (case h => exact rfl))
  | with_reducible refine w_c ?_ | with_reducible refine w_op ?_ | with_reducible refine w_un ?_ | with_reducible refine w_cons ?_ | with_reducible refine w_nil ?_ | with_reducible refine w_cb ?_
  | with_reducible refine w_call ?_ | with_reducible refine w_callK ?_ | with_reducible refine w_testB ?_ | with_reducible refine w_tru ?_ | with_reducible refine w_andD ?_ | with_reducible refine w_orD ?_ | with_reducible refine w_notD ?_
  | with_reducible refine w_andE ?_ | with_reducible refine w_orE ?_ | with_reducible refine w_notE ?_ | with_reducible refine w_ifE ?_ | with_reducible refine w_is ?_ | with_reducible refine w_isN ?_ | with_reducible refine w_notN ?_ | with_reducible refine w_tupOf ?_
  | with_reducible refine w_tup ?_ | with_reducible refine w_lst ?_ | with_reducible refine w_lstM ?_ | with_reducible refine w_sl ?_ | with_reducible refine w_part ?_ | with_reducible refine w_noPart ?_ | with_reducible refine w_repr ?_ | with_reducible refine w_seqI ?_
  | with_reducible refine w_rdI ?_ | with_reducible refine w_rdB ?_ | with_reducible refine w_rdAdd ?_ | with_reducible refine w_neg ?_ | with_reducible refine w_lenL ?_ | with_reducible refine w_lenT ?_ | with_reducible refine w_abs ?_ | with_reducible refine w_int ?_ | with_reducible refine w_intB ?_ | with_reducible refine w_gcd ?_
  | with_reducible refine w_gname ?_ | with_reducible refine w_gnil ?_ | with_reducible refine w_gcons ?_
  | with_reducible refine w_true ?_ | with_reducible refine w_false ?_
  | dsimp only [truthD, seqD, isNonD, permL, List.filterMap] | with_reducible refine w_drop ?_ | with_reducible refine w_retN ?_ | with_reducible refine w_nilP ?_ | with_reducible refine w_consP ?_ | with_reducible refine w_rng ?_ | with_reducible refine w_cont ?_ | with_reducible refine w_brk ?_)
local macro_rules | `(tactic| walk_at "z") => `(tactic| repeat walk_at "z1")
open PySem L2 PySem.Spec PyProof.Rows LamX NdefX

abbrev SpG := (ED → MH → QD → Prop) → MH → QD → ED → Prop
/-- a def that gets a function without parameters, and what it makes of what that does -/
structure FnG (P : Program) (w : World) (K : PySem.W.Frag) (mg : Str → Option Value) (base : Heap) (k : Nat) (g : Addr) (fd : FuncData) (x a : Str) (Ng : List Str) (sg : Scope) (sp : SpG) : Prop where
  run : ∀ {A : Around} {outer : List Env} {s : Shared} {H : Hp} {f : Addr} {Q : VK} {E : XK} {tl : ED → MH → QD → Prop} {M : MH} {G : QD} {FE : ED}, Room k A → A.guards = some [] → Env0 P w K mg base A outer s H → BindsTo s fd ⟨[.ref f], []⟩ ([a].zip [.ref f]) →
    (∀ cdv E' p1 p2, PD (cxOf (L2.CX P w) P w K mg base Ng x sg g cdv A outer s H E') (.Call (.Name a p1) [] [] p2) (tActD f tl)) → Mut K H M → sp tl M G FE → Fin K H M G Q →
    (∀ C fs d H' M', Good H M H' M' → Mut K H' M' → ExD K H' M' d fs → FE C fs M' → E (.ref C) d H') → codeAny (model P w) A (.call (.ref g) ⟨[.ref f], []⟩) (CR (L2.CX P w) outer P w H s Q E) s
section
variable {P : Program} {w : World} {K : PySem.W.Frag} {mg : Str → Option Value} {base : Heap}
theorem fnG {x a : Str} {st : Stmt} {g : Addr} {fd : FuncData} {N : List Str} {k : Nat} {sp : SpG} {t : Addr → (ED → MH → QD → Prop) → TSD} (F : Fun K x x st g fd) (S : FnScope N [a] (defScope st))
    (hb : ∀ (cdv : Value) (A : Around) (outer : List Env) (s : Shared) (H : Hp) (E : XK) (f : Addr) (tl : ED → MH → QD → Prop), Room k (A.deeper (envOfC x (defScope st) s.heap.objs.size g cdv)) → A.guards = some [] →
      (∀ p1 p2, PD (cxOf (L2.CX P w) P w K mg base N x (defScope st) g cdv A outer s H E) (.Call (.Name a p1) [] [] p2) (tActD f tl)) → PDB (cxOf (L2.CX P w) P w K mg base N x (defScope st) g cdv A outer s H E) (defBody st) (t f tl))
    (wp : ∀ f tl M F FE, sp tl M F FE → t f tl (fun C fs _ M => FE C fs M) { nx := fun _ M => F .non M, rt := F } (startD N [.ref f]) M) : FnG P w K mg base (k + 1) g fd x a N (defScope st) sp := by
  obtain ⟨oc, od, kV, doc, pm, an, cdv, ct, osl, rfl, lk, hcd⟩ := F.ex
  refine ⟨fun {A outer s H f Q E tl M G FE} hr hgd e0 hbd act mu h kq ke => ?_⟩
  have old : ∀ b o, base.get? b = some o → s.heap.get? b = some o := fun b o e => (e0.bs b o e).1
  have KX := e0.mod.kin.keeps old
  have lim := e0.mod.nolimit.keeps old
  refine codeAny_call_function hr.depth (KX _ _ lk) rfl S.co S.gen rfl (PySem.W.codeRec_of KX hcd) (hbd _ _ _ _ ?_)
  refine wpAny_newFunctionEnv_cells S.kind (fun y hy => ?_) fun env he s1 y => ?_
  · obtain ⟨n, v⟩ := y
    exact (S.par n (List.of_mem_zip hy).1).imp id fun q => ⟨q, PySem.W.cellsFrom_some _ _ _ (.inl q)⟩
  subst he
  refine ⟨lim.keeps y.toInCall.keep, codeAny_func ?_⟩
  have I := inv_start (CX := L2.CX P w) (w := w) (cd := cdv) (E := E) (vs := [.ref f]) (us := [.ref f]) S hr.hd e0 rfl (.cons rfl .nil) y
  have at_ : At (cxOf (L2.CX P w) P w K mg base N x (defScope st) g cdv A outer s H E) (cxOf (L2.CX P w) P w K mg base N x (defScope st) g cdv A outer s H E).pn (cxOf (L2.CX P w) P w K mg base N x (defScope st) g cdv A outer s H E).xe H M (fun C fs _ M => FE C fs M) := by
    refine ⟨Takes.imp (takes_of rfl rfl rfl rfl) fun c d σ H' ⟨C, ds', τ, M', e, ex, gg, sl, mu', q⟩ => ?_, passes_of rfl⟩
    subst e
    exact ke C ds' d H' M' gg mu' ex q
  have body := hb cdv A outer s H E f tl (hr.deeper _) hgd (act cdv E) _ _ H M _ at_
  refine wpAny_mono (body.run [] s1 _ H { nx := fun _ H' => Q .non H', rt := Q } I ⟨startD N [.ref f], M, _, .refl, slots_start (.cons (.ref f) .nil), mu, wp f tl M G FE h, ?_, ?_, ?_, ?_⟩) (fun fl s' hs => ?_) fun e s' hs => hs
  · rintro σ' H' ⟨τ, M', gg, sl, mu', q⟩
    exact kq _ _ _ _ gg mu' .non q
  · rintro v H' ⟨d, M', gg, mu', r', q⟩
    exact kq _ _ _ _ gg mu' r' q
  · rintro σ' H' ⟨τ, M', gg, sl, mu', q⟩
    exact q.elim
  · rintro σ' H' ⟨τ, M', gg, sl, mu', q⟩
    exact q.elim
  · have fin : ∀ {σ' : L2.St} {H' : Hp} {v : V} {u : Value}, Inv (cxOf (L2.CX P w) P w K mg base N x (defScope st) g cdv A outer s H E) [] σ' H' s' → RelV v u → Q v H' → CE outer P w H s Q u s' :=
      fun {σ' H' v u} J rv q => ⟨v, H', J.os, J.bare, J.base, J.hok, rv, q⟩
    cases fl with
    | ret u => obtain ⟨v, σ', H', J, rv, q⟩ := hs; exact fin J rv q
    | next => obtain ⟨σ', H', J, q⟩ := hs; exact fin (v := V.non) (u := Value.none) J rfl q
    | brk => obtain ⟨_, _, _, q⟩ := hs; exact q.elim
    | cont => obtain ⟨_, _, _, q⟩ := hs; exact q.elim
end
/-- what the slots of these places hold -/
def takeN (τ : EnvD) : List Nat → Option (List D)
  | [] => some []
  | j :: js => match getN τ j, takeN τ js with | some d, some ds => some (d :: ds) | _, _ => none
theorem takeN_slots {K : PySem.W.Frag} {H : Hp} {M : MH} {σ : L2.St} {τ : EnvD} (sl : Slots K H M σ τ) : ∀ {js : List Nat} {ds : List D}, takeN τ js = some ds → ∃ vs, js.map (slotAt σ) = vs.map some ∧ Reps K H M vs ds
  | [], _, e => by cases e; exact ⟨[], rfl, .nil⟩
  | j :: js, ds, e => by
    simp only [takeN] at e
    cases e1 : getN τ j with
    | none => rw [e1] at e; cases e
    | some d =>
      cases e2 : takeN τ js with
      | none => rw [e1, e2] at e; cases e
      | some r =>
        rw [e1, e2] at e
        cases e
        obtain ⟨vs, h1, h2⟩ := takeN_slots sl e2
        obtain ⟨v, h3, h4⟩ := sl.2 j d (getN_some e1)
        exact ⟨v :: vs, by rw [List.map_cons, List.map_cons, h1, slotAt_of h3], .cons h4 h2⟩
/-- x(lambda: b), x a def that gets a function -/
def tLamD (Pt : Addr) (q : Str) (js : List Nat) (N : List Str) (o : Option Int) (sp : SpG) (tb : TED) : TED := fun W τ M Q => M Pt = some (.tbl q) ∧ ∃ cds, takeN τ js = some cds ∧ ∀ f mo, M f = none →
  sp (fun FE M' Q' => M' f = some mo ∧ M' Pt = some (.tbl q) ∧ tb (fun C fs _ M => FE C fs M) (startD N (ownD o ++ cds)) M' Q') (mput M f mo) (fun d M' => Q d (mdel M' f)) fun C fs M' => W C fs τ (mdel M' f)
theorem exd_good {K : PySem.W.Frag} {H H' : Hp} {M M' : MH} {d : Option Addr} {fs : List (Str × D)} (h : ExD K H M d fs) (g : Good H M H' M') : ExD K H' M' d fs := by
  rcases h with ⟨dx, ws, e, m, q, r⟩ | h
  · exact .inl ⟨dx, ws, e, (g _ _ q m).2, (g _ _ q m).1, r.good g⟩
  · exact .inr h
section
variable {X : Cx}
theorem pd_lamcall {x a : Str} {g c Pt : Addr} {fd : FuncData} {k k' : Nat} {Ng N own fr : List Str} {sg sc : Scope} {sp : SpG} {ps : Arguments} {b : Expr} {js : List Nat} {o : Option Int} {tb : TED} {p lpos pos : Pos}
    (F : FnG X.prog X.w X.K X.mg X.base k g fd x a Ng sg sp) (hr : Room k X.A) (hr2 : Room (k' + 2) X.A) (hgd : X.A.guards = some []) (hm : X.mg x = some (.ref g)) (hk : PySem.W.keepIn X.K (.ref g) = true) (hb : Binds X.K fd [a] []) (hNg : Ng[0]? = some a) (hva : Vis sg a)
    (TB : TabB X.base X.mg c Pt) (hcode : X.env.code = .ref c) (hd : DflE ps X.env o) (S : NScope N own fr sc) (B : OwnB (X.env.qual ++ "<lambda>") ps b sc o own)
    (hfree : ∀ y ∈ sc.names, y.2 = .free → X.env.scope.names.lookup y.1 = some .cell ∨ X.env.scope.names.lookup y.1 = some .free) (hfr : ∀ y ∈ fr, (y, NameKind.free) ∈ sc.names) (hjs : js.map (fun j => X.N[j]?) = fr.map some)
    (hbody : ∀ (f c' : Addr) (A : Around) (outer : List Env) (s : Shared) (H : Hp) (E : XK), Room k' (A.deeper (envF ⟨"<lambda>", X.env.qual ++ "<lambda>", ps, [], sc, cloFrom X.env.cells sc.names [], c'⟩ f s.heap.objs.size)) → A.guards = some [] →
      PD (ncx (L2.CX X.prog X.w) X.prog X.w X.K X.mg X.base N ⟨"<lambda>", X.env.qual ++ "<lambda>", ps, [], sc, cloFrom X.env.cells sc.names [], c'⟩ f A outer s H E) b tb)
    (hg : Gl X x := by rfl) (hdb : (x == ("__debug__" : Str)) = false := by decide) (hda : (a == ("__debug__" : Str)) = false := by decide) (hca : (a == ("__classdict__" : Str)) = false := by decide) :
    PD X (.Call (.Name x p) [.Lambda ps b sc lpos] [] pos) (tLamD Pt (X.env.qual ++ "<lambda>") js N o sp tb) := fun pn xe H0 M0 W at_ => by
  refine ⟨fun pins s σ H Q I ⟨τ, M, G, g0, sl, mu, ⟨hP, cds, hcds, h⟩, kq⟩ => ?_⟩
  refine wpAny_Call_Name_kw (ld_glob I hg hm ?_ hdb)
  refine PySem.W.callWith_K (h₀ := X.base) I.ok.mod.kin hk ?_ (by rfl) (by rfl)
  show wpAny _ _ (spliced ((false, eval (.Lambda ps b sc lpos) X.env) :: backTo pos (starEach [] X.env))) _ _ s
  have hf : ∀ y ∈ sc.names, y.2 = .free → ∃ c, X.env.cells.lookup y.1 = some c := fun y hy e => (hfree y hy e).elim (fun z => I.ok.has _ (.inl z)) fun z => I.ok.has _ (.inr z)
  refine Calls.spliced_cons (zlam_ev (X := X.tr pn xe) hd I TB hcode (tab_of mu hP) hf fun f c' Hd H1 s' pm ct dV I1 hHd dfl tu nf htb => ?_)
  refine Calls.spliced_nil ⟨I1.kIn, ?_⟩
  have gm : Good H M Hd M ∧ Mut X.K Hd M := by
    rcases hHd with rfl | ⟨T, i, nT, rfl⟩
    · exact ⟨.refl, mu⟩
    · exact ⟨good_new nT, mut_new mu nT⟩
  have gm1 := made_tab gm.2 hP tu
  have gH1 := gm.1.trans gm1.1
  have mf : M f = none := mut_none gm1.2 nf
  obtain ⟨cvs, hcv, rcv⟩ := takeN_slots (sl.good gH1) hcds
  have dfl1 : Dfl H1 o dV := dfl.later fun b xs e => by
    rcases tu with rfl | ⟨_, tb, e1, nC, _, rfl⟩
    · exact e
    · rw [upd_ne (ne_of_none e nC), upd_ne fun z => by rw [z, e1] at e; cases e]; exact e
  have gF : Good H1 M (upd H1 f (CloO f (zOb (X.env.qual ++ "<lambda>") ps b sc (cloFrom X.env.cells sc.names []) pm (.ref c') ct dV))) (mput M f (.clo f (zOb (X.env.qual ++ "<lambda>") ps b sc (cloFrom X.env.cells sc.names []) pm (.ref c') ct dV) cvs cds)) := good_put nf
  have muF := mut_put (o := CloO f (zOb (X.env.qual ++ "<lambda>") ps b sc (cloFrom X.env.cells sc.names []) pm (.ref c') ct dV)) gm1.2 nf (.clo rcv : RepM X.K H1 M _ (.clo f (zOb (X.env.qual ++ "<lambda>") ps b sc (cloFrom X.env.cells sc.names []) pm (.ref c') ct dV) cvs cds))
  have C := cells_of I1 (Caps.made (X := X.tr pn xe) I1.ok hfree hfr hjs)
  rw [hcv] at C
  have htb2 : ∃ t : Array Value, upd H1 f (CloO f (zOb (X.env.qual ++ "<lambda>") ps b sc (cloFrom X.env.cells sc.names []) pm (.ref c') ct dV)) Pt = some (.tbl t) ∧ codeAmong lpos t.toList = some (.ref c') := by
    obtain ⟨t, e1, e2⟩ := htb
    exact ⟨t, by rw [upd_ne (ne_of_none e1 nf)]; exact e1, e2⟩
  have hbd := hb s' [.ref f] I1.kIn rfl
  rw [List.append_nil] at hbd
  have rc := F.run (A := X.A) (outer := X.stack) (s := s') (H := upd H1 f (CloO f (zOb (X.env.qual ++ "<lambda>") ps b sc (cloFrom X.env.cells sc.names []) pm (.ref c') ct dV))) (f := f) (Q := Q) (E := WE (liftW X.K H0 M0 W) σ) hr hgd I1.env0 hbd
    (fun cdv E' p1 p2 => pd_actZ (E := E') S B (fun A outer s H E => hbody f c' A outer s H E) (hr2.deeper _) hgd C (dfl1.later fun b xs e => by rw [upd_ne (ne_of_none e nf)]; exact e) htb2 hNg hva hda hca) muF (h f _ mf)
    (fun v H' d M' g' mu' r' q => kq v H' d _ ((gH1.trans gF).trans (g'.trans good_del)) (mut_del mu') (r'.good good_del) q)
    (fun C fs d H' M' g' mu' ex we => ⟨C, fs, τ, _, rfl, exd_good ex good_del, g0.trans ((gH1.trans gF).trans (g'.trans good_del)), sl.good ((gH1.trans gF).trans (g'.trans good_del)), mut_del mu', we⟩)
  have hx := passAt at_.tk σ
  refine wpAny_call (codeAny_mono rc fun r s2 hq => ?_)
  cases r with
  | error e => exact hx pins _ s' e s2 I1 hq
  | ok fl =>
    cases fl with
    | ret u => exact I1.after hq
    | next => exact hq.elim
    | brk => exact hq.elim
    | cont => exact hq.elim
end
end Z

set_option Elab.async false
set_option linter.all false
set_option maxRecDepth 100000
set_option maxHeartbeats 4000000
namespace Z
local macro_rules | `(tactic| walk_at "z at") => `(tactic| first | rfl | (simp only [atI, ixN, List.length_cons, List.length_nil, List.length_map]; rfl) | assumption)
local macro_rules | `(tactic| walk_at "z1") => `(tactic| first
  | with_reducible refine w_seq ?_ | with_reducible refine w_set ?_ | with_reducible refine w_ret ?_ | with_reducible refine w_if ?_ | with_reducible refine w_asg ?_ | with_reducible refine w_next ?_ | with_reducible refine w_setIx ?_ | with_reducible refine w_par ?_
  | ((with_reducible refine' w_var ?h ?_); (case h => exact rfl))
  | with_reducible refine w_c ?_ | with_reducible refine w_op ?_ | with_reducible refine w_un ?_ | with_reducible refine w_cons ?_ | with_reducible refine w_nil ?_ | with_reducible refine w_cb ?_
  | with_reducible refine w_call ?_ | with_reducible refine w_callK ?_ | with_reducible refine w_testB ?_ | with_reducible refine w_tru ?_ | with_reducible refine w_andD ?_ | with_reducible refine w_orD ?_ | with_reducible refine w_notD ?_
  | with_reducible refine w_andE ?_ | with_reducible refine w_orE ?_ | with_reducible refine w_notE ?_ | with_reducible refine w_ifE ?_ | with_reducible refine w_is ?_ | with_reducible refine w_isN ?_ | with_reducible refine w_notN ?_ | with_reducible refine w_tupOf ?_
  | with_reducible refine w_tup ?_ | with_reducible refine w_lst ?_ | with_reducible refine w_lstM ?_ | with_reducible refine w_sl ?_ | with_reducible refine w_part ?_ | with_reducible refine w_noPart ?_ | with_reducible refine w_repr ?_ | with_reducible refine w_seqI ?_
  | with_reducible refine w_rdI ?_ | with_reducible refine w_rdB ?_ | with_reducible refine w_rdAdd ?_ | with_reducible refine w_neg ?_ | with_reducible refine w_lenL ?_ | with_reducible refine w_lenT ?_ | with_reducible refine w_abs ?_ | with_reducible refine w_int ?_ | with_reducible refine w_intB ?_ | with_reducible refine w_gcd ?_
  | with_reducible refine w_gname ?_ | with_reducible refine w_gnil ?_ | with_reducible refine w_gcons ?_
  | with_reducible refine w_true ?_ | with_reducible refine w_false ?_
  | dsimp only [truthD, seqD, isNonD, permL, List.filterMap] | with_reducible refine w_drop ?_ | with_reducible refine w_retN ?_ | with_reducible refine w_nilP ?_ | with_reducible refine w_consP ?_ | with_reducible refine w_rng ?_ | with_reducible refine w_cont ?_ | with_reducible refine w_brk ?_)
local macro_rules | `(tactic| walk_at "z") => `(tactic| repeat walk_at "z1")
open PySem L2 PySem.Spec PyProof.Rows LamX NdefX

/-! ### the end of a law whose defs make lambdas: tables of code objects stand, empty -/
/-- a maker's code object, its table, what its lambdas are called -/
abbrev Tb := Addr × Addr × Str
def tabM (ts : List Tb) : MH := fun a => (ts.find? fun p => p.2.1 == a).map fun p => .tbl p.2.2
theorem tabM_none {ts : List Tb} {a : Addr} (h : a ∉ ts.map (·.2.1)) : tabM ts a = none := by
  unfold tabM
  rw [List.find?_eq_none.mpr fun p hp z => h (List.mem_map.mpr ⟨p, hp, eq_of_beq z⟩)]
  rfl
theorem tabM_some {ts : List Tb} {a : Addr} {mo : MO} (h : tabM ts a = some mo) : ∃ p ∈ ts, p.2.1 = a ∧ mo = .tbl p.2.2 := by
  unfold tabM at h
  cases e : ts.find? fun p => p.2.1 == a with
  | none => rw [e] at h; cases h
  | some p =>
    rw [e] at h
    cases h
    exact ⟨p, List.mem_of_find?_eq_some e, eq_of_beq (List.find?_some (p := fun p : Tb => p.2.1 == a) e), rfl⟩
def spLawT (ts : List Tb) : SpD := fun ds M F _ => ∃ ns : List Int, ds = [.lst (ns.map D.int)] ∧ ns.length ≤ 63 ∧ M = tabM ts ∧ ∀ M', F (.bl true) M'
theorem law_fromT {P : Program} {w : World} {K : PySem.W.Frag} {mg mb : Str → Option Value} {k : Nat} {fa a : Addr} {fd : FuncData} {x : Str} {s1 : Shared} {vs : List Value} {ns : List Int} {H : Hp} {ts : List Tb} (KX : K.In s1.heap) (hns : s1.heap.Ns mainGlobals mg)
    (hb : s1.heap.Ns builtinsNs mb) (hbb : ∀ y : Str, y ≠ "__name__" → mb y = bootBuiltins y) (hlim : s1.heap.NoLimit) (hg : s1.gens = #[]) (ha : s1.heap.get? a = some { cls := .type "list", data := .seq vs.toArray }) (hl : ns.length ≤ 63) (hr : Room k callerA)
    (tT : ∀ p ∈ ts, s1.heap.get? p.2.1 = some (tabO #[])) (tK : ∀ p ∈ ts, K.lookup p.2.1 = none) (tC : ∀ p ∈ ts, PySem.W.CodeHd s1.heap p.1 p.2.1)
    (hbm : ∃ (bm : Addr) (ob : Obj), mg "__builtins__" = some (.ref bm) ∧ bm ≠ builtinsNs ∧ s1.heap.get? bm = some ob ∧ ob.cls = .type "module" ∧ ob.dict = some builtinsNs ∧ ob.data = .plain)
    (F : ∀ base : Heap, K.In base → base.Ns mainGlobals mg → (∀ p ∈ ts, TabB base mg p.1 p.2.1) → FnZ P w K mg base k fa fd [x] (spLawT ts)) (hbind : ∀ (s : Shared) (u : Value), BindsTo s fd ⟨[u], []⟩ [(x, u)])
    (hH : ∀ p ∈ ts, H p.2.1 = some (.tbl #[])) (hO : ∀ b, H b = none ∨ b ∈ ts.map (·.2.1) ∨ ∃ o xs, H b = some (.frz o (.lst xs))) (hS : SqL K H a (ns.map V.int)) (hok : HOk P w H s1.heap) (hA : ∀ b, H b ≠ none → b = a ∨ b ∈ ts.map (·.2.1)) (hK : H a ≠ none → K.lookup a = none) :
    codeAny (model P w) callerA (.call (.ref fa) ⟨[.ref a], []⟩) (fun r s' => r = .ok (.ret (.bool true)) ∧ OldK s1.heap s'.heap ∧ s'.os = s1.os ∧ AllBare s'.gens) s1 := by
  have isT : ∀ {b : Addr}, b ∈ ts.map (·.2.1) → s1.heap.get? b = some (tabO #[]) := fun {b} z => by
    obtain ⟨p, hp, e⟩ := List.mem_map.mp z
    rw [← e]
    exact tT p hp
  have aT : a ∉ ts.map (·.2.1) := fun z => by
    have q := (isT z).symm.trans ha
    cases (show Data.fields #[] = Data.seq vs.toArray _ from congrArg Obj.data (Option.some.inj q))
  -- what is neither the script nor a table is untold
  have free : ∀ {b : Addr} {o : Obj}, s1.heap.get? b = some o → (∀ us n, o.data ≠ .seq us n) → o.data ≠ .fields #[] → H b = none := by
    intro b o e n1 n2
    match q : H b with
    | none => rfl
    | some u =>
      rcases hA b (by rw [q]; exact fun z => by cases z) with z | z
      · rw [z, ha] at e
        cases e
        exact (n1 _ _ rfl).elim
      · rw [isT z] at e
        cases e
        exact (n2 rfl).elim
  have noDict : ∀ {b : Addr} {o : Obj} {es : Array DictEntry} {ep : Nat}, s1.heap.get? b = some o → o.data = .dict es ep → H b = none := fun e d => free e (fun us n z => by rw [d] at z; cases z) fun z => by rw [d] at z; cases z
  have ns_keep : ∀ {b : Addr} {m : Str → Option Value}, s1.heap.Ns b m → (hidT s1.heap H).Ns b m := by
    rintro b m ⟨o, es, ep, e, d, r⟩
    exact ⟨o, es, ep, hidT_get e (noDict e d), d, r⟩
  have K_keep : K.In (hidT s1.heap H) := by
    intro b o e
    refine hidT_get (KX b o e) ?_
    match q : H b with
    | none => rfl
    | some u =>
      rcases hA b (by rw [q]; exact fun z => by cases z) with eb | eb
      · rw [eb] at e q
        rw [hK (by rw [q]; exact fun z => by cases z)] at e
        cases e
      · obtain ⟨p, hp, ep⟩ := List.mem_map.mp eb
        rw [← ep, tK p hp] at e
        cases e
  have hM : Mod K mg (hidT s1.heap H) := ⟨K_keep, ns_keep hns, ⟨mb, ns_keep hb, hbb⟩, by obtain ⟨mc, z1, z2⟩ := hlim; exact ⟨mc, ns_keep z1, z2⟩⟩
  have notG : ∀ {b : Addr}, b ∈ ts.map (·.2.1) → mainGlobals ≠ b := fun {b} z e => by
    obtain ⟨o, es, ep, e1, d, _⟩ := hns
    rw [e, isT z] at e1
    cases e1
    cases d
  have TB : ∀ p ∈ ts, TabB (hidT s1.heap H) mg p.1 p.2.1 := fun p hp => by
    have hm : p.2.1 ∈ ts.map (·.2.1) := List.mem_map.mpr ⟨p, hp, rfl⟩
    refine ⟨?_, ?_, notG hm⟩
    · obtain ⟨o, us, file, tf, flags, tg, inF, text, tt, e1, r1, r2, r3, r⟩ := tC p hp
      exact ⟨o, us, file, tf, flags, tg, inF, text, tt, hidT_get e1 (free e1 (fun us n z => by rw [r2] at z; cases z) fun z => by rw [r2] at z; cases z; simp at r3), r1, r2, r3, r⟩
    · obtain ⟨bm, ob, b1, b2, b3, b4, b5, b6⟩ := hbm
      refine ⟨bm, ob, b1, b2, fun q => ?_, fun q => ?_, hidT_get b3 (free b3 (fun us n z => by rw [b6] at z; cases z) fun z => by rw [b6] at z; cases z), b4, b5, b6⟩
      · obtain ⟨o, es, ep, e1, d, _⟩ := hns
        rw [q, e1] at b3
        cases b3
        rw [d] at b6
        cases b6
      · rw [q, isT hm] at b3
        cases b3
        cases b6
  have e0 : Env0 P w K mg (hidT s1.heap H) callerA [] s1 H := ⟨rfl, hM, fun b o e => of_hidT e, Nat.le_of_eq (hidT_size _ _), trivial, (fun b z => absurd (show b ∈ ([] : List Addr) from z) (by simp)), hok, .of_eq hg⟩
  have rl : ReL K H (tabM ts) a (ns.map V.int) := hS.elim (fun z => .inl ⟨tabM_none aT, z⟩) .inr
  have mu0 : Mut K H (tabM ts) := fun b mo z => by
    obtain ⟨p, hp, e, rfl⟩ := tabM_some z
    subst e
    exact ⟨_, hH p hp, .tbl trivial fun pos cv c => by have c' : codeAmong pos [] = some cv := c; cases c'⟩
  have sp0 : spOf K (spLawT ts) [.ref a] H (fun v _ => v = .bl true) fun _ _ _ => False := by
    refine ⟨[.lst (ns.map D.int)], tabM ts, fun d _ => d = .bl true, fun _ _ _ => False, .cons (.lst rl (reps_ints ns)) .nil, mu0, ⟨ns, rfl, hl, rfl, fun _ => rfl⟩, ?_, fun _ _ _ _ _ _ _ _ z => z⟩
    rintro v H' d M' _ _ r rfl
    cases r
    rfl
  refine codeAny_mono ((F _ K_keep (ns_keep hns) TB).run callerA [] s1 H ⟨[.ref a], []⟩ [.ref a] [.ref a] _ _ hr rfl e0 (hbind s1 (.ref a)) (.cons rfl .nil) sp0) ?_
  intro r s' h
  match r, h with
  | .error e, h => obtain ⟨_, _, _, _, _, _, _, _, _, _, _, _, z⟩ := h; exact z.elim
  | .ok .next, h => exact False.elim h
  | .ok .brk, h => exact False.elim h
  | .ok .cont, h => exact False.elim h
  | .ok (.ret u), h =>
    obtain ⟨v, H', os, bare, un, hok', r', q⟩ := h
    cases (show v = .bl true from q)
    cases r'
    have key : ∀ b o, b ∉ ts.map (·.2.1) → s1.heap.get? b = some o → s'.heap.get? b = some o := fun b o nb e => by
      match q : H b with
      | none => exact un.keep b o e q (fun z => nomatch z) (fun z => nomatch z)
      | some u =>
        obtain ⟨ob, xs, z⟩ := ((hO b).resolve_left (by rw [q]; exact fun z => by cases z)).resolve_left nb
        have t1 := (hok b _ z).1
        have t2 := (hok' b _ (un.frzs b ob _ z)).1
        rw [e] at t1
        cases t1
        exact t2
    have grew : ∀ p ∈ ts, ∃ more : Array Value, s'.heap.get? p.2.1 = some (tabO more) := fun p hp => by
      obtain ⟨more, z⟩ := un.tbls p.2.1 #[] (hH p hp)
      exact ⟨_, hok' p.2.1 _ z⟩
    refine ⟨rfl, ⟨fun b o e => ?_, fun b o e => ?_⟩, os, bare⟩
    · by_cases hb : b ∈ ts.map (·.2.1)
      · obtain ⟨p, hp, ep⟩ := List.mem_map.mp hb
        obtain ⟨more, hm⟩ := grew p hp
        subst ep
        rw [tT p hp] at e
        cases e
        exact .inr (.inl ⟨((tC p hp).tab (tT p hp)).isCodeTable, rfl, #[], more, rfl, by rw [Array.empty_append]; exact hm⟩)
      · exact .inl (key b o hb e)
    · by_cases hb : b ∈ ts.map (·.2.1)
      · obtain ⟨p, hp, ep⟩ := List.mem_map.mp hb
        obtain ⟨more, hm⟩ := grew p hp
        subst ep
        exact ⟨_, hm⟩
      · exact ⟨o, key b o hb e⟩
end Z

set_option Elab.async false
set_option linter.all false
set_option maxRecDepth 100000
set_option maxHeartbeats 4000000
namespace Z
local macro_rules | `(tactic| walk_at "z at") => `(tactic| first | rfl | (simp only [atI, ixN, List.length_cons, List.length_nil, List.length_map]; rfl) | assumption)
local macro_rules | `(tactic| walk_at "z1") => `(tactic| first
  | with_reducible refine w_seq ?_ | with_reducible refine w_set ?_ | with_reducible refine w_ret ?_ | with_reducible refine w_if ?_ | with_reducible refine w_asg ?_ | with_reducible refine w_next ?_ | with_reducible refine w_setIx ?_ | with_reducible refine w_par ?_
  | ((with_reducible refine' w_var ?h ?_); (case h => exact rfl))
  | with_reducible refine w_c ?_ | with_reducible refine w_op ?_ | with_reducible refine w_un ?_ | with_reducible refine w_cons ?_ | with_reducible refine w_nil ?_ | with_reducible refine w_cb ?_
  | with_reducible refine w_call ?_ | with_reducible refine w_callK ?_ | with_reducible refine w_testB ?_ | with_reducible refine w_tru ?_ | with_reducible refine w_andD ?_ | with_reducible refine w_orD ?_ | with_reducible refine w_notD ?_
  | with_reducible refine w_andE ?_ | with_reducible refine w_orE ?_ | with_reducible refine w_notE ?_ | with_reducible refine w_ifE ?_ | with_reducible refine w_is ?_ | with_reducible refine w_isN ?_ | with_reducible refine w_notN ?_ | with_reducible refine w_tupOf ?_
  | with_reducible refine w_tup ?_ | with_reducible refine w_lst ?_ | with_reducible refine w_lstM ?_ | with_reducible refine w_sl ?_ | with_reducible refine w_part ?_ | with_reducible refine w_noPart ?_ | with_reducible refine w_repr ?_ | with_reducible refine w_seqI ?_
  | with_reducible refine w_rdI ?_ | with_reducible refine w_rdB ?_ | with_reducible refine w_rdAdd ?_ | with_reducible refine w_neg ?_ | with_reducible refine w_lenL ?_ | with_reducible refine w_lenT ?_ | with_reducible refine w_abs ?_ | with_reducible refine w_int ?_ | with_reducible refine w_intB ?_ | with_reducible refine w_gcd ?_
  | with_reducible refine w_gname ?_ | with_reducible refine w_gnil ?_ | with_reducible refine w_gcons ?_
  | with_reducible refine w_true ?_ | with_reducible refine w_false ?_
  | dsimp only [truthD, seqD, isNonD, permL, List.filterMap] | with_reducible refine w_drop ?_ | with_reducible refine w_retN ?_ | with_reducible refine w_nilP ?_ | with_reducible refine w_consP ?_ | with_reducible refine w_rng ?_ | with_reducible refine w_cont ?_ | with_reducible refine w_brk ?_)
local macro_rules | `(tactic| walk_at "z") => `(tactic| repeat walk_at "z1")
open PySem L2 PySem.Spec PyProof.Rows LamX NdefX

theorem walkZT {l : PySem.W.OpenLaw} {k : Nat} {q : Program} {loose : List Str} {XP : (Str → Option Value) → Heap → Prop} {YP : World → Heap → Prop} {d : DefRec} {K : Params → PySem.W.Frag} {x : Str} (hn : l.most = some 63) (hdf : d.params.defaults = []) (hr : Room k callerA)
    (hY : ∀ (w : World) (h : Heap), YP w h → (K w.params).In h)
    (F : ∀ (w : World) (mg : Str → Option Value) (fa : Addr) (h : Heap), (K w.params).In h → h.Ns mainGlobals mg → mg d.name = some (.ref fa) → (∀ (y : Str) (a : Addr), ((recsOf q).any fun e => e.name == y) = true → mg y = some (.ref a) → OwnTab (K w.params) a h) →
      ∃ (fd : FuncData) (ts : List Tb), (∀ p ∈ ts, h.get? p.2.1 = some (tabO #[])) ∧ (∀ p ∈ ts, (K w.params).lookup p.2.1 = none) ∧ (∀ p ∈ ts, PySem.W.CodeHd h p.1 p.2.1) ∧ (∀ (s : Shared) (u : Value), BindsTo s fd ⟨[u], []⟩ [(x, u)]) ∧
        ∀ base : Heap, (K w.params).In base → base.Ns mainGlobals mg → (∀ p ∈ ts, TabB base mg p.1 p.2.1) → FnZ l.prog w (K w.params) mg base k fa fd [x] (spLawT ts)) :
    PySem.W.WalkO q loose XP YP l.row.toRowW d [] (fun f vs => PySem.call f vs) := by
  refine Att.attach_call hn hdf fun w s₀ s1 mg mb fa o pm cd doc a vs ns G Y ho hd hcd hmg hobj hints hlen hg => ?_
  have KX := hY w _ Y
  obtain ⟨fd, ts, tT, tK, tC, hb, hF⟩ := F w mg fa _ KX G.T.g hmg fun y a' hm my c P o1 fd1 e dd us sl k1 k2 k3 k4 k5 => by
    obtain ⟨dL, hdL, hne⟩ := List.any_eq_true.mp hm
    obtain ⟨a2, o2, fd2, c2, P2, h1, h2, h3, h4, _, ⟨⟨oc, vc, e1, _, e3, e4⟩, hP⟩⟩ := G.T.tab dL hdL
    rw [eq_of_beq hne, my] at h1
    cases h1
    rw [KX _ _ k1] at h2
    cases h2
    rw [k2] at h3
    cases h3
    rw [k3] at h4
    cases h4
    rw [KX _ _ k4] at e1
    cases e1
    cases e3
    rw [k5] at e4
    cases e4
    exact hP
  have rv := vals_ints hints
  have lenV := hints.length
  have run := fun H => law_fromT (H := H) (ns := ns) (ts := ts) KX G.T.g G.T.b G.T.builtins G.T.nolimit hg hobj hlen hr tT tK tC G.T.bmain hF hb
  have aT : a ∉ ts.map (·.2.1) := fun z => by
    obtain ⟨p, hp, e⟩ := List.mem_map.mp z
    have t := tT p hp
    rw [e, hobj] at t
    cases (show Data.seq vs.toArray _ = Data.fields #[] from congrArg Obj.data (Option.some.inj t))
  have mem : ∀ p ∈ ts, p.2.1 ∈ ts.map (·.2.1) := fun p hp => List.mem_map.mpr ⟨p, hp, rfl⟩
  have tOk : ∀ {H : Hp} {b : Addr}, b ∈ ts.map (·.2.1) → ObjOk l.prog w H s1.heap b (.tbl #[]) := fun {H b} z => by
    obtain ⟨p, hp, e⟩ := List.mem_map.mp z
    rw [← e]
    exact tT p hp
  cases hk : (K w.params).lookup a with
  | some ob =>
    have e := KX a ob hk
    rw [hobj] at e
    cases e
    have yes : ∀ b, b ∈ ts.map (·.2.1) → (if b ∈ ts.map (·.2.1) then some (HO.tbl #[]) else none) = some (.tbl #[]) := fun b z => if_pos z
    have no : ∀ b, b ∉ ts.map (·.2.1) → (if b ∈ ts.map (·.2.1) then some (HO.tbl #[]) else none) = none := fun b z => if_neg z
    refine run (fun b => if b ∈ ts.map (·.2.1) then some (.tbl #[]) else none) (fun p hp => yes _ (mem p hp)) (fun b => ?_) (.inr ⟨_, vs.toArray, _, hk, rfl, rfl, rfl, ?_, by simpa using rv⟩) (fun b u z => ?_) (fun b z => ?_) (fun z => absurd (no a aT) z)
    · by_cases m : b ∈ ts.map (·.2.1)
      · exact .inr (.inl m)
      · exact .inl (no b m)
    · rw [List.size_toArray, lenV, sizeLine_eq]
      omega
    · by_cases m : b ∈ ts.map (·.2.1)
      · have z' := (yes b m).symm.trans z
        cases z'
        exact tOk m
      · have z' := (no b m).symm.trans z
        cases z'
    · by_cases m : b ∈ ts.map (·.2.1)
      · exact .inr m
      · exact absurd (no b m) z
  | none =>
    let H0 : Hp := fun b => if b = a then some (.frz { cls := .type "list", data := .seq vs.toArray } (.lst (ns.map V.int))) else if b ∈ ts.map (·.2.1) then some (.tbl #[]) else none
    have self : H0 a = some (.frz { cls := .type "list", data := .seq vs.toArray } (.lst (ns.map V.int))) := if_pos rfl
    have yes : ∀ b, b ∈ ts.map (·.2.1) → H0 b = some (.tbl #[]) := fun b z => (if_neg fun e => aT (by rw [← show b = a from e]; exact z)).trans (if_pos z)
    have no : ∀ b, b ≠ a → b ∉ ts.map (·.2.1) → H0 b = none := fun b e z => (if_neg e).trans (if_neg z)
    refine run H0 (fun p hp => yes _ (mem p hp)) (fun b => ?_) (.inl (.inr ⟨_, self⟩)) (fun b u z => ?_) (fun b z => ?_) (fun _ => hk)
    · by_cases e : b = a
      · subst e
        exact .inr (.inr ⟨_, _, self⟩)
      · by_cases m : b ∈ ts.map (·.2.1)
        · exact .inr (.inl m)
        · exact .inl (no b e m)
    · by_cases e : b = a
      · subst e
        cases self.symm.trans z
        refine ⟨hobj, ?_, vs, _, rv, hobj⟩
        rw [List.length_map, sizeLine_eq]
        omega
      · by_cases m : b ∈ ts.map (·.2.1)
        · cases (yes b m).symm.trans z
          exact tOk m
        · cases (no b e m).symm.trans z
    · by_cases e : b = a
      · exact .inl e
      · by_cases m : b ∈ ts.map (·.2.1)
        · exact .inr m
        · exact absurd (no b e m) z

/-! ### a def whose code object is known (it makes lambdas) -/
structure FunC (K : PySem.W.Frag) (x qual : Str) (st : Stmt) (f : Addr) (fd : FuncData) (c : Addr) : Prop where
  ex : ∃ (oc : Value) (od : Option Addr) (kV doc pm : Value) (an : Option Addr) (ct : Value) (osl : Array (Option Value)),
    fd = PySem.W.fnOf x qual (defArgs st) (defBody st) (defScope st) .none kV doc pm an (.ref c) ct ∧ K.lookup f = some ⟨oc, od, .func fd, osl⟩ ∧ PySem.W.codeIn K (.ref c) qual = true
  kp : PySem.W.keepIn K (.ref f) = true
theorem FunC.to {K : PySem.W.Frag} {x qual : Str} {st : Stmt} {f c : Addr} {fd : FuncData} (F : FunC K x qual st f fd c) : Fun K x qual st f fd := by
  obtain ⟨oc, od, kV, doc, pm, an, ct, osl, e, l, h⟩ := F.ex
  exact ⟨⟨oc, od, kV, doc, pm, an, .ref c, ct, osl, e, l, h⟩, F.kp⟩
section
variable {P : Program} {w : World} {K : PySem.W.Frag} {mg : Str → Option Value} {base : Heap}
theorem fnZc {x qual : Str} {st : Stmt} {f c : Addr} {fd : FuncData} {N ps : List Str} {k : Nat} {sp : SpD} {t : TSD} (F : FunC K x qual st f fd c) (S : FnScope N ps (defScope st)) (len : ∀ ds M F E, sp ds M F E → ds.length = ps.length)
    (hb : ∀ (A : Around) (outer : List Env) (s : Shared) (H : Hp) (E : XK), Room k (A.deeper (envOfC qual (defScope st) s.heap.objs.size f (.ref c))) → A.guards = some [] → PDB (cxOf (L2.CX P w) P w K mg base N qual (defScope st) f (.ref c) A outer s H E) (defBody st) t)
    (wp : ∀ ds M F FE, sp ds M F FE → t (fun C fs _ M => FE C fs M) { nx := fun _ M => F .non M, rt := F } (startD N ds) M) : FnZ P w K mg base (k + 1) f fd ps sp := by
  obtain ⟨oc, od, kV, doc, pm, an, ct, osl, rfl, lk, hcd⟩ := F.ex
  refine ⟨len, fun A outer s H args us vs Q E hr hgd e0 hbd r hsp => ?_⟩
  obtain ⟨ds, M, G, FE, rr, mu, h, kq, ke⟩ := hsp
  have hl : vs.length = ps.length := by rw [rr.length]; exact len _ _ _ _ h
  have old : ∀ b o, base.get? b = some o → s.heap.get? b = some o := fun b o e => (e0.bs b o e).1
  have KX := e0.mod.kin.keeps old
  have lim := e0.mod.nolimit.keeps old
  refine codeAny_call_function hr.depth (KX _ _ lk) rfl S.co S.gen rfl (PySem.W.codeRec_of KX hcd) (hbd _ _ _ _ ?_)
  refine wpAny_newFunctionEnv_cells S.kind (fun y hy => ?_) fun env he s1 x => ?_
  · obtain ⟨n, v⟩ := y
    exact (S.par n (List.of_mem_zip hy).1).imp id fun q => ⟨q, PySem.W.cellsFrom_some _ _ _ (.inl q)⟩
  subst he
  refine ⟨lim.keeps x.toInCall.keep, codeAny_func ?_⟩
  have I := inv_start (CX := L2.CX P w) (w := w) (cd := .ref c) (E := E) S hr.hd e0 hl r x
  have at_ : At (cxOf (L2.CX P w) P w K mg base N qual (defScope st) f (.ref c) A outer s H E) (cxOf (L2.CX P w) P w K mg base N qual (defScope st) f (.ref c) A outer s H E).pn (cxOf (L2.CX P w) P w K mg base N qual (defScope st) f (.ref c) A outer s H E).xe H M (fun C fs _ M => FE C fs M) := by
    refine ⟨Takes.imp (takes_of rfl rfl rfl rfl) fun c d σ H' ⟨C, ds', τ, M', e, ex, g, sl, mu', q⟩ => ?_, passes_of rfl⟩
    subst e
    exact ke C ds' d H' M' g mu' ex q
  have body := hb A outer s H E (hr.deeper _) hgd _ _ H M _ at_
  refine wpAny_mono (body.run [] s1 _ H { nx := fun _ H' => Q .non H', rt := Q } I ⟨startD N ds, M, _, .refl, slots_start rr, mu, wp ds M G FE h, ?_, ?_, ?_, ?_⟩) (fun fl s' hs => ?_) fun e s' hs => hs
  · rintro σ' H' ⟨τ, M', g, sl, mu', q⟩
    exact kq _ _ _ _ g mu' .non q
  · rintro v H' ⟨d, M', g, mu', r', q⟩
    exact kq _ _ _ _ g mu' r' q
  · rintro σ' H' ⟨τ, M', g, sl, mu', q⟩
    exact q.elim
  · rintro σ' H' ⟨τ, M', g, sl, mu', q⟩
    exact q.elim
  · have fin : ∀ {σ' : L2.St} {H' : Hp} {v : V} {u : Value}, Inv (cxOf (L2.CX P w) P w K mg base N qual (defScope st) f (.ref c) A outer s H E) [] σ' H' s' → RelV v u → Q v H' → CE outer P w H s Q u s' :=
      fun {σ' H' v u} J rv q => ⟨v, H', J.os, J.bare, J.base, J.hok, rv, q⟩
    cases fl with
    | ret u => obtain ⟨v, σ', H', J, rv, q⟩ := hs; exact fin J rv q
    | next => obtain ⟨σ', H', J, q⟩ := hs; exact fin (v := V.non) (u := Value.none) J rfl q
    | brk => obtain ⟨_, _, _, q⟩ := hs; exact q.elim
    | cont => obtain ⟨_, _, _, q⟩ := hs; exact q.elim
theorem FnZ.mono {j k : Nat} {f : Addr} {fd : FuncData} {ps : List Str} {sp : SpD} (F : FnZ P w K mg base j f fd ps sp) (h : j ≤ k) : FnZ P w K mg base k f fd ps sp := ⟨F.len, fun A outer s H args us vs Q E hr => F.run A outer s H args us vs Q E (hr.mono h)⟩
end

/-! ### a def called by a name that stands for it -/
structure Cand (P : Program) (w : World) (K : PySem.W.Frag) (mg : Str → Option Value) (base : Heap) (k : Nat) where
  f : Addr
  fd : FuncData
  ps : List Str
  sp : SpD
  ok : FnZ P w K mg base k f fd ps sp
  kp : PySem.W.keepIn K (.ref f) = true
  bd : Binds K fd ps []
def tCallV (i : Nat) (l : List (Addr × SpD)) (ta : TAD) : TED := fun W τ M Q => ∃ p ∈ l, getN τ i = some (.ref p.1) ∧ ta W τ M fun ds M1 => p.2 ds M1 Q (fun C fs M' => W C fs τ M')
section
variable {X : Cx} {k i : Nat} {x : Str} {e : Expr} {es : List Expr} {ta : TAD} {pos p : Pos}
theorem pd_callV (cs : List (Cand X.prog X.w X.K X.mg X.base k)) (hr : Room k X.A) (hgd : X.A.guards = some []) (ha : PDA X (e :: es) ta) (hi : X.N[i]? = some x := by rfl) (hv : Vis X.env.scope x := by first | exact Or.inl rfl | exact Or.inr (Or.inl rfl) | exact Or.inr (Or.inr rfl))
    (hdb : (x == ("__debug__" : Str)) = false := by decide) (hcd : (x == ("__classdict__" : Str)) = false := by decide) (he : starEach (e :: es) X.env = (false, eval e X.env) :: starEach es X.env := by rfl) (hpl : (backTo pos (starEach es X.env)).any (·.1) = false := by rfl) :
    PD X (.Call (.Name x p) (e :: es) [] pos) (tCallV i (cs.map fun c => (c.f, c.sp)) ta) := fun pn xe H0 M0 W at_ => by
  refine ⟨fun pins s σ H Q I ⟨τ, M, G, g0, sl, mu, ⟨q0, hq0, hs, h⟩, kk⟩ => ?_⟩
  obtain ⟨c, hc, rfl⟩ := List.mem_map.mp hq0
  have hσ : σ[i]? = some (some (.ref c.f)) := by
    obtain ⟨v, e1, r⟩ := sl.2 i _ (getN_some hs)
    cases r
    exact e1
  refine wpAny_Call_Name_kw (thn ((pe_var (X := X.tr pn xe) (pos := p) (i := i) hi hv hdb hcd).run pins s σ H (fun v H1 => v = .ref c.f ∧ H1 = H) I ⟨.ref c.f, hσ, rfl, rfl⟩) fun u s0 ⟨v, H1, I0, r1, ev, eH⟩ => ?_)
  subst ev eH
  obtain rfl : u = Value.ref c.f := r1
  refine PySem.W.callWith_K (h₀ := X.base) I0.ok.mod.kin c.kp (thn ((ha pn xe H0 M0 W at_).run pos pins s0 σ H1 (fun vs H2 => vs.length = c.ps.length ∧ spOf X.K c.sp vs H2 Q (WE (liftW X.K H0 M0 W) σ)) I0 ?_) fun us s1 ⟨vs, H2, I1, r, hl, q⟩ => ⟨I1.kIn, ?_⟩) he hpl
  · exact ⟨τ, M, _, g0, sl, mu, h, fun vs H2 ds M1 g1 mu1 r1 h1 => ⟨by rw [r1.length]; exact c.ok.len _ _ _ _ h1, sp_of_call (X := X) g0 sl kk g1 mu1 r1 h1⟩⟩
  · have hx := passAt at_.tk σ
    have hbd := c.bd s1 us I1.kIn (by rw [List.append_nil, ← r.length]; exact hl)
    rw [List.append_nil] at hbd
    refine wpAny_call (codeAny_mono (c.ok.run X.A X.stack s1 H2 ⟨us, []⟩ us vs Q (WE (liftW X.K H0 M0 W) σ) hr hgd I1.env0 hbd r q) fun r s' hq => ?_)
    cases r with
    | error e => exact hx pins H2 s1 e s' I1 hq
    | ok fl =>
      cases fl with
      | ret u => exact I1.after hq
      | next => exact hq.elim
      | brk => exact hq.elim
      | cont => exact hq.elim
end
end Z

set_option Elab.async false
set_option linter.all false
set_option maxRecDepth 100000
set_option maxHeartbeats 4000000
namespace Z
local macro_rules | `(tactic| walk_at "z at") => `(tactic| first | rfl | (simp only [atI, ixN, List.length_cons, List.length_nil, List.length_map]; rfl) | assumption)
local macro_rules | `(tactic| walk_at "z1") => `(tactic| first
  | with_reducible refine w_seq ?_ | with_reducible refine w_set ?_ | with_reducible refine w_ret ?_ | with_reducible refine w_if ?_ | with_reducible refine w_asg ?_ | with_reducible refine w_next ?_ | with_reducible refine w_setIx ?_ | with_reducible refine w_par ?_
  | ((with_reducible refine' w_var ?h ?_); (case h => exact rfl))
  | with_reducible refine w_c ?_ | with_reducible refine w_op ?_ | with_reducible refine w_un ?_ | with_reducible refine w_cons ?_ | with_reducible refine w_nil ?_ | with_reducible refine w_cb ?_
  | with_reducible refine w_call ?_ | with_reducible refine w_callK ?_ | with_reducible refine w_testB ?_ | with_reducible refine w_tru ?_ | with_reducible refine w_andD ?_ | with_reducible refine w_orD ?_ | with_reducible refine w_notD ?_
  | with_reducible refine w_andE ?_ | with_reducible refine w_orE ?_ | with_reducible refine w_notE ?_ | with_reducible refine w_ifE ?_ | with_reducible refine w_is ?_ | with_reducible refine w_isN ?_ | with_reducible refine w_notN ?_ | with_reducible refine w_tupOf ?_
  | with_reducible refine w_tup ?_ | with_reducible refine w_lst ?_ | with_reducible refine w_lstM ?_ | with_reducible refine w_sl ?_ | with_reducible refine w_part ?_ | with_reducible refine w_noPart ?_ | with_reducible refine w_repr ?_ | with_reducible refine w_seqI ?_
  | with_reducible refine w_rdI ?_ | with_reducible refine w_rdB ?_ | with_reducible refine w_rdAdd ?_ | with_reducible refine w_neg ?_ | with_reducible refine w_lenL ?_ | with_reducible refine w_lenT ?_ | with_reducible refine w_abs ?_ | with_reducible refine w_int ?_ | with_reducible refine w_intB ?_ | with_reducible refine w_gcd ?_
  | with_reducible refine w_gname ?_ | with_reducible refine w_gnil ?_ | with_reducible refine w_gcons ?_
  | with_reducible refine w_true ?_ | with_reducible refine w_false ?_
  | dsimp only [truthD, seqD, isNonD, permL, List.filterMap] | with_reducible refine w_drop ?_ | with_reducible refine w_retN ?_ | with_reducible refine w_nilP ?_ | with_reducible refine w_consP ?_ | with_reducible refine w_rng ?_ | with_reducible refine w_cont ?_ | with_reducible refine w_brk ?_)
local macro_rules | `(tactic| walk_at "z") => `(tactic| repeat walk_at "z1")
open PySem L2 PySem.Spec PyProof.Rows LamX NdefX

/-! ### list(x), all(x) -/
def rdListOf : RCD := fun ds M F => match ds with | [d] => (match seqD d with | some xs => F (.lst xs) M | none => False) | _ => False
theorem simListOf {K : PySem.W.Frag} : SimC K (fun xs H Q => ∃ p ys, xs = [.ref p] ∧ (SqL K H p ys ∨ SqT K H p ys) ∧ ∀ l, H l = none → Q (.ref l) (upd H l (.lst ys))) rdListOf := fun xs ds H M F Q r mu h k => by
  cases r with
  | nil => exact h.elim
  | cons r t =>
    cases t with
    | cons _ _ => exact h.elim
    | nil =>
      have fin : ∀ {ys : List V} {es : List D}, Reps K H M ys es → F (.lst es) M → ∀ l, H l = none → Q (.ref l) (upd H l (.lst ys)) := fun rs q l hl =>
        k _ _ _ _ (good_new hl) (mut_new mu hl) (.lst (.inl ⟨mut_none mu hl, .inl upd_same⟩) (rs.good (good_new hl))) q
      cases r with
      | lst rr rs => exact ⟨_, _, rfl, .inl rr.sq, fin rs h⟩
      | tup rr rs => exact ⟨_, _, rfl, .inr rr.sq, fin rs h⟩
      | _ => exact h.elim
def blsD : List D → Option (List Bool)
  | [] => some []
  | .bl b :: r => (blsD r).map (b :: ·)
  | _ => none
theorem blsD_reps {K : PySem.W.Frag} {H : Hp} {M : MH} : ∀ {vs : List V} {ds : List D} {bs : List Bool}, Reps K H M vs ds → blsD ds = some bs → vs = bs.map V.bl
  | _, _, _, .nil, e => by cases e; rfl
  | _, _, bs, .cons (d := d) (ds := ds) r t, e => by
    cases d <;> simp only [blsD] at e <;> try (cases e; done)
    cases r
    cases e2 : blsD ds with
    | none => rw [e2] at e; cases e
    | some l =>
      rw [e2] at e
      cases e
      rw [blsD_reps t e2]
      rfl
def rdAll : RCD := fun ds M F => match ds with | [.lst xs] => (match blsD xs with | some bs => F (.bl (bs.all id)) M | none => False) | _ => False
theorem simAll {K : PySem.W.Frag} : SimC K (rAll K) rdAll := fun xs ds H M F Q r mu h k => by
  unfold rdAll at h
  split at h
  · cases r with
    | cons r t =>
      cases t
      cases r with
      | lst rr rs =>
        split at h
        · rename_i bs e
          have e2 := blsD_reps rs e
          subst e2
          exact ⟨_, bs, rfl, rr.sq, k _ _ _ _ .refl mu (.bl _) h⟩
        · exact h.elim
  · exact h.elim
section
variable {X : Cx} {e a : Expr} {es : List Expr} {ts : TAD} {ta : TED} {pos p p2 p3 p4 : Pos}
theorem pd_listOf (hm : X.mg "list" = none) (ha : PDA X (e :: es) ts) (hg : Gl X "list" := by rfl) (he : starEach (e :: es) X.env = (false, eval e X.env) :: starEach es X.env := by rfl) (hpl : (backTo pos (starEach es X.env)).any (·.1) = false := by rfl) :
    PD X (.Call (.Name "list" p) (e :: es) [] pos) (tCBD rdListOf ts) := pd_bt hm (by decide +kernel) (fun pn xe => call_list_of (X := X.tr pn xe)) simListOf ha hg (by decide) (by decide) he hpl
theorem pd_all (hc : X.calm = true) (hm : X.mg "all" = none) (ha : PDA X (e :: es) ts) (hg : Gl X "all" := by rfl) (he : starEach (e :: es) X.env = (false, eval e X.env) :: starEach es X.env := by rfl) (hpl : (backTo pos (starEach es X.env)).any (·.1) = false := by rfl) :
    PD X (.Call (.Name "all" p) (e :: es) [] pos) (tCBD rdAll ts) := pd_bf hm (by decide +kernel) (fun pn xe => cr_all (X := X.tr pn xe) hc) simAll ha hg (by decide) (by decide) he hpl

/-! ### isinstance(x, (C, D)): an own error, or None -/
def isE2 (all : List Addr) (L C1 C2 : Addr) (d : D) : Option Bool := match d with
  | .exn C _ => if C ∈ all then some ((decide (C = C1) || decide (C1 = L)) || (decide (C = C2) || decide (C2 = L))) else none
  | .non => some false
  | _ => none
theorem none_kit {K : PySem.W.Frag} {L D : Addr} {fl : List Str} (U : ExG K L D fl) : PySem.W.kitOne K (.type "NoneType") (.ref D) = some false := by
  have e2 : ((PySem.W.clsIn K D).isSome && PySem.W.typeIn K (.ref D) == some (.type "type")) = true := by
    have h1 : (PySem.W.clsIn K D).isSome = true := U.k.ic
    rw [h1, U.k.o.tyC]
    rfl
  have e : (Value.type "NoneType" == Value.ref D) = false := rfl
  unfold PySem.W.kitOne PySem.W.kitCls
  simp only [e, e2, if_true, Bool.false_eq_true, if_false]
  show (fastBuiltinMro "NoneType").map (·.contains (.ref D)) = some false
  have m : fastBuiltinMro "NoneType" = some [.type "NoneType", .type "object"] := by decide +kernel
  rw [m]
  rfl
theorem pd_isX2 {x y : Str} {all : List Addr} {L C1 C2 : Addr} {fl : List Str} {kk} (hx : ∀ C ∈ all, ExG X.K L C fl) (h1 : C1 ∈ all) (h2 : C2 ∈ all) (hi : X.mg "isinstance" = none) (hm : X.mg x = some (.ref C1)) (hm2 : X.mg y = some (.ref C2)) (ha : PD X a ta) (hg : Gl X x := by rfl) (hgy : Gl X y := by rfl)
    (hd : (x == ("__debug__" : Str)) = false := by decide) (hdy : (y == ("__debug__" : Str)) = false := by decide) (hg2 : Gl X "isinstance" := by rfl) (he : starEach [a, .Tuple [.Name x p, .Name y p2] kk p3] X.env = (false, eval a X.env) :: starEach [.Tuple [.Name x p, .Name y p2] kk p3] X.env := by rfl)
    (he2 : starEach [.Tuple [.Name x p, .Name y p2] kk p3] X.env = [(false, eval (.Tuple [.Name x p, .Name y p2] kk p3) X.env)] := by rfl) (he3 : starEach [.Name x p, .Name y p2] X.env = (false, eval (.Name x p) X.env) :: starEach [.Name y p2] X.env := by rfl) (he4 : starEach [.Name y p2] X.env = [(false, eval (.Name y p2) X.env)] := by rfl)
    (hpl : (backTo pos (starEach [.Tuple [.Name x p, .Name y p2] kk p3] X.env)).any (·.1) = false := by rfl) : PD X (.Call (.Name "isinstance" p4) [a, .Tuple [.Name x p, .Name y p2] kk p3] [] pos) (tIs (isE2 all L C1 C2) ta) := fun pn xe H0 M0 W at_ => by
  have cr : CallR (X.tr pn xe) (.builtin "isinstance") (fun xs H Q => ∃ v tp b, xs = [v, .ref tp] ∧ H tp = some (.tup [.ref C1, .ref C2]) ∧ ((v = .non ∧ b = false) ∨ ∃ a C dx, v = .ref a ∧ H a = some (.ext (ExcAt a C dx)) ∧ (∀ d, dx = some d → ∃ ws, H d = some (.xd ws)) ∧ C ∈ all ∧ b = ((decide (C = C1) || decide (C1 = L)) || (decide (C = C2) || decide (C2 = L)))) ∧ Q (.bl b) H) := by
    intro pins s σ H xs us Q I r h
    obtain ⟨v, tp, b, rfl, hT, hv, q⟩ := h
    cases r with
    | cons rx rr =>
      cases rr with
      | cons rt rr =>
        cases rr
        rename_i u1 u2
        obtain rfl : u2 = Value.ref tp := rt
        obtain ⟨_, its, rv, o, t1, t2, n, t3⟩ := (show ObjOk X.prog X.w H s.heap tp (.tup [.ref C1, .ref C2]) from I.hok tp _ hT)
        obtain ⟨oc, od, dt, sl⟩ := o
        simp only at t2 t3
        subst t2 t3
        have ei : its = [.ref C1, .ref C2] := by
          cases rv with
          | cons r1 rv =>
            cases rv with
            | cons r2 rv =>
              cases rv
              obtain rfl : _ = Value.ref C1 := r1
              obtain rfl : _ = Value.ref C2 := r2
              rfl
        subst ei
        rcases hv with ⟨rfl, rfl⟩ | ⟨a, C, dx, rfl, e, hdx, hC, rfl⟩
        · obtain ⟨P, Z, pz, hz⟩ := kit_of I rx (.base .non)
          exact PySem.W.kia_tup Z I.kIn pz t1 (kitAny_cons (none_kit (hx C1 h1)) (fun _ => kitAny_cons (none_kit (hx C2 h2)) (fun _ => kitAny_nil) fun z => by cases z) fun z => by cases z) hz fun tk => ⟨.bl false, H, I.tok tk, rfl, q⟩
        · obtain rfl : u1 = Value.ref a := rx
          have T := (hx C hC).k
          obtain ⟨oe, vs, g1, g2, g3, g4⟩ := exc_at (X := X.tr pn xe) I e
          have J : ∃ od, PySem.W.InstAt s.heap a oe C od := by
            cases dx with
            | none => exact ⟨none, g1, g2, by unfold PySem.W.notCls; rw [g4] <;> trivial, by rw [g3]; trivial⟩
            | some d =>
              obtain ⟨ws, hw⟩ := hdx d rfl
              obtain ⟨mA, hns, _⟩ := (show ObjOk X.prog X.w H s.heap d (.xd ws) from I.hok d _ hw)
              obtain ⟨od, ho, hl⟩ := lookIn_ns hns
              exact ⟨some od, g1, g2, by unfold PySem.W.notCls; rw [g4] <;> trivial, by rw [g3]; exact ho⟩
          obtain ⟨od, J⟩ := J
          refine PySem.W.kia_tup (PySem.W.kitx_exc T.ic T.ga T.gg T.o.exC T.ca T.sg T.tg T.om) I.kIn J t1 (kitAny_cons (exg_kit (hx C hC) (hx C1 h1)) (fun z => kitAny_cons (exg_kit (hx C hC) (hx C2 h2)) (fun z2 => ?_) fun z2 => ?_) fun z => ?_) (fun z => nomatch z) fun tk => ⟨.bl _, H, I.tok tk, rfl, q⟩
          · rw [z, z2]; exact kitAny_nil
          · rw [z, z2]; rfl
          · rw [z]; rfl
  refine imE (pe_callB (X := X.tr pn xe) cr hg2 hi (by decide +kernel) (pa_cons (ha pn xe H0 M0 W at_) (pa_cons (pe_tup (pa_cons (pe_glob (X := X.tr pn xe) (v := .ref C1) hg hm rfl hd) (pa_cons (pe_glob (X := X.tr pn xe) (v := .ref C2) hgy hm2 rfl hdy) pa_nil he4) he3)) pa_nil he2) he) (by decide) (by decide) he hpl) fun σ H Q ⟨τ, M, F, g0, sl, mu, h, k⟩ => upE_fin g0 sl mu h fun v H1 d M1 g1 mu1 r1 q => ?_
  refine ⟨by show 2 ≤ sizeLine; decide, fun t ht => ?_⟩
  have gn : Good H1 M1 (upd H1 t (.tup [.ref C1, .ref C2])) M1 := good_new ht
  have r2 := r1.good gn
  cases r2 with
  | non => exact ⟨.non, t, false, rfl, upd_same, .inl ⟨rfl, rfl⟩, k _ _ _ _ (g1.trans gn) (mut_new mu1 ht) (.bl _) q⟩
  | @exn a C dx fs ds m m2 e e2 rf =>
    dsimp only [isE2] at q
    split at q
    · rename_i hC b eb
      split at eb
      · rename_i hC; cases eb; exact ⟨.ref a, t, _, rfl, upd_same, .inr ⟨a, C, some dx, rfl, e, fun d hd => (by cases hd; exact ⟨_, e2⟩), hC, rfl⟩, k _ _ _ _ (g1.trans gn) (mut_new mu1 ht) (.bl _) q⟩
      · cases eb
    · exact q.elim
  | @exn0 a C m e =>
    dsimp only [isE2] at q
    split at q
    · rename_i hC b eb
      split at eb
      · rename_i hC; cases eb; exact ⟨.ref a, t, _, rfl, upd_same, .inr ⟨a, C, none, rfl, e, fun d hd => (by cases hd), hC, rfl⟩, k _ _ _ _ (g1.trans gn) (mut_new mu1 ht) (.bl _) q⟩
      · cases eb
    · exact q.elim
  | _ => exact q.elim
end
end Z

set_option Elab.async false
set_option linter.all false
set_option maxRecDepth 100000
set_option maxHeartbeats 4000000
namespace Z
local macro_rules | `(tactic| walk_at "z at") => `(tactic| first | rfl | (simp only [atI, ixN, List.length_cons, List.length_nil, List.length_map]; rfl) | assumption)
local macro_rules | `(tactic| walk_at "z1") => `(tactic| first
  | with_reducible refine w_seq ?_ | with_reducible refine w_set ?_ | with_reducible refine w_ret ?_ | with_reducible refine w_if ?_ | with_reducible refine w_asg ?_ | with_reducible refine w_next ?_ | with_reducible refine w_setIx ?_ | with_reducible refine w_par ?_
  | ((with_reducible refine' w_var ?h ?_); (case h => exact rfl))
  | with_reducible refine w_c ?_ | with_reducible refine w_op ?_ | with_reducible refine w_un ?_ | with_reducible refine w_cons ?_ | with_reducible refine w_nil ?_ | with_reducible refine w_cb ?_
  | with_reducible refine w_call ?_ | with_reducible refine w_callK ?_ | with_reducible refine w_testB ?_ | with_reducible refine w_tru ?_ | with_reducible refine w_andD ?_ | with_reducible refine w_orD ?_ | with_reducible refine w_notD ?_
  | with_reducible refine w_andE ?_ | with_reducible refine w_orE ?_ | with_reducible refine w_notE ?_ | with_reducible refine w_ifE ?_ | with_reducible refine w_is ?_ | with_reducible refine w_isN ?_ | with_reducible refine w_notN ?_ | with_reducible refine w_tupOf ?_
  | with_reducible refine w_tup ?_ | with_reducible refine w_lst ?_ | with_reducible refine w_lstM ?_ | with_reducible refine w_sl ?_ | with_reducible refine w_part ?_ | with_reducible refine w_noPart ?_ | with_reducible refine w_repr ?_ | with_reducible refine w_seqI ?_
  | with_reducible refine w_rdI ?_ | with_reducible refine w_rdB ?_ | with_reducible refine w_rdAdd ?_ | with_reducible refine w_neg ?_ | with_reducible refine w_lenL ?_ | with_reducible refine w_lenT ?_ | with_reducible refine w_abs ?_ | with_reducible refine w_int ?_ | with_reducible refine w_intB ?_ | with_reducible refine w_gcd ?_
  | with_reducible refine w_gname ?_ | with_reducible refine w_gnil ?_ | with_reducible refine w_gcons ?_
  | with_reducible refine w_true ?_ | with_reducible refine w_false ?_
  | dsimp only [truthD, seqD, isNonD, permL, List.filterMap] | with_reducible refine w_drop ?_ | with_reducible refine w_retN ?_ | with_reducible refine w_nilP ?_ | with_reducible refine w_consP ?_ | with_reducible refine w_rng ?_ | with_reducible refine w_cont ?_ | with_reducible refine w_brk ?_)
local macro_rules | `(tactic| walk_at "z") => `(tactic| repeat walk_at "z1")
open PySem L2 PySem.Spec PyProof.Rows LamX NdefX

/-! ### [e, ..] * n -/
def tRepD (n : Int) (ts : TAD) : TED := fun W τ M Q => ts W τ M fun ds M1 => 0 ≤ n ∧ n ≤ 1000 ∧ ds.length ≤ 1000 ∧ Q (.lst (List.replicate n.toNat ds).flatten) M1
theorem reps_rep {K : PySem.W.Frag} {H : Hp} {M : MH} {vs : List V} {ds : List D} (r : Reps K H M vs ds) : ∀ n : Nat, Reps K H M (List.replicate n vs).flatten (List.replicate n ds).flatten
  | 0 => .nil
  | n + 1 => by
    rw [List.replicate_succ, List.replicate_succ, List.flatten_cons, List.flatten_cons]
    exact r.append (reps_rep r n)
theorem pd_repL {X : Cx} {es : List Expr} {ts : TAD} {n : Int} {j} {lp cp pos : Pos} (ha : PDA X es ts) : PD X (.BinOp (.List es lp) .Mult (.Constant (.int n) j cp) pos) (tRepD n ts) := fun pn xe H0 M0 W at_ =>
  imE (pe_op (X := X.tr pn xe) op_rep (pe_lst (ha pn xe H0 M0 W at_)) pe_int) fun σ H Q ⟨τ, M, F, g0, sl, mu, h, k⟩ => ⟨τ, M, _, g0, sl, mu, h, fun vs H1 ds M1 g1 mu1 r ⟨n0, n1, hl, q⟩ => by
    have hz : ds.length * n.toNat ≤ 1000 * 1000 := Nat.mul_le_mul hl (by omega)
    refine ⟨by rw [r.length, sizeLine_eq]; omega, fun p hp => ?_⟩
    refine ⟨p, n, vs, rfl, rfl, upd_same, by omega, by omega, by rw [r.length, sizeLine_eq]; omega, fun l hl2 => ?_⟩
    have nl : H1 l = none := upd_none hl2
    have g2 : Good H1 M1 (upd (upd H1 p (.lst vs)) l (.lst (List.replicate n.toNat vs).flatten)) M1 := (good_new hp).trans (good_new hl2)
    exact k _ _ _ M1 (g1.trans g2) (mut_new (mut_new mu1 hp) hl2) (.lst (.inl ⟨mut_none mu1 nl, .inl upd_same⟩) ((reps_rep r _).good g2)) q⟩
end Z

set_option Elab.async false
set_option linter.all false
set_option maxRecDepth 100000
set_option maxHeartbeats 4000000
namespace Z
local macro_rules | `(tactic| walk_at "z at") => `(tactic| first | rfl | (simp only [atI, ixN, List.length_cons, List.length_nil, List.length_map]; rfl) | assumption)
local macro_rules | `(tactic| walk_at "z1") => `(tactic| first
  | with_reducible refine w_seq ?_ | with_reducible refine w_set ?_ | with_reducible refine w_ret ?_ | with_reducible refine w_if ?_ | with_reducible refine w_asg ?_ | with_reducible refine w_next ?_ | with_reducible refine w_setIx ?_ | with_reducible refine w_par ?_
  | ((with_reducible refine' w_var ?h ?_); (case h => exact rfl))
  | with_reducible refine w_c ?_ | with_reducible refine w_op ?_ | with_reducible refine w_un ?_ | with_reducible refine w_cons ?_ | with_reducible refine w_nil ?_ | with_reducible refine w_cb ?_
  | with_reducible refine w_call ?_ | with_reducible refine w_callK ?_ | with_reducible refine w_testB ?_ | with_reducible refine w_tru ?_ | with_reducible refine w_andD ?_ | with_reducible refine w_orD ?_ | with_reducible refine w_notD ?_
  | with_reducible refine w_andE ?_ | with_reducible refine w_orE ?_ | with_reducible refine w_notE ?_ | with_reducible refine w_ifE ?_ | with_reducible refine w_is ?_ | with_reducible refine w_isN ?_ | with_reducible refine w_notN ?_ | with_reducible refine w_tupOf ?_
  | with_reducible refine w_tup ?_ | with_reducible refine w_lst ?_ | with_reducible refine w_lstM ?_ | with_reducible refine w_sl ?_ | with_reducible refine w_part ?_ | with_reducible refine w_noPart ?_ | with_reducible refine w_repr ?_ | with_reducible refine w_seqI ?_
  | with_reducible refine w_rdI ?_ | with_reducible refine w_rdB ?_ | with_reducible refine w_rdAdd ?_ | with_reducible refine w_neg ?_ | with_reducible refine w_lenL ?_ | with_reducible refine w_lenT ?_ | with_reducible refine w_abs ?_ | with_reducible refine w_int ?_ | with_reducible refine w_intB ?_ | with_reducible refine w_gcd ?_
  | with_reducible refine w_gname ?_ | with_reducible refine w_gnil ?_ | with_reducible refine w_gcons ?_
  | with_reducible refine w_true ?_ | with_reducible refine w_false ?_
  | dsimp only [truthD, seqD, isNonD, permL, List.filterMap] | with_reducible refine w_drop ?_ | with_reducible refine w_retN ?_ | with_reducible refine w_nilP ?_ | with_reducible refine w_consP ?_ | with_reducible refine w_rng ?_ | with_reducible refine w_cont ?_ | with_reducible refine w_brk ?_)
local macro_rules | `(tactic| walk_at "z") => `(tactic| repeat walk_at "z1")
open PySem L2
def topS (i : Nat) : Stmt := PySem.Challenge.pw_lanecross_k03_numbers_reckoned.main.body.getD i (.Pass ⟨0, 0, 0, 0⟩)
abbrev s_is_integer : Stmt := topS 2
abbrev s_is_within : Stmt := topS 3
abbrev s_is_row_of : Stmt := topS 4
abbrev s_is_number : Stmt := topS 5
abbrev s_raw : Stmt := topS 11
abbrev s_told : Stmt := topS 12
abbrev s_made : Stmt := topS 13
abbrev s_add : Stmt := topS 14
abbrev s_subtract : Stmt := topS 15
abbrev s_multiply : Stmt := topS 16
abbrev s_divide : Stmt := topS 17
abbrev s_is_smaller : Stmt := topS 18
abbrev s_smaller : Stmt := topS 19
abbrev s_greater : Stmt := topS 20
abbrev s_ratio : Stmt := topS 22
abbrev s_both_raw : Stmt := topS 23
abbrev s_plus : Stmt := topS 24
abbrev s_minus : Stmt := topS 25
abbrev s_times : Stmt := topS 26
abbrev s_over : Stmt := topS 27
abbrev s_distance : Stmt := topS 28
abbrev s_is_less : Stmt := topS 29
abbrev s_all_raw : Stmt := topS 30
abbrev s_least : Stmt := topS 31
abbrev s_greatest : Stmt := topS 32
abbrev s__law_bead : Stmt := topS 34
abbrev s__law_string : Stmt := topS 35
abbrev s__law_pick : Stmt := topS 36
abbrev s__law_low : Stmt := topS 37
abbrev s__law_told : Stmt := topS 39
abbrev s__law_number : Stmt := topS 40
abbrev s__law_handed : Stmt := topS 41
abbrev s__law_two_right : Stmt := topS 42
abbrev s__law_heard : Stmt := topS 43
abbrev s__law_some_right : Stmt := topS 44
abbrev s__law_refused_right : Stmt := topS 45
abbrev s_law : Stmt := topS 46
theorem sc_is_integer : FnScope ["value"] ["value"] (defScope s_is_integer) := ⟨rfl, rfl, rfl, by decide +kernel, rfl, by decide +kernel, by decide +kernel⟩
theorem sc_is_within : FnScope ["value", "least", "most"] ["value", "least", "most"] (defScope s_is_within) := ⟨rfl, rfl, rfl, by decide +kernel, rfl, by decide +kernel, by decide +kernel⟩
theorem sc_is_row_of : FnScope ["value", "length"] ["value", "length"] (defScope s_is_row_of) := ⟨rfl, rfl, rfl, by decide +kernel, rfl, by decide +kernel, by decide +kernel⟩
theorem sc_is_number : FnScope ["value", "above", "below"] ["value"] (defScope s_is_number) := ⟨rfl, rfl, rfl, by decide +kernel, rfl, by decide +kernel, by decide +kernel⟩
theorem sc_raw : FnScope ["number"] ["number"] (defScope s_raw) := ⟨rfl, rfl, rfl, by decide +kernel, rfl, by decide +kernel, by decide +kernel⟩
theorem sc_told : FnScope ["fraction"] ["fraction"] (defScope s_told) := ⟨rfl, rfl, rfl, by decide +kernel, rfl, by decide +kernel, by decide +kernel⟩
theorem sc_made : FnScope ["above", "below", "common"] ["above", "below"] (defScope s_made) := ⟨rfl, rfl, rfl, by decide +kernel, rfl, by decide +kernel, by decide +kernel⟩
theorem sc_add : FnScope ["one", "other"] ["one", "other"] (defScope s_add) := ⟨rfl, rfl, rfl, by decide +kernel, rfl, by decide +kernel, by decide +kernel⟩
theorem sc_subtract : FnScope ["one", "other"] ["one", "other"] (defScope s_subtract) := ⟨rfl, rfl, rfl, by decide +kernel, rfl, by decide +kernel, by decide +kernel⟩
theorem sc_multiply : FnScope ["one", "other"] ["one", "other"] (defScope s_multiply) := ⟨rfl, rfl, rfl, by decide +kernel, rfl, by decide +kernel, by decide +kernel⟩
theorem sc_divide : FnScope ["one", "other"] ["one", "other"] (defScope s_divide) := ⟨rfl, rfl, rfl, by decide +kernel, rfl, by decide +kernel, by decide +kernel⟩
theorem sc_is_smaller : FnScope ["one", "other"] ["one", "other"] (defScope s_is_smaller) := ⟨rfl, rfl, rfl, by decide +kernel, rfl, by decide +kernel, by decide +kernel⟩
theorem sc_smaller : FnScope ["one", "other"] ["one", "other"] (defScope s_smaller) := ⟨rfl, rfl, rfl, by decide +kernel, rfl, by decide +kernel, by decide +kernel⟩
theorem sc_greater : FnScope ["one", "other"] ["one", "other"] (defScope s_greater) := ⟨rfl, rfl, rfl, by decide +kernel, rfl, by decide +kernel, by decide +kernel⟩
theorem sc_ratio : FnScope ["above", "below"] ["above", "below"] (defScope s_ratio) := ⟨rfl, rfl, rfl, by decide +kernel, rfl, by decide +kernel, by decide +kernel⟩
theorem sc_both_raw : FnScope ["one", "other"] ["one", "other"] (defScope s_both_raw) := ⟨rfl, rfl, rfl, by decide +kernel, rfl, by decide +kernel, by decide +kernel⟩
theorem sc_plus : FnScope ["one", "other", "first", "second"] ["one", "other"] (defScope s_plus) := ⟨rfl, rfl, rfl, by decide +kernel, rfl, by decide +kernel, by decide +kernel⟩
theorem sc_minus : FnScope ["one", "other", "first", "second"] ["one", "other"] (defScope s_minus) := ⟨rfl, rfl, rfl, by decide +kernel, rfl, by decide +kernel, by decide +kernel⟩
theorem sc_times : FnScope ["one", "other", "first", "second"] ["one", "other"] (defScope s_times) := ⟨rfl, rfl, rfl, by decide +kernel, rfl, by decide +kernel, by decide +kernel⟩
theorem sc_over : FnScope ["one", "other", "first", "second"] ["one", "other"] (defScope s_over) := ⟨rfl, rfl, rfl, by decide +kernel, rfl, by decide +kernel, by decide +kernel⟩
theorem sc_distance : FnScope ["one", "other", "first", "second"] ["one", "other"] (defScope s_distance) := ⟨rfl, rfl, rfl, by decide +kernel, rfl, by decide +kernel, by decide +kernel⟩
theorem sc_is_less : FnScope ["one", "other", "first", "second"] ["one", "other"] (defScope s_is_less) := ⟨rfl, rfl, rfl, by decide +kernel, rfl, by decide +kernel, by decide +kernel⟩
theorem sc_all_raw : FnScope ["values", "value"] ["values"] (defScope s_all_raw) := ⟨rfl, rfl, rfl, by decide +kernel, rfl, by decide +kernel, by decide +kernel⟩
theorem sc_least : FnScope ["values", "fractions", "found", "fraction"] ["values"] (defScope s_least) := ⟨rfl, rfl, rfl, by decide +kernel, rfl, by decide +kernel, by decide +kernel⟩
theorem sc_greatest : FnScope ["values", "fractions", "found", "fraction"] ["values"] (defScope s_greatest) := ⟨rfl, rfl, rfl, by decide +kernel, rfl, by decide +kernel, by decide +kernel⟩
theorem sc__law_bead : FnScope ["_law_script", "_law_cell"] ["_law_script"] (defScope s__law_bead) := ⟨rfl, rfl, rfl, by decide +kernel, rfl, by decide +kernel, by decide +kernel⟩
theorem sc__law_string : FnScope ["_law_bead_here", "_law_many", "_law_left", "_law_turn", "_law_cell", "_law_mixed"] ["_law_bead_here", "_law_many"] (defScope s__law_string) := ⟨rfl, rfl, rfl, by decide +kernel, rfl, by decide +kernel, by decide +kernel⟩
theorem sc__law_pick : FnScope ["_law_bead_here", "_law_some"] ["_law_bead_here", "_law_some"] (defScope s__law_pick) := ⟨rfl, rfl, rfl, by decide +kernel, rfl, by decide +kernel, by decide +kernel⟩
theorem sc__law_low : FnScope ["_law_above", "_law_below", "_law_one", "_law_other", "_law_sign"] ["_law_above", "_law_below"] (defScope s__law_low) := ⟨rfl, rfl, rfl, by decide +kernel, rfl, by decide +kernel, by decide +kernel⟩
theorem sc__law_told : FnScope ["_law_pair_here", "_law_above", "_law_below"] ["_law_pair_here"] (defScope s__law_told) := ⟨rfl, rfl, rfl, by decide +kernel, rfl, by decide +kernel, by decide +kernel⟩
theorem sc__law_number : FnScope ["_law_bead_here", "_law_most", "_law_above", "_law_below"] ["_law_bead_here"] (defScope s__law_number) := ⟨rfl, rfl, rfl, by decide +kernel, rfl, by decide +kernel, by decide +kernel⟩
theorem sc__law_handed : FnScope ["_law_bead_here", "_law_pair_here", "_law_number_here"] ["_law_bead_here", "_law_pair_here"] (defScope s__law_handed) := ⟨rfl, rfl, rfl, by decide +kernel, rfl, by decide +kernel, by decide +kernel⟩
theorem sc__law_two_right : FnScope ["_law_bead_here", "_law_one", "_law_other", "_law_a", "_law_b", "_law_c", "_law_d", "_law_mine", "_law_its", "_law_far", "_law_due", "_law_told_here", "_law_named"] ["_law_bead_here", "_law_one", "_law_other"] (defScope s__law_two_right) := ⟨rfl, rfl, rfl, by decide +kernel, rfl, by decide +kernel, by decide +kernel⟩
theorem sc__law_heard : FnScope ["_law_ask", "_law_caught", "error"] ["_law_ask"] (defScope s__law_heard) := ⟨rfl, rfl, rfl, by decide +kernel, rfl, by decide +kernel, by decide +kernel⟩
theorem sc__law_some_right : FnScope ["_law_bead_here", "_law_some", "_law_low_here", "_law_high", "_law_pair_here", "_law_handed_here", "_law_told_here", "_law_turn"] ["_law_bead_here"] (defScope s__law_some_right) := ⟨rfl, rfl, rfl, by decide +kernel, rfl, by decide +kernel, by decide +kernel⟩
theorem sc__law_refused_right : FnScope ["_law_bead_here", "_law_bad", "_law_none", "_law_also", "_law_ask", "_law_heard_here", "_law_rows", "_law_few"] ["_law_bead_here"] (defScope s__law_refused_right) := ⟨rfl, rfl, rfl, by decide +kernel, rfl, by decide +kernel, by decide +kernel⟩
theorem sc_law : FnScope ["_law_script", "_law_bead_here", "_law_turn", "_law_one", "_law_other", "_law_above", "_law_below"] ["_law_script"] (defScope s_law) := ⟨rfl, rfl, rfl, by decide +kernel, rfl, by decide +kernel, by decide +kernel⟩
abbrev s_LaneError : Stmt := topS 7
abbrev s_BadNumber : Stmt := topS 8
abbrev si_BadNumber : Stmt := inClass s_BadNumber 0
theorem sci_BadNumber : FnScope ["self", "part"] ["self", "part"] (defScope si_BadNumber) := ⟨rfl, rfl, rfl, by decide +kernel, rfl, by decide +kernel, by decide +kernel⟩
abbrev s_Misfit : Stmt := topS 9
abbrev si_Misfit : Stmt := inClass s_Misfit 0
theorem sci_Misfit : FnScope ["self", "part"] ["self", "part"] (defScope si_Misfit) := ⟨rfl, rfl, rfl, by decide +kernel, rfl, by decide +kernel, by decide +kernel⟩
structure Ad where
  c_LaneError : Addr
  c_BadNumber : Addr
  c_Misfit : Addr
  a_is_integer : Addr
  a_is_within : Addr
  a_is_row_of : Addr
  a_is_number : Addr
  a_raw : Addr
  a_told : Addr
  a_made : Addr
  a_add : Addr
  a_subtract : Addr
  a_multiply : Addr
  a_divide : Addr
  a_is_smaller : Addr
  a_smaller : Addr
  a_greater : Addr
  a_ratio : Addr
  a_both_raw : Addr
  a_plus : Addr
  a_minus : Addr
  a_times : Addr
  a_over : Addr
  a_distance : Addr
  a_is_less : Addr
  a_all_raw : Addr
  a_least : Addr
  a_greatest : Addr
  a__law_bead : Addr
  a__law_string : Addr
  a__law_pick : Addr
  a__law_low : Addr
  a__law_told : Addr
  a__law_number : Addr
  a__law_handed : Addr
  a__law_two_right : Addr
  a__law_heard : Addr
  a__law_some_right : Addr
  a__law_refused_right : Addr
  a_law : Addr
  k__law_two_right : Addr
  P__law_two_right : Addr
  k__law_refused_right : Addr
  P__law_refused_right : Addr
def qn__law_two_right : Str := ("_law_two_right" : Str) ++ ".<locals>." ++ "<lambda>"
def qn__law_refused_right : Str := ("_law_refused_right" : Str) ++ ".<locals>." ++ "<lambda>"
def Ad.ts (AA : Ad) : List Tb := [(AA.k__law_two_right, AA.P__law_two_right, qn__law_two_right), (AA.k__law_refused_right, AA.P__law_refused_right, qn__law_refused_right)]
theorem tb__law_two_right {base : Heap} {mg : Str → Option Value} {AA : Ad} (TS : ∀ p ∈ AA.ts, LamX.TabB base mg p.1 p.2.1) : LamX.TabB base mg AA.k__law_two_right AA.P__law_two_right := TS (AA.k__law_two_right, AA.P__law_two_right, qn__law_two_right) (by simp [Ad.ts])
theorem tb__law_refused_right {base : Heap} {mg : Str → Option Value} {AA : Ad} (TS : ∀ p ∈ AA.ts, LamX.TabB base mg p.1 p.2.1) : LamX.TabB base mg AA.k__law_refused_right AA.P__law_refused_right := TS (AA.k__law_refused_right, AA.P__law_refused_right, qn__law_refused_right) (by simp [Ad.ts])
def Ad.all (AA : Ad) : List Addr := [AA.c_BadNumber, AA.c_Misfit]
def FL : List Str := ["part"]
theorem in_BadNumber (AA : Ad) : AA.c_BadNumber ∈ AA.all := by simp [Ad.all]
theorem in_Misfit (AA : Ad) : AA.c_Misfit ∈ AA.all := by simp [Ad.all]
structure Txt (K : PySem.W.Frag) (mg : Str → Option Value) (AA : Ad) where
  gc_LaneError : mg "LaneError" = some (.ref AA.c_LaneError)
  b_LaneError : PySem.W.subIn K (.ref AA.c_LaneError) (.type "BaseException") = some true
  h_LaneError : PySem.W.hasDictIn K AA.c_LaneError = true
  t_LaneError : PySem.W.typeIn K (.ref AA.c_LaneError) = some (.type "type")
  gc_BadNumber : mg "BadNumber" = some (.ref AA.c_BadNumber)
  x_BadNumber : ExG K AA.c_LaneError AA.c_BadNumber FL
  i_BadNumber : Addr
  e_BadNumber : FuncData
  F_BadNumber : Fun K "__init__" "BadNumber.__init__" si_BadNumber i_BadNumber e_BadNumber
  iC_BadNumber : PySem.W.findIn K (.ref AA.c_BadNumber) "__init__" = some (some (.ref i_BadNumber))
  tI_BadNumber : PySem.W.typeIn K (.ref i_BadNumber) = some (.type "function")
  gc_Misfit : mg "Misfit" = some (.ref AA.c_Misfit)
  x_Misfit : ExG K AA.c_LaneError AA.c_Misfit FL
  i_Misfit : Addr
  e_Misfit : FuncData
  F_Misfit : Fun K "__init__" "Misfit.__init__" si_Misfit i_Misfit e_Misfit
  iC_Misfit : PySem.W.findIn K (.ref AA.c_Misfit) "__init__" = some (some (.ref i_Misfit))
  tI_Misfit : PySem.W.typeIn K (.ref i_Misfit) = some (.type "function")
  nd : (AA.c_LaneError :: AA.all).Nodup
  ndt : (AA.ts.map (·.2.1)).Nodup
  d_is_integer : FuncData
  F_is_integer : Fun K "is_integer" "is_integer" s_is_integer AA.a_is_integer d_is_integer
  g_is_integer : mg "is_integer" = some (.ref AA.a_is_integer)
  d_is_within : FuncData
  F_is_within : Fun K "is_within" "is_within" s_is_within AA.a_is_within d_is_within
  g_is_within : mg "is_within" = some (.ref AA.a_is_within)
  d_is_row_of : FuncData
  F_is_row_of : Fun K "is_row_of" "is_row_of" s_is_row_of AA.a_is_row_of d_is_row_of
  g_is_row_of : mg "is_row_of" = some (.ref AA.a_is_row_of)
  d_is_number : FuncData
  F_is_number : Fun K "is_number" "is_number" s_is_number AA.a_is_number d_is_number
  g_is_number : mg "is_number" = some (.ref AA.a_is_number)
  d_raw : FuncData
  F_raw : Fun K "raw" "raw" s_raw AA.a_raw d_raw
  g_raw : mg "raw" = some (.ref AA.a_raw)
  d_told : FuncData
  F_told : Fun K "told" "told" s_told AA.a_told d_told
  g_told : mg "told" = some (.ref AA.a_told)
  d_made : FuncData
  F_made : Fun K "made" "made" s_made AA.a_made d_made
  g_made : mg "made" = some (.ref AA.a_made)
  d_add : FuncData
  F_add : Fun K "add" "add" s_add AA.a_add d_add
  g_add : mg "add" = some (.ref AA.a_add)
  d_subtract : FuncData
  F_subtract : Fun K "subtract" "subtract" s_subtract AA.a_subtract d_subtract
  g_subtract : mg "subtract" = some (.ref AA.a_subtract)
  d_multiply : FuncData
  F_multiply : Fun K "multiply" "multiply" s_multiply AA.a_multiply d_multiply
  g_multiply : mg "multiply" = some (.ref AA.a_multiply)
  d_divide : FuncData
  F_divide : Fun K "divide" "divide" s_divide AA.a_divide d_divide
  g_divide : mg "divide" = some (.ref AA.a_divide)
  d_is_smaller : FuncData
  F_is_smaller : Fun K "is_smaller" "is_smaller" s_is_smaller AA.a_is_smaller d_is_smaller
  g_is_smaller : mg "is_smaller" = some (.ref AA.a_is_smaller)
  d_smaller : FuncData
  F_smaller : Fun K "smaller" "smaller" s_smaller AA.a_smaller d_smaller
  g_smaller : mg "smaller" = some (.ref AA.a_smaller)
  d_greater : FuncData
  F_greater : Fun K "greater" "greater" s_greater AA.a_greater d_greater
  g_greater : mg "greater" = some (.ref AA.a_greater)
  d_ratio : FuncData
  F_ratio : Fun K "ratio" "ratio" s_ratio AA.a_ratio d_ratio
  g_ratio : mg "ratio" = some (.ref AA.a_ratio)
  d_both_raw : FuncData
  F_both_raw : Fun K "both_raw" "both_raw" s_both_raw AA.a_both_raw d_both_raw
  g_both_raw : mg "both_raw" = some (.ref AA.a_both_raw)
  d_plus : FuncData
  F_plus : Fun K "plus" "plus" s_plus AA.a_plus d_plus
  g_plus : mg "plus" = some (.ref AA.a_plus)
  d_minus : FuncData
  F_minus : Fun K "minus" "minus" s_minus AA.a_minus d_minus
  g_minus : mg "minus" = some (.ref AA.a_minus)
  d_times : FuncData
  F_times : Fun K "times" "times" s_times AA.a_times d_times
  g_times : mg "times" = some (.ref AA.a_times)
  d_over : FuncData
  F_over : Fun K "over" "over" s_over AA.a_over d_over
  g_over : mg "over" = some (.ref AA.a_over)
  d_distance : FuncData
  F_distance : Fun K "distance" "distance" s_distance AA.a_distance d_distance
  g_distance : mg "distance" = some (.ref AA.a_distance)
  d_is_less : FuncData
  F_is_less : Fun K "is_less" "is_less" s_is_less AA.a_is_less d_is_less
  g_is_less : mg "is_less" = some (.ref AA.a_is_less)
  d_all_raw : FuncData
  F_all_raw : Fun K "all_raw" "all_raw" s_all_raw AA.a_all_raw d_all_raw
  g_all_raw : mg "all_raw" = some (.ref AA.a_all_raw)
  d_least : FuncData
  F_least : Fun K "least" "least" s_least AA.a_least d_least
  g_least : mg "least" = some (.ref AA.a_least)
  d_greatest : FuncData
  F_greatest : Fun K "greatest" "greatest" s_greatest AA.a_greatest d_greatest
  g_greatest : mg "greatest" = some (.ref AA.a_greatest)
  d__law_bead : FuncData
  F__law_bead : Fun K "_law_bead" "_law_bead" s__law_bead AA.a__law_bead d__law_bead
  g__law_bead : mg "_law_bead" = some (.ref AA.a__law_bead)
  d__law_string : FuncData
  F__law_string : Fun K "_law_string" "_law_string" s__law_string AA.a__law_string d__law_string
  g__law_string : mg "_law_string" = some (.ref AA.a__law_string)
  d__law_pick : FuncData
  F__law_pick : Fun K "_law_pick" "_law_pick" s__law_pick AA.a__law_pick d__law_pick
  g__law_pick : mg "_law_pick" = some (.ref AA.a__law_pick)
  d__law_low : FuncData
  F__law_low : Fun K "_law_low" "_law_low" s__law_low AA.a__law_low d__law_low
  g__law_low : mg "_law_low" = some (.ref AA.a__law_low)
  d__law_told : FuncData
  F__law_told : Fun K "_law_told" "_law_told" s__law_told AA.a__law_told d__law_told
  g__law_told : mg "_law_told" = some (.ref AA.a__law_told)
  d__law_number : FuncData
  F__law_number : Fun K "_law_number" "_law_number" s__law_number AA.a__law_number d__law_number
  g__law_number : mg "_law_number" = some (.ref AA.a__law_number)
  d__law_handed : FuncData
  F__law_handed : Fun K "_law_handed" "_law_handed" s__law_handed AA.a__law_handed d__law_handed
  g__law_handed : mg "_law_handed" = some (.ref AA.a__law_handed)
  d__law_two_right : FuncData
  F__law_two_right : FunC K "_law_two_right" "_law_two_right" s__law_two_right AA.a__law_two_right d__law_two_right AA.k__law_two_right
  g__law_two_right : mg "_law_two_right" = some (.ref AA.a__law_two_right)
  d__law_heard : FuncData
  F__law_heard : Fun K "_law_heard" "_law_heard" s__law_heard AA.a__law_heard d__law_heard
  g__law_heard : mg "_law_heard" = some (.ref AA.a__law_heard)
  d__law_some_right : FuncData
  F__law_some_right : Fun K "_law_some_right" "_law_some_right" s__law_some_right AA.a__law_some_right d__law_some_right
  g__law_some_right : mg "_law_some_right" = some (.ref AA.a__law_some_right)
  d__law_refused_right : FuncData
  F__law_refused_right : FunC K "_law_refused_right" "_law_refused_right" s__law_refused_right AA.a__law_refused_right d__law_refused_right AA.k__law_refused_right
  g__law_refused_right : mg "_law_refused_right" = some (.ref AA.a__law_refused_right)
  d_law : FuncData
  F_law : Fun K "law" "law" s_law AA.a_law d_law
  g_law : mg "law" = some (.ref AA.a_law)
  n_abs : mg "abs" = none
  n_all : mg "all" = none
  n_bool : mg "bool" = none
  n_gcd : mg "gcd" = some (.builtin "math.gcd")
  n_int : mg "int" = none
  n_isinstance : mg "isinstance" = none
  n_len : mg "len" = none
  n_list : mg "list" = none
  n_range : mg "range" = none
  n_repr : mg "repr" = none
  n_tuple : mg "tuple" = none
section
variable {K : PySem.W.Frag} {mg : Str → Option Value} {AA : Ad}
theorem Txt.xs (T : Txt K mg AA) : ∀ C ∈ AA.all, ExG K AA.c_LaneError C FL := List.forall_mem_cons.mpr ⟨T.x_BadNumber, List.forall_mem_cons.mpr ⟨T.x_Misfit, fun _ h => absurd h List.not_mem_nil⟩⟩
theorem bi_BadNumber (T : Txt K mg AA) : Binds K T.e_BadNumber ["self", "part"] [] := T.F_BadNumber.binds fun _ _ _ _ _ _ us hl => match us, hl with | [_, _], _ => rfl
theorem init_BadNumber {P : Program} {w : World} {base : Heap} (T : Txt K mg AA) : FnOk P w K mg base CX0 1 T.i_BadNumber T.e_BadNumber ["self", "part"] (spI1 AA.c_BadNumber "part") :=
  T.F_BadNumber.ok sci_BadNumber (fun _ _ _ _ ⟨_, _, h, _⟩ => by rw [h]; rfl) (fun cdv A outer s H vs Q E hr h => ⟨_, pss_one (ps_ost (pv 0) (pv 1) rfl), ost1 (p := "") rfl T.x_BadNumber.k (T.x_BadNumber.nf _ (by decide)) h⟩)
theorem bi_Misfit (T : Txt K mg AA) : Binds K T.e_Misfit ["self", "part"] [] := T.F_Misfit.binds fun _ _ _ _ _ _ us hl => match us, hl with | [_, _], _ => rfl
theorem init_Misfit {P : Program} {w : World} {base : Heap} (T : Txt K mg AA) : FnOk P w K mg base CX0 1 T.i_Misfit T.e_Misfit ["self", "part"] (spI1 AA.c_Misfit "part") :=
  T.F_Misfit.ok sci_Misfit (fun _ _ _ _ ⟨_, _, h, _⟩ => by rw [h]; rfl) (fun cdv A outer s H vs Q E hr h => ⟨_, pss_one (ps_ost (pv 0) (pv 1) rfl), ost1 (p := "") rfl T.x_Misfit.k (T.x_Misfit.nf _ (by decide)) h⟩)
theorem b_is_integer (T : Txt K mg AA) : Binds K T.d_is_integer ["value"] [] := T.F_is_integer.binds fun _ _ _ _ _ _ us hl => match us, hl with | [_], _ => rfl
theorem b_is_within (T : Txt K mg AA) : Binds K T.d_is_within ["value", "least", "most"] [] := T.F_is_within.binds fun _ _ _ _ _ _ us hl => match us, hl with | [_, _, _], _ => rfl
theorem b_is_row_of (T : Txt K mg AA) : Binds K T.d_is_row_of ["value", "length"] [] := T.F_is_row_of.binds fun _ _ _ _ _ _ us hl => match us, hl with | [_, _], _ => rfl
theorem b_is_number (T : Txt K mg AA) : Binds K T.d_is_number ["value"] [] := T.F_is_number.binds fun _ _ _ _ _ _ us hl => match us, hl with | [_], _ => rfl
theorem b_raw (T : Txt K mg AA) : Binds K T.d_raw ["number"] [] := T.F_raw.binds fun _ _ _ _ _ _ us hl => match us, hl with | [_], _ => rfl
theorem b_told (T : Txt K mg AA) : Binds K T.d_told ["fraction"] [] := T.F_told.binds fun _ _ _ _ _ _ us hl => match us, hl with | [_], _ => rfl
theorem b_made (T : Txt K mg AA) : Binds K T.d_made ["above", "below"] [] := T.F_made.binds fun _ _ _ _ _ _ us hl => match us, hl with | [_, _], _ => rfl
theorem b_add (T : Txt K mg AA) : Binds K T.d_add ["one", "other"] [] := T.F_add.binds fun _ _ _ _ _ _ us hl => match us, hl with | [_, _], _ => rfl
theorem b_subtract (T : Txt K mg AA) : Binds K T.d_subtract ["one", "other"] [] := T.F_subtract.binds fun _ _ _ _ _ _ us hl => match us, hl with | [_, _], _ => rfl
theorem b_multiply (T : Txt K mg AA) : Binds K T.d_multiply ["one", "other"] [] := T.F_multiply.binds fun _ _ _ _ _ _ us hl => match us, hl with | [_, _], _ => rfl
theorem b_divide (T : Txt K mg AA) : Binds K T.d_divide ["one", "other"] [] := T.F_divide.binds fun _ _ _ _ _ _ us hl => match us, hl with | [_, _], _ => rfl
theorem b_is_smaller (T : Txt K mg AA) : Binds K T.d_is_smaller ["one", "other"] [] := T.F_is_smaller.binds fun _ _ _ _ _ _ us hl => match us, hl with | [_, _], _ => rfl
theorem b_smaller (T : Txt K mg AA) : Binds K T.d_smaller ["one", "other"] [] := T.F_smaller.binds fun _ _ _ _ _ _ us hl => match us, hl with | [_, _], _ => rfl
theorem b_greater (T : Txt K mg AA) : Binds K T.d_greater ["one", "other"] [] := T.F_greater.binds fun _ _ _ _ _ _ us hl => match us, hl with | [_, _], _ => rfl
theorem b_ratio (T : Txt K mg AA) : Binds K T.d_ratio ["above", "below"] [] := T.F_ratio.binds fun _ _ _ _ _ _ us hl => match us, hl with | [_, _], _ => rfl
theorem b_both_raw (T : Txt K mg AA) : Binds K T.d_both_raw ["one", "other"] [] := T.F_both_raw.binds fun _ _ _ _ _ _ us hl => match us, hl with | [_, _], _ => rfl
theorem b_plus (T : Txt K mg AA) : Binds K T.d_plus ["one", "other"] [] := T.F_plus.binds fun _ _ _ _ _ _ us hl => match us, hl with | [_, _], _ => rfl
theorem b_minus (T : Txt K mg AA) : Binds K T.d_minus ["one", "other"] [] := T.F_minus.binds fun _ _ _ _ _ _ us hl => match us, hl with | [_, _], _ => rfl
theorem b_times (T : Txt K mg AA) : Binds K T.d_times ["one", "other"] [] := T.F_times.binds fun _ _ _ _ _ _ us hl => match us, hl with | [_, _], _ => rfl
theorem b_over (T : Txt K mg AA) : Binds K T.d_over ["one", "other"] [] := T.F_over.binds fun _ _ _ _ _ _ us hl => match us, hl with | [_, _], _ => rfl
theorem b_distance (T : Txt K mg AA) : Binds K T.d_distance ["one", "other"] [] := T.F_distance.binds fun _ _ _ _ _ _ us hl => match us, hl with | [_, _], _ => rfl
theorem b_is_less (T : Txt K mg AA) : Binds K T.d_is_less ["one", "other"] [] := T.F_is_less.binds fun _ _ _ _ _ _ us hl => match us, hl with | [_, _], _ => rfl
theorem b_all_raw (T : Txt K mg AA) : Binds K T.d_all_raw ["values"] [] := T.F_all_raw.binds fun _ _ _ _ _ _ us hl => match us, hl with | [_], _ => rfl
theorem b_least (T : Txt K mg AA) : Binds K T.d_least ["values"] [] := T.F_least.binds fun _ _ _ _ _ _ us hl => match us, hl with | [_], _ => rfl
theorem b_greatest (T : Txt K mg AA) : Binds K T.d_greatest ["values"] [] := T.F_greatest.binds fun _ _ _ _ _ _ us hl => match us, hl with | [_], _ => rfl
theorem b__law_bead (T : Txt K mg AA) : Binds K T.d__law_bead ["_law_script"] [] := T.F__law_bead.binds fun _ _ _ _ _ _ us hl => match us, hl with | [_], _ => rfl
theorem b__law_string (T : Txt K mg AA) : Binds K T.d__law_string ["_law_bead_here", "_law_many"] [] := T.F__law_string.binds fun _ _ _ _ _ _ us hl => match us, hl with | [_, _], _ => rfl
theorem b__law_pick (T : Txt K mg AA) : Binds K T.d__law_pick ["_law_bead_here", "_law_some"] [] := T.F__law_pick.binds fun _ _ _ _ _ _ us hl => match us, hl with | [_, _], _ => rfl
theorem b__law_low (T : Txt K mg AA) : Binds K T.d__law_low ["_law_above", "_law_below"] [] := T.F__law_low.binds fun _ _ _ _ _ _ us hl => match us, hl with | [_, _], _ => rfl
theorem b__law_told (T : Txt K mg AA) : Binds K T.d__law_told ["_law_pair_here"] [] := T.F__law_told.binds fun _ _ _ _ _ _ us hl => match us, hl with | [_], _ => rfl
theorem b__law_number (T : Txt K mg AA) : Binds K T.d__law_number ["_law_bead_here"] [] := T.F__law_number.binds fun _ _ _ _ _ _ us hl => match us, hl with | [_], _ => rfl
theorem b__law_handed (T : Txt K mg AA) : Binds K T.d__law_handed ["_law_bead_here", "_law_pair_here"] [] := T.F__law_handed.binds fun _ _ _ _ _ _ us hl => match us, hl with | [_, _], _ => rfl
theorem b__law_two_right (T : Txt K mg AA) : Binds K T.d__law_two_right ["_law_bead_here", "_law_one", "_law_other"] [] := T.F__law_two_right.to.binds fun _ _ _ _ _ _ us hl => match us, hl with | [_, _, _], _ => rfl
theorem b__law_heard (T : Txt K mg AA) : Binds K T.d__law_heard ["_law_ask"] [] := T.F__law_heard.binds fun _ _ _ _ _ _ us hl => match us, hl with | [_], _ => rfl
theorem b__law_some_right (T : Txt K mg AA) : Binds K T.d__law_some_right ["_law_bead_here"] [] := T.F__law_some_right.binds fun _ _ _ _ _ _ us hl => match us, hl with | [_], _ => rfl
theorem b__law_refused_right (T : Txt K mg AA) : Binds K T.d__law_refused_right ["_law_bead_here"] [] := T.F__law_refused_right.to.binds fun _ _ _ _ _ _ us hl => match us, hl with | [_], _ => rfl
theorem b_law (T : Txt K mg AA) : Binds K T.d_law ["_law_script"] [] := T.F_law.binds fun _ _ _ _ _ _ us hl => match us, hl with | [_], _ => rfl
theorem bk_distance_other_one (T : Txt K mg AA) : KwB K T.d_distance ["one", "other"] ["other", "one"] [1, 0] := kwB T.F_distance fun _ _ _ _ _ _ us hl => match us, hl with | [_, _], _ => rfl
theorem bk_greatest_values (T : Txt K mg AA) : KwB K T.d_greatest ["values"] ["values"] [0] := kwB T.F_greatest fun _ _ _ _ _ _ us hl => match us, hl with | [_], _ => rfl
theorem bk_is_less_other_one (T : Txt K mg AA) : KwB K T.d_is_less ["one", "other"] ["other", "one"] [1, 0] := kwB T.F_is_less fun _ _ _ _ _ _ us hl => match us, hl with | [_, _], _ => rfl
theorem bk_least_values (T : Txt K mg AA) : KwB K T.d_least ["values"] ["values"] [0] := kwB T.F_least fun _ _ _ _ _ _ us hl => match us, hl with | [_], _ => rfl
theorem bk_minus_other_one (T : Txt K mg AA) : KwB K T.d_minus ["one", "other"] ["other", "one"] [1, 0] := kwB T.F_minus fun _ _ _ _ _ _ us hl => match us, hl with | [_, _], _ => rfl
theorem bk_over_other_one (T : Txt K mg AA) : KwB K T.d_over ["one", "other"] ["other", "one"] [1, 0] := kwB T.F_over fun _ _ _ _ _ _ us hl => match us, hl with | [_, _], _ => rfl
theorem bk_plus_other_one (T : Txt K mg AA) : KwB K T.d_plus ["one", "other"] ["other", "one"] [1, 0] := kwB T.F_plus fun _ _ _ _ _ _ us hl => match us, hl with | [_, _], _ => rfl
theorem bk_ratio_below_above (T : Txt K mg AA) : KwB K T.d_ratio ["above", "below"] ["below", "above"] [1, 0] := kwB T.F_ratio fun _ _ _ _ _ _ us hl => match us, hl with | [_, _], _ => rfl
theorem bk_times_other_one (T : Txt K mg AA) : KwB K T.d_times ["one", "other"] ["other", "one"] [1, 0] := kwB T.F_times fun _ _ _ _ _ _ us hl => match us, hl with | [_, _], _ => rfl
end
/-! ### what is an integer, a number, a spot -/
def isNumB : D → Bool
  | .int _ => true
  | .lst [.int a, .int b] => decide (2 ≤ b) && decide (Nat.gcd a.natAbs b.natAbs = 1)
  | .tup [.int a, .int b] => decide (2 ≤ b) && decide (Nat.gcd a.natAbs b.natAbs = 1)
  | _ => false
def pairB (x y : D) : Bool := match x, y with | .int a, .int b => decide (2 ≤ b) && decide (Nat.gcd a.natAbs b.natAbs = 1) | _, _ => false
def rowB (n : Int) (d : D) : Bool := match seqD d with | some xs => decide ((xs.length : Int) = n) | none => false
def topB (i : Int) (m : D) : Bool := match m with | .int b => decide (i ≤ b) | _ => true
def isSpotB (d : D) : Bool := match seqD d with | some [x, y] => isNumB x && isNumB y | _ => false
def boundB (d : D) : Bool := match d with | .non | .int _ => true | _ => false
def withinB (v l m : D) : Bool := match v with
  | .int i => (match l with | .int a => decide (a ≤ i) | _ => true) && (match m with | .int b => decide (i ≤ b) | _ => true)
  | _ => false
def sp_is_integer (AA : Ad) : SpD := spF1 isIntB
def sp_is_within (AA : Ad) : SpD := fun ds M F _ => ∃ v l m, ds = [v, l, m] ∧ plainD v = true ∧ boundB l = true ∧ boundB m = true ∧ F (.bl (withinB v l m)) M
def sp_is_row_of (AA : Ad) : SpD := fun ds M F _ => ∃ v n, ds = [v, .int n] ∧ plainD v = true ∧ F (.bl (rowB n v)) M
def sp_is_number (AA : Ad) : SpD := spF1 isNumB
def t_is_integer (AA : Ad) : TSD := (tRetD (tAndE (tIs (isTag .int) (tVarD 0)) (tNotE (tIs (isTag .bool) (tVarD 0)))))
def t_is_within (AA : Ad) : TSD := (tSeqD (tIfD (tNotD (tTruD (tCallD (sp_is_integer AA) (tConsD (tVarD 0) tNilD))))
    (tRetD (tCD (.bl false)))
    tNextD)
  (tRetD (tAndE (tOrE (tIsND (tVarD 1)) (tOpD (rdB fun i j => decide (j ≤ i)) (tVarD 0) (tVarD 1))) (tOrE (tIsND (tVarD 2)) (tOpD (rdB fun i j => decide (i ≤ j)) (tVarD 0) (tVarD 2))))))
def t_is_row_of (AA : Ad) : TSD := (tRetD (tAndE (tIs (isTag2 .list .tuple) (tVarD 0)) (tOpD rdEq (tCBD rdLen (tConsD (tVarD 0) tNilD)) (tVarD 1))))
def t_is_number (AA : Ad) : TSD := (tSeqD (tIfD (tNotD (tTruD (tCallD (sp_is_row_of AA) (tConsD (tVarD 0) (tConsD (tCD (.int 2)) tNilD)))))
    (tRetD (tCallD (sp_is_integer AA) (tConsD (tVarD 0) tNilD)))
    tNextD)
  (tSeqD (tAsgD (tVarD 0) (gTupD 2 (gConsD (gNameD 1) (gConsD (gNameD 2) gNilD))))
  (tRetD (tAndE (tCallD (sp_is_integer AA) (tConsD (tVarD 1) tNilD)) (tAndE (tCallD (sp_is_within AA) (tConsD (tVarD 2) (tConsD (tCD (.int 2)) (tConsD (tCD .non) tNilD)))) (tOpD rdEq (tCBD rdGcd (tConsD (tVarD 1) (tConsD (tVarD 2) tNilD))) (tCD (.int 1))))))))
theorem len1 {g : D → Bool} : ∀ ds M F E, spF1 g ds M F E → ds.length = 1 := fun ds M F E ⟨d, e, _⟩ => by rw [e]; rfl
theorem len_is_integer (AA : Ad) : ∀ ds M F E, sp_is_integer AA ds M F E → ds.length = 1 := len1
theorem len_is_number (AA : Ad) : ∀ ds M F E, sp_is_number AA ds M F E → ds.length = 1 := len1
theorem len_is_within (AA : Ad) : ∀ ds M F E, sp_is_within AA ds M F E → ds.length = 3 := fun ds M F E ⟨_, _, _, e, _⟩ => by rw [e]; rfl
theorem len_is_row_of (AA : Ad) : ∀ ds M F E, sp_is_row_of AA ds M F E → ds.length = 2 := fun ds M F E ⟨_, _, e, _⟩ => by rw [e]; rfl
theorem int_val {d : D} (h : plainD d = true) {W : WD} {Q : QD} {τ : EnvD} {M : MH} {n : Nat} (hv : getN τ n = some d) (k : Q (.bl (isIntB d)) M) : tAndE (tIs (isTag .int) (tVarD n)) (tNotE (tIs (isTag .bool) (tVarD n))) W τ M Q := by
  refine w_andE (w_is (w_var hv ?_))
  rw [tag_int h]
  cases d <;> first
    | exact w_false k
    | (refine w_true (w_notE (w_is (w_var hv ?_))); exact k)
theorem wp_is_integer (AA : Ad) : ∀ ds M F FE, sp_is_integer AA ds M F FE → t_is_integer AA (fun C fs _ M => FE C fs M) { nx := fun _ M => F .non M, rt := F } (startD ["value"] ds) M := by
  rintro ds M F FE ⟨d, rfl, hp, k⟩
  exact int_val (n := 0) (τ := [some d]) hp rfl k
theorem wp_is_within (AA : Ad) : ∀ ds M F FE, sp_is_within AA ds M F FE → t_is_within AA (fun C fs _ M => FE C fs M) { nx := fun _ M => F .non M, rt := F } (startD ["value", "least", "most"] ds) M := by
  rintro ds M F FE ⟨v, l, m, rfl, hp, hl, hm, k⟩
  unfold t_is_within
  walk_at "z"
  refine f1_do hp ?_
  walk_at "z"
  cases v <;> first
    | (refine w_true ?_; walk_at "z"; exact k)
    | skip
  rename_i i
  refine w_false ?_
  walk_at "z"
  cases l <;> first | (cases hl; done) | skip
  all_goals
    cases m <;> first | (cases hm; done) | skip
  · walk_at "z"; exact k
  · walk_at "z"; exact k
  · walk_at "z"
    refine w_dec (fun c => ?_) (fun c => ?_) <;> walk_at "z" <;> simpa [withinB, c] using k
  · walk_at "z"
    refine w_dec (fun c => ?_) (fun c => ?_) <;> walk_at "z" <;> simpa [withinB, c] using k
theorem wp_is_row_of (AA : Ad) : ∀ ds M F FE, sp_is_row_of AA ds M F FE → t_is_row_of AA (fun C fs _ M => FE C fs M) { nx := fun _ M => F .non M, rt := F } (startD ["value", "length"] ds) M := by
  rintro ds M F FE ⟨v, n, rfl, hp, k⟩
  unfold t_is_row_of
  walk_at "z"
  rw [tag_lt hp]
  walk_at "z"
  unfold rowB at k
  cases v <;> first
    | (refine w_false ?_; exact k)
    | (refine w_true ?_; walk_at "z"; exact w_eq rfl k)
theorem seqD_some {v : D} {xs : List D} (h : seqD v = some xs) : v = .lst xs ∨ v = .tup xs := by cases v <;> cases h <;> simp
theorem wp_is_number (AA : Ad) : ∀ ds M F FE, sp_is_number AA ds M F FE → t_is_number AA (fun C fs _ M => FE C fs M) { nx := fun _ M => F .non M, rt := F } (startD ["value", "above", "below"] ds) M := by
  rintro ds M F FE ⟨v, rfl, hp, k⟩
  unfold t_is_number
  walk_at "z"
  refine ⟨_, _, rfl, hp, ?_⟩
  walk_at "z"
  cases hs : seqD v with
  | none =>
    have e1 : rowB 2 v = false := by unfold rowB; rw [hs]
    rw [e1]
    refine w_true ?_
    walk_at "z"
    refine f1_do hp ?_
    have e2 : isIntB v = isNumB v := by cases v <;> first | rfl | (cases hs)
    rw [e2]
    exact k
  | some xs =>
    have hv := seqD_some hs
    have hxs : plainDs xs = true := seq_plain hp hs
    have h2 : ∀ x y, xs = [x, y] → pairB x y = isNumB v := fun x y e => by subst e; rcases hv with rfl | rfl <;> cases x <;> cases y <;> rfl
    have h3 : xs.length ≠ 2 → isNumB v = false := fun h => by rcases hv with rfl | rfl <;> (unfold isNumB; split <;> first | rfl | simp_all)
    have h4 : isIntB v = false := by rcases hv with rfl | rfl <;> rfl
    have hr : rowB 2 v = decide ((xs.length : Int) = 2) := by rcases hv with rfl | rfl <;> rfl
    rw [hr]
    refine w_ndec (fun c => ?_) (fun c => ?_)
    · walk_at "z"
      refine f1_do hp ?_
      rw [h4]
      rw [h3 (by omega)] at k
      exact k
    · obtain ⟨x, y, rfl⟩ : ∃ x y, xs = [x, y] := by
        match xs, c with
        | [x, y], _ => exact ⟨x, y, rfl⟩
        | [], c => simp at c
        | [_], c => simp at c
        | _ :: _ :: _ :: r, c => simp at c; omega
      rw [← h2 x y rfl] at k
      have hx : plainD x = true := plainDs_iff.mp hxs x (by simp)
      have hy : plainD y = true := plainDs_iff.mp hxs y (by simp)
      walk_at "z"
      refine w_gtup (xs := [x, y]) (by rcases hv with rfl | rfl <;> rfl) rfl ?_
      walk_at "z"
      refine f1_do hx ?_
      cases x <;> first | exact w_false k | skip
      refine w_true ?_
      walk_at "z"
      refine ⟨_, _, _, rfl, hy, rfl, rfl, ?_⟩
      cases y <;> first | exact w_false k | skip
      rename_i a b
      have e1 : withinB (.int b) (.int 2) .non = decide (2 ≤ b) := by show (decide (2 ≤ b) && true) = _; rw [Bool.and_true]
      rw [e1]
      refine w_dec (fun c => ?_) (fun c => ?_)
      · walk_at "z"
        refine w_eq rfl ?_
        have e2 : pairB (.int a) (.int b) = decide (((Nat.gcd a.natAbs b.natAbs : Nat) : Int) = 1) := by
          show (decide (2 ≤ b) && decide (Nat.gcd a.natAbs b.natAbs = 1)) = _
          rw [decide_eq_true c, Bool.true_and]
          exact decide_eq_decide.mpr ⟨fun h => by omega, fun h => by omega⟩
        rw [e2] at k
        exact k
      · have e2 : pairB (.int a) (.int b) = false := by
          show (decide (2 ≤ b) && _) = _
          rw [decide_eq_false c, Bool.false_and]
        rw [e2] at k
        exact k
/-! ### fractions: what they are, how they are made -/
/-- a number's size -/
def Sz (n : Nat) (x : Int) : Prop := x.natAbs < 2 ^ n
theorem Sz.mono {n m : Nat} {x : Int} (h : Sz n x) (l : n ≤ m) : Sz m x := Nat.lt_of_lt_of_le h (Nat.pow_le_pow_right (by decide) l)
theorem Sz.mul {n m : Nat} {x y : Int} (h : Sz n x) (g : Sz m y) : Sz (n + m) (x * y) := by
  unfold Sz at *
  rw [Int.natAbs_mul, Nat.pow_add]
  exact Nat.mul_lt_mul'' h g
theorem Sz.add {n : Nat} {x y : Int} (h : Sz n x) (g : Sz n y) : Sz (n + 1) (x + y) := by
  unfold Sz at *
  rw [Nat.pow_succ]
  have := Int.natAbs_add_le x y
  omega
theorem Sz.sub {n : Nat} {x y : Int} (h : Sz n x) (g : Sz n y) : Sz (n + 1) (x - y) := by
  unfold Sz at *
  rw [Nat.pow_succ]
  have := Int.natAbs_sub_le x y
  omega
theorem Sz.le {n : Nat} {x y : Int} (h : Sz n x) (g : y.natAbs ≤ x.natAbs) : Sz n y := Nat.lt_of_le_of_lt g h
theorem Sz.log2 {n : Nat} {x : Int} (h : Sz n x) (hn : n ≤ 1900) : x.natAbs.log2 < 1900 := by
  by_cases h0 : x.natAbs = 0
  · rw [h0]; decide
  · exact Nat.lt_of_lt_of_le ((Nat.log2_lt h0).mpr h) hn
theorem Sz.div {n : Nat} {x : Int} (h : Sz n x) (h0 : x ≠ 0) (hn : n ≤ 1900) (y : Int) : DivOk y x := ⟨h0, Nat.lt_trans (h.log2 hn) (by decide)⟩
/-- the fraction a / b in its one form: b not 0 -/
def nrmA (a b : Int) : Int := if b < 0 then -a / (Nat.gcd a.natAbs b.natAbs : Int) else a / (Nat.gcd a.natAbs b.natAbs : Int)
def nrmB (a b : Int) : Int := if b < 0 then -b / (Nat.gcd a.natAbs b.natAbs : Int) else b / (Nat.gcd a.natAbs b.natAbs : Int)
def frD (a b : Int) : D := .tup [.int a, .int b]
def tellD (a b : Int) : D := if b = 1 then .int a else .tup [.int a, .int b]
theorem gcd_pos {a b : Int} (h : b ≠ 0) : (0 : Int) < (Nat.gcd a.natAbs b.natAbs : Int) := by
  have := Nat.gcd_pos_of_pos_right a.natAbs (show 0 < b.natAbs by omega)
  omega
theorem nrm_one {a : Int} : nrmA a 1 = a ∧ nrmB a 1 = 1 := by simp [nrmA, nrmB]
theorem fdiv_neg' {x g : Int} (hg : 0 < g) (hd : g ∣ x) : x.fdiv (-g) = -x / g := by
  obtain ⟨c, rfl⟩ := hd
  rw [Int.fdiv_eq_ediv_of_dvd ((Int.neg_dvd).mpr (Int.dvd_mul_right g c)), Int.ediv_neg, Int.neg_ediv_of_dvd (Int.dvd_mul_right g c)]
theorem fdiv_pos' {x g : Int} (hg : 0 < g) : x.fdiv g = x / g := Int.fdiv_eq_ediv_of_nonneg x (by omega)
theorem gcd_dl (a b : Int) : (Nat.gcd a.natAbs b.natAbs : Int) ∣ a := Int.natAbs_dvd_natAbs.mp (by rw [Int.natAbs_natCast]; exact Nat.gcd_dvd_left _ _)
theorem gcd_dr (a b : Int) : (Nat.gcd a.natAbs b.natAbs : Int) ∣ b := Int.natAbs_dvd_natAbs.mp (by rw [Int.natAbs_natCast]; exact Nat.gcd_dvd_right _ _)
def sp_made (AA : Ad) : SpD := fun ds M F _ => ∃ a b : Int, ds = [.int a, .int b] ∧ b ≠ 0 ∧ Sz 1800 b ∧ F (frD (nrmA a b) (nrmB a b)) M
def sp_raw (AA : Ad) : SpD := fun ds M F _ => (∃ a : Int, ds = [.int a] ∧ F (frD a 1) M) ∨ ∃ (a b : Int) (d : D), ds = [d] ∧ (d = .lst [.int a, .int b] ∨ d = .tup [.int a, .int b]) ∧ F (frD a b) M
def sp_told (AA : Ad) : SpD := fun ds M F _ => ∃ a b : Int, ds = [frD a b] ∧ F (tellD a b) M
def t_raw (AA : Ad) : TSD := (tSeqD (tIfD (tTruD (tIs (isTag .int) (tVarD 0)))
    (tRetD (tTupD (tConsD (tVarD 0) (tConsD (tCD (.int 1)) tNilD))))
    tNextD)
  (tRetD (tTupD (tConsD (tOpD rdIx (tVarD 0) (tCD (.int 0))) (tConsD (tOpD rdIx (tVarD 0) (tCD (.int 1))) tNilD)))))
def t_told (AA : Ad) : TSD := (tSeqD (tIfD (tTestB (tOpD rdEq (tOpD rdIx (tVarD 0) (tCD (.int 1))) (tCD (.int 1))))
    (tRetD (tOpD rdIx (tVarD 0) (tCD (.int 0))))
    tNextD)
  (tRetD (tVarD 0)))
def t_made (AA : Ad) : TSD := (tSeqD (tIfD (tTestB (tOpD rdEq (tVarD 1) (tCD (.int 1))))
    (tRetD (tTupD (tConsD (tVarD 0) (tConsD (tCD (.int 1)) tNilD))))
    tNextD)
  (tSeqD (tSetD 2 (tCBD rdGcd (tConsD (tVarD 0) (tConsD (tVarD 1) tNilD))))
  (tSeqD (tIfD (tTestB (tOpD (rdB fun i j => decide (i < j)) (tVarD 1) (tCD (.int 0))))
    (tSetD 2 (tUnD rdNeg (tVarD 2)))
    tNextD)
  (tRetD (tTupD (tConsD (tOpD (rdIC DivOk fun i j => i.fdiv j) (tVarD 0) (tVarD 2)) (tConsD (tOpD (rdIC DivOk fun i j => i.fdiv j) (tVarD 1) (tVarD 2)) tNilD)))))))
theorem wp_raw (AA : Ad) : ∀ ds M F FE, sp_raw AA ds M F FE → t_raw AA (fun C fs _ M => FE C fs M) { nx := fun _ M => F .non M, rt := F } (startD ["number"] ds) M := by
  rintro ds M F FE (⟨a, rfl, k⟩ | ⟨a, b, d, rfl, rfl | rfl, k⟩)
  · unfold t_raw
    walk_at "z"
    refine w_true ?_
    walk_at "z"
    exact w_small (by show 2 ≤ 16777216; decide) k
  · unfold t_raw
    walk_at "z"
    refine w_false ?_
    walk_at "z"
    refine w_ixL rfl ?_
    walk_at "z"
    refine w_ixL rfl ?_
    walk_at "z"
    exact w_small (by show 2 ≤ 16777216; decide) k
  · unfold t_raw
    walk_at "z"
    refine w_false ?_
    walk_at "z"
    refine w_ixT rfl ?_
    walk_at "z"
    refine w_ixT rfl ?_
    walk_at "z"
    exact w_small (by show 2 ≤ 16777216; decide) k
theorem wp_told (AA : Ad) : ∀ ds M F FE, sp_told AA ds M F FE → t_told AA (fun C fs _ M => FE C fs M) { nx := fun _ M => F .non M, rt := F } (startD ["fraction"] ds) M := by
  rintro ds M F FE ⟨a, b, rfl, k⟩
  unfold t_told frD
  walk_at "z"
  refine w_ixT rfl ?_
  walk_at "z"
  refine w_eq rfl ?_
  refine w_dec (fun c => ?_) (fun c => ?_)
  · walk_at "z"
    refine w_ixT rfl ?_
    unfold tellD at k
    rw [if_pos c] at k
    exact k
  · walk_at "z"
    unfold tellD at k
    rw [if_neg c] at k
    exact k
theorem wp_made (AA : Ad) : ∀ ds M F FE, sp_made AA ds M F FE → t_made AA (fun C fs _ M => FE C fs M) { nx := fun _ M => F .non M, rt := F } (startD ["above", "below", "common"] ds) M := by
  rintro ds M F FE ⟨a, b, rfl, hb, sz, k⟩
  unfold t_made
  walk_at "z"
  refine w_eq rfl ?_
  refine w_dec (fun c => ?_) (fun c => ?_)
  · subst c
    rw [nrm_one.1, nrm_one.2] at k
    walk_at "z"
    exact w_small (by show 2 ≤ 16777216; decide) k
  have g0 := gcd_pos (a := a) hb
  have gz : Sz 1800 (Nat.gcd a.natAbs b.natAbs : Int) := sz.le (by
    have := Nat.gcd_le_right a.natAbs (show 0 < b.natAbs by omega)
    omega)
  walk_at "z"
  refine w_dec (fun c2 => ?_) (fun c2 => ?_)
  · walk_at "z"
    have dv : ∀ x, DivOk x (-(Nat.gcd a.natAbs b.natAbs : Int)) := fun x => Sz.div (gz.le (by omega)) (by omega) (by decide) x
    refine w_rdIC (dv _) ?_
    walk_at "z"
    refine w_rdIC (dv _) ?_
    walk_at "z"
    refine w_small (by show 2 ≤ 16777216; decide) ?_
    rw [fdiv_neg' g0 (gcd_dl a b), fdiv_neg' g0 (gcd_dr a b)]
    unfold nrmA nrmB at k
    rw [if_pos c2, if_pos c2] at k
    exact k
  · walk_at "z"
    have dv : ∀ x, DivOk x (Nat.gcd a.natAbs b.natAbs : Int) := fun x => gz.div (by omega) (by decide) x
    refine w_rdIC (dv _) ?_
    walk_at "z"
    refine w_rdIC (dv _) ?_
    walk_at "z"
    refine w_small (by show 2 ≤ 16777216; decide) ?_
    rw [fdiv_pos' g0, fdiv_pos' g0]
    unfold nrmA nrmB at k
    rw [if_neg c2, if_neg c2] at k
    exact k
theorem mulOk_sz {n m : Nat} {x y : Int} (h : Sz n x) (g : Sz m y) (hn : n ≤ 1900) (hm : m ≤ 1900) : MulOk x y := .inr (by
  have a := h.log2 hn
  have b := g.log2 hm
  show _ < 1000000
  omega)
/-- two fractions of a size -/
def spBin (va vb : Int → Int → Int → Int → Int) : SpD := fun ds M F _ => ∃ a b c d : Int, ds = [frD a b, frD c d] ∧ Sz 800 a ∧ Sz 800 b ∧ Sz 800 c ∧ Sz 800 d ∧ vb a b c d ≠ 0 ∧ F (frD (nrmA (va a b c d) (vb a b c d)) (nrmB (va a b c d) (vb a b c d))) M
def sp_add (AA : Ad) : SpD := spBin (fun a b c d => a * d + c * b) (fun _ b _ d => b * d)
def sp_subtract (AA : Ad) : SpD := spBin (fun a b c d => a * d - c * b) (fun _ b _ d => b * d)
def sp_multiply (AA : Ad) : SpD := spBin (fun a _ c _ => a * c) (fun _ b _ d => b * d)
def sp_divide (AA : Ad) : SpD := spBin (fun a _ _ d => a * d) (fun _ b c _ => b * c)
def lessF (a b c d : Int) : Bool := decide (a * d < c * b)
def sp_is_smaller (AA : Ad) : SpD := fun ds M F _ => ∃ a b c d : Int, ds = [frD a b, frD c d] ∧ Sz 800 a ∧ Sz 800 b ∧ Sz 800 c ∧ Sz 800 d ∧ F (.bl (lessF a b c d)) M
def sp_smaller (AA : Ad) : SpD := fun ds M F _ => ∃ a b c d : Int, ds = [frD a b, frD c d] ∧ Sz 800 a ∧ Sz 800 b ∧ Sz 800 c ∧ Sz 800 d ∧ F (if lessF c d a b then frD c d else frD a b) M
def sp_greater (AA : Ad) : SpD := fun ds M F _ => ∃ a b c d : Int, ds = [frD a b, frD c d] ∧ Sz 800 a ∧ Sz 800 b ∧ Sz 800 c ∧ Sz 800 d ∧ F (if lessF a b c d then frD c d else frD a b) M
def t_add (AA : Ad) : TSD := (tRetD (tCallD (sp_made AA) (tConsD (tOpD rdAdd (tOpD rdMul (tOpD rdIx (tVarD 0) (tCD (.int 0))) (tOpD rdIx (tVarD 1) (tCD (.int 1)))) (tOpD rdMul (tOpD rdIx (tVarD 1) (tCD (.int 0))) (tOpD rdIx (tVarD 0) (tCD (.int 1))))) (tConsD (tOpD rdMul (tOpD rdIx (tVarD 0) (tCD (.int 1))) (tOpD rdIx (tVarD 1) (tCD (.int 1)))) tNilD))))
def t_subtract (AA : Ad) : TSD := (tRetD (tCallD (sp_made AA) (tConsD (tOpD (rdI fun i j => i - j) (tOpD rdMul (tOpD rdIx (tVarD 0) (tCD (.int 0))) (tOpD rdIx (tVarD 1) (tCD (.int 1)))) (tOpD rdMul (tOpD rdIx (tVarD 1) (tCD (.int 0))) (tOpD rdIx (tVarD 0) (tCD (.int 1))))) (tConsD (tOpD rdMul (tOpD rdIx (tVarD 0) (tCD (.int 1))) (tOpD rdIx (tVarD 1) (tCD (.int 1)))) tNilD))))
def t_multiply (AA : Ad) : TSD := (tRetD (tCallD (sp_made AA) (tConsD (tOpD rdMul (tOpD rdIx (tVarD 0) (tCD (.int 0))) (tOpD rdIx (tVarD 1) (tCD (.int 0)))) (tConsD (tOpD rdMul (tOpD rdIx (tVarD 0) (tCD (.int 1))) (tOpD rdIx (tVarD 1) (tCD (.int 1)))) tNilD))))
def t_divide (AA : Ad) : TSD := (tRetD (tCallD (sp_made AA) (tConsD (tOpD rdMul (tOpD rdIx (tVarD 0) (tCD (.int 0))) (tOpD rdIx (tVarD 1) (tCD (.int 1)))) (tConsD (tOpD rdMul (tOpD rdIx (tVarD 0) (tCD (.int 1))) (tOpD rdIx (tVarD 1) (tCD (.int 0)))) tNilD))))
def t_is_smaller (AA : Ad) : TSD := (tRetD (tOpD (rdB fun i j => decide (i < j)) (tOpD rdMul (tOpD rdIx (tVarD 0) (tCD (.int 0))) (tOpD rdIx (tVarD 1) (tCD (.int 1)))) (tOpD rdMul (tOpD rdIx (tVarD 1) (tCD (.int 0))) (tOpD rdIx (tVarD 0) (tCD (.int 1))))))
def t_smaller (AA : Ad) : TSD := (tSeqD (tIfD (tTruD (tCallD (sp_is_smaller AA) (tConsD (tVarD 1) (tConsD (tVarD 0) tNilD))))
    (tRetD (tVarD 1))
    tNextD)
  (tRetD (tVarD 0)))
def t_greater (AA : Ad) : TSD := (tSeqD (tIfD (tTruD (tCallD (sp_is_smaller AA) (tConsD (tVarD 0) (tConsD (tVarD 1) tNilD))))
    (tRetD (tVarD 1))
    tNextD)
  (tRetD (tVarD 0)))
theorem wp_add (AA : Ad) : ∀ ds M F FE, sp_add AA ds M F FE → t_add AA (fun C fs _ M => FE C fs M) { nx := fun _ M => F .non M, rt := F } (startD ["one", "other"] ds) M := by
  rintro ds M F FE ⟨a, b, c, d, rfl, ha, hb, hc, hd, h0, k⟩
  unfold t_add frD
  walk_at "z"
  refine w_ixT rfl ?_
  walk_at "z"
  refine w_ixT rfl ?_
  refine w_rdMul (mulOk_sz ha hd (by decide) (by decide)) ?_
  walk_at "z"
  refine w_ixT rfl ?_
  walk_at "z"
  refine w_ixT rfl ?_
  refine w_rdMul (mulOk_sz hc hb (by decide) (by decide)) ?_
  walk_at "z"
  refine w_ixT rfl ?_
  walk_at "z"
  refine w_ixT rfl ?_
  refine w_rdMul (mulOk_sz hb hd (by decide) (by decide)) ?_
  walk_at "z"
  exact ⟨_, _, rfl, h0, (hb.mul hd).mono (by decide), k⟩
theorem wp_subtract (AA : Ad) : ∀ ds M F FE, sp_subtract AA ds M F FE → t_subtract AA (fun C fs _ M => FE C fs M) { nx := fun _ M => F .non M, rt := F } (startD ["one", "other"] ds) M := by
  rintro ds M F FE ⟨a, b, c, d, rfl, ha, hb, hc, hd, h0, k⟩
  unfold t_subtract frD
  walk_at "z"
  refine w_ixT rfl ?_
  walk_at "z"
  refine w_ixT rfl ?_
  refine w_rdMul (mulOk_sz ha hd (by decide) (by decide)) ?_
  walk_at "z"
  refine w_ixT rfl ?_
  walk_at "z"
  refine w_ixT rfl ?_
  refine w_rdMul (mulOk_sz hc hb (by decide) (by decide)) ?_
  walk_at "z"
  refine w_ixT rfl ?_
  walk_at "z"
  refine w_ixT rfl ?_
  refine w_rdMul (mulOk_sz hb hd (by decide) (by decide)) ?_
  walk_at "z"
  exact ⟨_, _, rfl, h0, (hb.mul hd).mono (by decide), k⟩
theorem wp_multiply (AA : Ad) : ∀ ds M F FE, sp_multiply AA ds M F FE → t_multiply AA (fun C fs _ M => FE C fs M) { nx := fun _ M => F .non M, rt := F } (startD ["one", "other"] ds) M := by
  rintro ds M F FE ⟨a, b, c, d, rfl, ha, hb, hc, hd, h0, k⟩
  unfold t_multiply frD
  walk_at "z"
  refine w_ixT rfl ?_
  walk_at "z"
  refine w_ixT rfl ?_
  refine w_rdMul (mulOk_sz ha hc (by decide) (by decide)) ?_
  walk_at "z"
  refine w_ixT rfl ?_
  walk_at "z"
  refine w_ixT rfl ?_
  refine w_rdMul (mulOk_sz hb hd (by decide) (by decide)) ?_
  walk_at "z"
  exact ⟨_, _, rfl, h0, (hb.mul hd).mono (by decide), k⟩
theorem wp_divide (AA : Ad) : ∀ ds M F FE, sp_divide AA ds M F FE → t_divide AA (fun C fs _ M => FE C fs M) { nx := fun _ M => F .non M, rt := F } (startD ["one", "other"] ds) M := by
  rintro ds M F FE ⟨a, b, c, d, rfl, ha, hb, hc, hd, h0, k⟩
  unfold t_divide frD
  walk_at "z"
  refine w_ixT rfl ?_
  walk_at "z"
  refine w_ixT rfl ?_
  refine w_rdMul (mulOk_sz ha hd (by decide) (by decide)) ?_
  walk_at "z"
  refine w_ixT rfl ?_
  walk_at "z"
  refine w_ixT rfl ?_
  refine w_rdMul (mulOk_sz hb hc (by decide) (by decide)) ?_
  walk_at "z"
  exact ⟨_, _, rfl, h0, (hb.mul hc).mono (by decide), k⟩
theorem wp_is_smaller (AA : Ad) : ∀ ds M F FE, sp_is_smaller AA ds M F FE → t_is_smaller AA (fun C fs _ M => FE C fs M) { nx := fun _ M => F .non M, rt := F } (startD ["one", "other"] ds) M := by
  rintro ds M F FE ⟨a, b, c, d, rfl, ha, hb, hc, hd, k⟩
  unfold t_is_smaller frD
  walk_at "z"
  refine w_ixT rfl ?_
  walk_at "z"
  refine w_ixT rfl ?_
  refine w_rdMul (mulOk_sz ha hd (by decide) (by decide)) ?_
  walk_at "z"
  refine w_ixT rfl ?_
  walk_at "z"
  refine w_ixT rfl ?_
  refine w_rdMul (mulOk_sz hc hb (by decide) (by decide)) ?_
  walk_at "z"
  exact k
theorem wp_smaller (AA : Ad) : ∀ ds M F FE, sp_smaller AA ds M F FE → t_smaller AA (fun C fs _ M => FE C fs M) { nx := fun _ M => F .non M, rt := F } (startD ["one", "other"] ds) M := by
  rintro ds M F FE ⟨a, b, c, d, rfl, ha, hb, hc, hd, k⟩
  unfold t_smaller
  walk_at "z"
  refine ⟨c, d, a, b, rfl, hc, hd, ha, hb, ?_⟩
  walk_at "z"
  refine w_bool (fun e => ?_) (fun e => ?_)
  · rw [if_pos e] at k
    walk_at "z"
    exact k
  · rw [if_neg (by rw [e]; exact Bool.false_ne_true)] at k
    walk_at "z"
    exact k
theorem wp_greater (AA : Ad) : ∀ ds M F FE, sp_greater AA ds M F FE → t_greater AA (fun C fs _ M => FE C fs M) { nx := fun _ M => F .non M, rt := F } (startD ["one", "other"] ds) M := by
  rintro ds M F FE ⟨a, b, c, d, rfl, ha, hb, hc, hd, k⟩
  unfold t_greater
  walk_at "z"
  refine ⟨a, b, c, d, rfl, ha, hb, hc, hd, ?_⟩
  walk_at "z"
  refine w_bool (fun e => ?_) (fun e => ?_)
  · rw [if_pos e] at k
    walk_at "z"
    exact k
  · rw [if_neg (by rw [e]; exact Bool.false_ne_true)] at k
    walk_at "z"
    exact k
def numV (d : D) : Option (Int × Int) := match d with | .int i => some (i, 1) | .lst [.int a, .int b] => some (a, b) | .tup [.int a, .int b] => some (a, b) | _ => none
theorem num_val {d : D} (h : isNumB d = true) : ∃ a b, numV d = some (a, b) ∧ 0 < b := by
  unfold isNumB at h
  split at h
  · exact ⟨_, 1, rfl, by decide⟩
  · rename_i a b
    simp only [Bool.and_eq_true, decide_eq_true_eq] at h
    exact ⟨a, b, rfl, by omega⟩
  · rename_i a b
    simp only [Bool.and_eq_true, decide_eq_true_eq] at h
    exact ⟨a, b, rfl, by omega⟩
  · cases h
theorem raw_do {AA : Ad} {d : D} {a b : Int} {M : MH} {F : QD} {E : ED} (h : numV d = some (a, b)) (k : F (frD a b) M) : sp_raw AA [d] M F E := by
  unfold numV at h
  split at h
  · cases h; exact .inl ⟨_, rfl, k⟩
  · cases h; exact .inr ⟨_, _, _, rfl, .inl rfl, k⟩
  · cases h; exact .inr ⟨_, _, _, rfl, .inr rfl, k⟩
  · cases h
abbrev RTwo := Int → Int → Int → Int → QD → ED → MH → Prop
def spTwo (AA : Ad) (R : RTwo) : SpD := fun ds M F E => ∃ p q : D, ds = [p, q] ∧ plainD p = true ∧ plainD q = true ∧ (isNumB p = false → E AA.c_BadNumber [("part", .str "one")] M) ∧ (isNumB p = true → isNumB q = false → E AA.c_BadNumber [("part", .str "other")] M) ∧
  (isNumB p = true → isNumB q = true → ∀ a b c d, numV p = some (a, b) → numV q = some (c, d) → 0 < b → 0 < d → R a b c d F E M)
def szs (a b c d : Int) : Prop := Sz 800 a ∧ Sz 800 b ∧ Sz 800 c ∧ Sz 800 d
def rTell (va vb : Int → Int → Int → Int → Int) : RTwo := fun a b c d F _ M => szs a b c d ∧ F (tellD (nrmA (va a b c d) (vb a b c d)) (nrmB (va a b c d) (vb a b c d))) M
def sp_both_raw (AA : Ad) : SpD := spTwo AA fun a b c d F _ M => F (.tup [frD a b, frD c d]) M
def sp_plus (AA : Ad) : SpD := spTwo AA (rTell (fun a b c d => a * d + c * b) (fun _ b _ d => b * d))
def sp_minus (AA : Ad) : SpD := spTwo AA (rTell (fun a b c d => a * d - c * b) (fun _ b _ d => b * d))
def sp_times (AA : Ad) : SpD := spTwo AA (rTell (fun a _ c _ => a * c) (fun _ b _ d => b * d))
def sp_over (AA : Ad) : SpD := spTwo AA fun a b c d F E M => (c = 0 → E AA.c_Misfit [("part", .str "other")] M) ∧ (c ≠ 0 → rTell (fun a _ _ d => a * d) (fun _ b c _ => b * c) a b c d F E M)
def sp_is_less (AA : Ad) : SpD := spTwo AA fun a b c d F _ M => szs a b c d ∧ F (.bl (lessF a b c d)) M
def farA (a b c d : Int) : Int := if lessF a b c d then c * b - a * d else a * d - c * b
def sp_distance (AA : Ad) : SpD := spTwo AA fun a b c d F _ M => szs a b c d ∧ F (tellD (nrmA (farA a b c d) (b * d)) (nrmB (farA a b c d) (b * d))) M
def sp_ratio (AA : Ad) : SpD := fun ds M F E => ∃ p q : D, ds = [p, q] ∧ plainD p = true ∧ plainD q = true ∧ (isIntB p = false → E AA.c_BadNumber [("part", .str "above")] M) ∧ (isIntB p = true → (isIntB q = false ∨ q = .int 0) → E AA.c_BadNumber [("part", .str "below")] M) ∧
  ∀ a b : Int, p = .int a → q = .int b → b ≠ 0 → Sz 1800 b ∧ F (tellD (nrmA a b) (nrmB a b)) M
def t_both_raw (AA : Ad) : TSD := (tSeqD (tIfD (tNotD (tTruD (tCallD (sp_is_number AA) (tConsD (tVarD 0) tNilD))))
    (tRaiseD AA.c_BadNumber (fl1 "part") (tConsD (tCD (.str "one")) tNilD))
    tNextD)
  (tSeqD (tIfD (tNotD (tTruD (tCallD (sp_is_number AA) (tConsD (tVarD 1) tNilD))))
    (tRaiseD AA.c_BadNumber (fl1 "part") (tConsD (tCD (.str "other")) tNilD))
    tNextD)
  (tRetD (tTupD (tConsD (tCallD (sp_raw AA) (tConsD (tVarD 0) tNilD)) (tConsD (tCallD (sp_raw AA) (tConsD (tVarD 1) tNilD)) tNilD))))))
def t_plus (AA : Ad) : TSD := (tSeqD (tAsgD (tCallD (sp_both_raw AA) (tConsD (tVarD 0) (tConsD (tVarD 1) tNilD))) (gTupD 2 (gConsD (gNameD 2) (gConsD (gNameD 3) gNilD))))
  (tRetD (tCallD (sp_told AA) (tConsD (tCallD (sp_add AA) (tConsD (tVarD 2) (tConsD (tVarD 3) tNilD))) tNilD))))
def t_minus (AA : Ad) : TSD := (tSeqD (tAsgD (tCallD (sp_both_raw AA) (tConsD (tVarD 0) (tConsD (tVarD 1) tNilD))) (gTupD 2 (gConsD (gNameD 2) (gConsD (gNameD 3) gNilD))))
  (tRetD (tCallD (sp_told AA) (tConsD (tCallD (sp_subtract AA) (tConsD (tVarD 2) (tConsD (tVarD 3) tNilD))) tNilD))))
def t_times (AA : Ad) : TSD := (tSeqD (tAsgD (tCallD (sp_both_raw AA) (tConsD (tVarD 0) (tConsD (tVarD 1) tNilD))) (gTupD 2 (gConsD (gNameD 2) (gConsD (gNameD 3) gNilD))))
  (tRetD (tCallD (sp_told AA) (tConsD (tCallD (sp_multiply AA) (tConsD (tVarD 2) (tConsD (tVarD 3) tNilD))) tNilD))))
def t_over (AA : Ad) : TSD := (tSeqD (tAsgD (tCallD (sp_both_raw AA) (tConsD (tVarD 0) (tConsD (tVarD 1) tNilD))) (gTupD 2 (gConsD (gNameD 2) (gConsD (gNameD 3) gNilD))))
  (tSeqD (tIfD (tTestB (tOpD rdEq (tOpD rdIx (tVarD 3) (tCD (.int 0))) (tCD (.int 0))))
    (tRaiseD AA.c_Misfit (fl1 "part") (tConsD (tCD (.str "other")) tNilD))
    tNextD)
  (tRetD (tCallD (sp_told AA) (tConsD (tCallD (sp_divide AA) (tConsD (tVarD 2) (tConsD (tVarD 3) tNilD))) tNilD)))))
def t_is_less (AA : Ad) : TSD := (tSeqD (tAsgD (tCallD (sp_both_raw AA) (tConsD (tVarD 0) (tConsD (tVarD 1) tNilD))) (gTupD 2 (gConsD (gNameD 2) (gConsD (gNameD 3) gNilD))))
  (tRetD (tCallD (sp_is_smaller AA) (tConsD (tVarD 2) (tConsD (tVarD 3) tNilD)))))
def t_distance (AA : Ad) : TSD := (tSeqD (tAsgD (tCallD (sp_both_raw AA) (tConsD (tVarD 0) (tConsD (tVarD 1) tNilD))) (gTupD 2 (gConsD (gNameD 2) (gConsD (gNameD 3) gNilD))))
  (tRetD (tCallD (sp_told AA) (tConsD (tCallD (sp_subtract AA) (tConsD (tCallD (sp_greater AA) (tConsD (tVarD 2) (tConsD (tVarD 3) tNilD))) (tConsD (tCallD (sp_smaller AA) (tConsD (tVarD 2) (tConsD (tVarD 3) tNilD))) tNilD))) tNilD))))
def t_ratio (AA : Ad) : TSD := (tSeqD (tIfD (tNotD (tTruD (tCallD (sp_is_integer AA) (tConsD (tVarD 0) tNilD))))
    (tRaiseD AA.c_BadNumber (fl1 "part") (tConsD (tCD (.str "above")) tNilD))
    tNextD)
  (tSeqD (tIfD (tOrD (tNotD (tTruD (tCallD (sp_is_integer AA) (tConsD (tVarD 1) tNilD)))) (tTestB (tOpD rdEq (tVarD 1) (tCD (.int 0)))))
    (tRaiseD AA.c_BadNumber (fl1 "part") (tConsD (tCD (.str "below")) tNilD))
    tNextD)
  (tRetD (tCallD (sp_told AA) (tConsD (tCallD (sp_made AA) (tConsD (tVarD 0) (tConsD (tVarD 1) tNilD))) tNilD)))))
theorem wp_both_raw (AA : Ad) : ∀ ds M F FE, sp_both_raw AA ds M F FE → t_both_raw AA (fun C fs _ M => FE C fs M) { nx := fun _ M => F .non M, rt := F } (startD ["one", "other"] ds) M := by
  rintro ds M F FE ⟨p, q, rfl, hp, hq, e1, e2, k⟩
  unfold t_both_raw
  walk_at "z"
  refine f1_do hp ?_
  walk_at "z"
  cases h1 : isNumB p with
  | false =>
    refine w_true ?_
    refine w_raise ?_
    walk_at "z"
    exact e1 h1
  | true =>
    refine w_false ?_
    walk_at "z"
    refine f1_do hq ?_
    walk_at "z"
    cases h2 : isNumB q with
    | false =>
      refine w_true ?_
      refine w_raise ?_
      walk_at "z"
      exact e2 h1 h2
    | true =>
      refine w_false ?_
      walk_at "z"
      obtain ⟨a, b, n1, hb⟩ := num_val h1
      obtain ⟨c, d, n2, hd⟩ := num_val h2
      refine raw_do n1 ?_
      walk_at "z"
      refine raw_do n2 ?_
      walk_at "z"
      exact w_small (by show 2 ≤ 16777216; decide) (k h1 h2 a b c d n1 n2 hb hd)
theorem wp_plus (AA : Ad) : ∀ ds M F FE, sp_plus AA ds M F FE → t_plus AA (fun C fs _ M => FE C fs M) { nx := fun _ M => F .non M, rt := F } (startD ["one", "other", "first", "second"] ds) M := by
  rintro ds M F FE ⟨p, q, rfl, hp, hq, e1, e2, k⟩
  unfold t_plus
  walk_at "z"
  refine ⟨p, q, rfl, hp, hq, e1, e2, fun g1 g2 a b c d n1 n2 hb hd => ?_⟩
  obtain ⟨⟨s1, s2, s3, s4⟩, k'⟩ := k g1 g2 a b c d n1 n2 hb hd
  refine w_gtup rfl rfl ?_
  walk_at "z"
  refine ⟨a, b, c, d, rfl, s1, s2, s3, s4, Int.ne_of_gt (Int.mul_pos hb hd), ?_⟩
  walk_at "z"
  exact ⟨_, _, rfl, k'⟩
theorem wp_minus (AA : Ad) : ∀ ds M F FE, sp_minus AA ds M F FE → t_minus AA (fun C fs _ M => FE C fs M) { nx := fun _ M => F .non M, rt := F } (startD ["one", "other", "first", "second"] ds) M := by
  rintro ds M F FE ⟨p, q, rfl, hp, hq, e1, e2, k⟩
  unfold t_minus
  walk_at "z"
  refine ⟨p, q, rfl, hp, hq, e1, e2, fun g1 g2 a b c d n1 n2 hb hd => ?_⟩
  obtain ⟨⟨s1, s2, s3, s4⟩, k'⟩ := k g1 g2 a b c d n1 n2 hb hd
  refine w_gtup rfl rfl ?_
  walk_at "z"
  refine ⟨a, b, c, d, rfl, s1, s2, s3, s4, Int.ne_of_gt (Int.mul_pos hb hd), ?_⟩
  walk_at "z"
  exact ⟨_, _, rfl, k'⟩
theorem wp_times (AA : Ad) : ∀ ds M F FE, sp_times AA ds M F FE → t_times AA (fun C fs _ M => FE C fs M) { nx := fun _ M => F .non M, rt := F } (startD ["one", "other", "first", "second"] ds) M := by
  rintro ds M F FE ⟨p, q, rfl, hp, hq, e1, e2, k⟩
  unfold t_times
  walk_at "z"
  refine ⟨p, q, rfl, hp, hq, e1, e2, fun g1 g2 a b c d n1 n2 hb hd => ?_⟩
  obtain ⟨⟨s1, s2, s3, s4⟩, k'⟩ := k g1 g2 a b c d n1 n2 hb hd
  refine w_gtup rfl rfl ?_
  walk_at "z"
  refine ⟨a, b, c, d, rfl, s1, s2, s3, s4, Int.ne_of_gt (Int.mul_pos hb hd), ?_⟩
  walk_at "z"
  exact ⟨_, _, rfl, k'⟩
theorem wp_over (AA : Ad) : ∀ ds M F FE, sp_over AA ds M F FE → t_over AA (fun C fs _ M => FE C fs M) { nx := fun _ M => F .non M, rt := F } (startD ["one", "other", "first", "second"] ds) M := by
  rintro ds M F FE ⟨p, q, rfl, hp, hq, e1, e2, k⟩
  unfold t_over
  walk_at "z"
  refine ⟨p, q, rfl, hp, hq, e1, e2, fun g1 g2 a b c d n1 n2 hb hd => ?_⟩
  obtain ⟨k1, k2⟩ := k g1 g2 a b c d n1 n2 hb hd
  refine w_gtup rfl rfl ?_
  walk_at "z"
  refine w_ixT (x := .int c) rfl ?_
  walk_at "z"
  refine w_eq rfl ?_
  refine w_dec (fun z => ?_) (fun z => ?_)
  · refine w_raise ?_
    walk_at "z"
    exact k1 z
  · obtain ⟨⟨s1, s2, s3, s4⟩, k'⟩ := k2 z
    walk_at "z"
    refine ⟨a, b, c, d, rfl, s1, s2, s3, s4, Int.mul_ne_zero (Int.ne_of_gt hb) z, ?_⟩
    walk_at "z"
    exact ⟨_, _, rfl, k'⟩
theorem wp_is_less (AA : Ad) : ∀ ds M F FE, sp_is_less AA ds M F FE → t_is_less AA (fun C fs _ M => FE C fs M) { nx := fun _ M => F .non M, rt := F } (startD ["one", "other", "first", "second"] ds) M := by
  rintro ds M F FE ⟨p, q, rfl, hp, hq, e1, e2, k⟩
  unfold t_is_less
  walk_at "z"
  refine ⟨p, q, rfl, hp, hq, e1, e2, fun g1 g2 a b c d n1 n2 hb hd => ?_⟩
  obtain ⟨⟨s1, s2, s3, s4⟩, k'⟩ := k g1 g2 a b c d n1 n2 hb hd
  refine w_gtup rfl rfl ?_
  walk_at "z"
  exact ⟨a, b, c, d, rfl, s1, s2, s3, s4, k'⟩
theorem wp_distance (AA : Ad) : ∀ ds M F FE, sp_distance AA ds M F FE → t_distance AA (fun C fs _ M => FE C fs M) { nx := fun _ M => F .non M, rt := F } (startD ["one", "other", "first", "second"] ds) M := by
  rintro ds M F FE ⟨p, q, rfl, hp, hq, e1, e2, k⟩
  unfold t_distance
  walk_at "z"
  refine ⟨p, q, rfl, hp, hq, e1, e2, fun g1 g2 a b c d n1 n2 hb hd => ?_⟩
  obtain ⟨⟨s1, s2, s3, s4⟩, k'⟩ := k g1 g2 a b c d n1 n2 hb hd
  refine w_gtup rfl rfl ?_
  walk_at "z"
  refine ⟨a, b, c, d, rfl, s1, s2, s3, s4, ?_⟩
  walk_at "z"
  refine ⟨a, b, c, d, rfl, s1, s2, s3, s4, ?_⟩
  unfold farA at k'
  cases h : lessF a b c d with
  | true =>
    have h2 : lessF c d a b = false := by
      unfold lessF at h ⊢
      simp only [decide_eq_true_eq, decide_eq_false_iff_not] at h ⊢
      omega
    rw [h] at k'
    rw [h2, if_pos rfl, if_neg Bool.false_ne_true]
    rw [if_pos rfl] at k'
    walk_at "z"
    refine ⟨c, d, a, b, rfl, s3, s4, s1, s2, Int.ne_of_gt (Int.mul_pos hd hb), ?_⟩
    walk_at "z"
    refine ⟨_, _, rfl, ?_⟩
    rw [Int.mul_comm d b]
    exact k'
  | false =>
    rw [h, if_neg Bool.false_ne_true] at k'
    rw [if_neg Bool.false_ne_true]
    cases h2 : lessF c d a b with
    | true =>
      rw [if_pos rfl]
      walk_at "z"
      refine ⟨a, b, c, d, rfl, s1, s2, s3, s4, Int.ne_of_gt (Int.mul_pos hb hd), ?_⟩
      walk_at "z"
      exact ⟨_, _, rfl, k'⟩
    | false =>
      rw [if_neg Bool.false_ne_true]
      have e : a * d = c * b := by
        unfold lessF at h h2
        simp only [decide_eq_false_iff_not] at h h2
        omega
      walk_at "z"
      refine ⟨a, b, a, b, rfl, s1, s2, s1, s2, Int.ne_of_gt (Int.mul_pos hb hb), ?_⟩
      walk_at "z"
      refine ⟨_, _, rfl, ?_⟩
      have z1 : a * b - a * b = 0 := Int.sub_self _
      have z2 : a * d - c * b = 0 := by omega
      rw [z1]
      rw [z2] at k'
      have t : ∀ y : Int, 0 < y → tellD (nrmA 0 y) (nrmB 0 y) = .int 0 := fun y hy => by
        have hn : ¬ y < 0 := by omega
        have e1 : (Nat.gcd (0 : Int).natAbs y.natAbs : Int) = y := by simp; omega
        unfold tellD nrmA nrmB
        rw [if_neg hn, if_neg hn, e1, Int.ediv_self (by omega), if_pos rfl, Int.zero_ediv]
      rw [t _ (Int.mul_pos hb hd)] at k'
      rw [t _ (Int.mul_pos hb hb)]
      exact k'
theorem wp_ratio (AA : Ad) : ∀ ds M F FE, sp_ratio AA ds M F FE → t_ratio AA (fun C fs _ M => FE C fs M) { nx := fun _ M => F .non M, rt := F } (startD ["above", "below"] ds) M := by
  rintro ds M F FE ⟨p, q, rfl, hp, hq, e1, e2, k⟩
  unfold t_ratio
  walk_at "z"
  refine f1_do hp ?_
  walk_at "z"
  cases h1 : isIntB p with
  | false =>
    refine w_true ?_
    refine w_raise ?_
    walk_at "z"
    exact e1 h1
  | true =>
    refine w_false ?_
    walk_at "z"
    refine f1_do hq ?_
    walk_at "z"
    cases h2 : isIntB q with
    | false =>
      refine w_true ?_
      refine w_true ?_
      refine w_raise ?_
      walk_at "z"
      exact e2 h1 (.inl h2)
    | true =>
      obtain ⟨a, rfl⟩ : ∃ a, p = .int a := by cases p <;> first | exact ⟨_, rfl⟩ | cases h1
      obtain ⟨b, rfl⟩ : ∃ b, q = .int b := by cases q <;> first | exact ⟨_, rfl⟩ | cases h2
      refine w_false ?_
      walk_at "z"
      refine w_eq rfl ?_
      refine w_dec (fun z => ?_) (fun z => ?_)
      · refine w_raise ?_
        walk_at "z"
        exact e2 h1 (.inr (by rw [z]))
      · walk_at "z"
        obtain ⟨sz, k'⟩ := k a b rfl rfl z
        refine ⟨a, b, rfl, z, sz, ?_⟩
        walk_at "z"
        exact ⟨_, _, rfl, k'⟩
/-! ### the law's own reckoning -/
def sp__law_low (AA : Ad) : SpD := fun ds M F _ => ∃ a b : Int, ds = [.int a, .int b] ∧ b ≠ 0 ∧ Sz 1800 b ∧ F (frD (nrmA a b) (nrmB a b)) M
def sp__law_told (AA : Ad) : SpD := fun ds M F _ => ∃ a b : Int, ds = [frD a b] ∧ b ≠ 0 ∧ Sz 1800 b ∧ F (tellD (nrmA a b) (nrmB a b)) M
def t__law_low (AA : Ad) : TSD := (tSeqD (tParD 2 3 (tConsD (tCBD rdAbs (tConsD (tVarD 0) tNilD)) (tConsD (tCBD rdAbs (tConsD (tVarD 1) tNilD)) tNilD)))
  (tSeqD (tWhileD (tTestB (tOpD (rdB fun i j => decide (j < i)) (tVarD 3) (tCD (.int 0))))
    (tParD 2 3 (tConsD (tVarD 3) (tConsD (tOpD (rdIC (fun _ j => 0 < j) fun i j => i % j) (tCBD rdInt (tConsD (tVarD 2) tNilD)) (tVarD 3)) tNilD))))
  (tSeqD (tSetD 4 (tIfE (tTestB (tOpD (rdB fun i j => decide (j < i)) (tVarD 1) (tCD (.int 0)))) (tCD (.int 1)) (tUnD rdNeg (tCD (.int 1)))))
  (tRetD (tTupD (tConsD (tOpD (rdIC DivOk fun i j => i.fdiv j) (tOpD rdMul (tVarD 4) (tVarD 0)) (tVarD 2)) (tConsD (tOpD (rdIC DivOk fun i j => i.fdiv j) (tOpD rdMul (tVarD 4) (tVarD 1)) (tVarD 2)) tNilD)))))))
def t__law_told (AA : Ad) : TSD := (tSeqD (tAsgD (tCallD (sp__law_low AA) (tConsD (tOpD rdIx (tVarD 0) (tCD (.int 0))) (tConsD (tOpD rdIx (tVarD 0) (tCD (.int 1))) tNilD))) (gTupD 2 (gConsD (gNameD 1) (gConsD (gNameD 2) gNilD))))
  (tRetD (tIfE (tTestB (tOpD rdEq (tVarD 2) (tCD (.int 1)))) (tVarD 1) (tTupD (tConsD (tVarD 1) (tConsD (tVarD 2) tNilD))))))
theorem wp__law_low (AA : Ad) : ∀ ds M F FE, sp__law_low AA ds M F FE → t__law_low AA (fun C fs _ M => FE C fs M) { nx := fun _ M => F .non M, rt := F } (startD ["_law_above", "_law_below", "_law_one", "_law_other", "_law_sign"] ds) M := by
  rintro ds M F FE ⟨a, b, rfl, hb, sz, k⟩
  unfold t__law_low
  walk_at "z"
  refine ⟨fun τ' M' => M' = M ∧ ∃ x y : Nat, τ' = [some (.int a), some (.int b), some (.int x), some (.int y), none] ∧ Nat.gcd x y = Nat.gcd a.natAbs b.natAbs, fun τ' _ => match τ' with | [_, _, _, some (.int y), _] => y.toNat | _ => 0, ⟨rfl, a.natAbs, b.natAbs, ?_, rfl⟩, ?_⟩
  · have ab : ∀ z : Int, (if z < 0 then -z else z) = (z.natAbs : Int) := fun z => by split <;> omega
    show [some (D.int a), some (D.int b), some (D.int _), some (D.int _), none] = _
    rw [ab, ab]
  · rintro τ' M' ⟨rfl, x, y, rfl, g⟩
    walk_at "z"
    refine w_dec (fun c => ?_) (fun c => ?_)
    · walk_at "z"
      refine w_rdIC c ?_
      walk_at "z"
      have e : (x : Int) % (y : Int) = ((x % y : Nat) : Int) := by omega
      refine ⟨⟨rfl, y, x % y, by rw [e]; rfl, ?_⟩, ?_⟩
      · rw [← g, Nat.gcd_comm x y, Nat.gcd_rec y x, Nat.gcd_comm]
      · show ((x : Int) % (y : Int)).toNat < (y : Int).toNat
        rw [e]
        have := Nat.mod_lt x (show 0 < y by omega)
        omega
    · have y0 : y = 0 := by omega
      subst y0
      rw [Nat.gcd_zero_right] at g
      subst g
      have g0 := gcd_pos (a := a) hb
      have gz : Sz 1800 (Nat.gcd a.natAbs b.natAbs : Int) := sz.le (by
        have := Nat.gcd_le_right a.natAbs (show 0 < b.natAbs by omega)
        omega)
      have dv : ∀ x, DivOk x (Nat.gcd a.natAbs b.natAbs : Int) := fun x => gz.div (by omega) (by decide) x
      unfold nrmA nrmB at k
      walk_at "z"
      refine w_dec (fun c2 => ?_) (fun c2 => ?_)
      · walk_at "z"
        refine w_rdMul (mulOk_l ⟨by omega, by omega⟩) ?_
        walk_at "z"
        refine w_rdIC (dv _) ?_
        walk_at "z"
        refine w_rdMul (mulOk_l ⟨by omega, by omega⟩) ?_
        walk_at "z"
        refine w_rdIC (dv _) ?_
        walk_at "z"
        refine w_small (by show 2 ≤ 16777216; decide) ?_
        rw [Int.one_mul, Int.one_mul, fdiv_pos' g0, fdiv_pos' g0]
        rw [if_neg (by omega), if_neg (by omega)] at k
        exact k
      · walk_at "z"
        refine w_rdMul (mulOk_l ⟨by omega, by omega⟩) ?_
        walk_at "z"
        refine w_rdIC (dv _) ?_
        walk_at "z"
        refine w_rdMul (mulOk_l ⟨by omega, by omega⟩) ?_
        walk_at "z"
        refine w_rdIC (dv _) ?_
        walk_at "z"
        refine w_small (by show 2 ≤ 16777216; decide) ?_
        have e : ∀ x : Int, -1 * x = -x := fun x => by omega
        rw [e, e, fdiv_pos' g0, fdiv_pos' g0]
        rw [if_pos (by omega), if_pos (by omega)] at k
        exact k
theorem wp__law_told (AA : Ad) : ∀ ds M F FE, sp__law_told AA ds M F FE → t__law_told AA (fun C fs _ M => FE C fs M) { nx := fun _ M => F .non M, rt := F } (startD ["_law_pair_here", "_law_above", "_law_below"] ds) M := by
  rintro ds M F FE ⟨a, b, rfl, hb, sz, k⟩
  unfold t__law_told frD
  walk_at "z"
  refine w_ixT (x := .int a) rfl ?_
  walk_at "z"
  refine w_ixT (x := .int b) rfl ?_
  walk_at "z"
  refine ⟨a, b, rfl, hb, sz, ?_⟩
  refine w_gtup rfl rfl ?_
  walk_at "z"
  refine w_eq rfl ?_
  unfold tellD at k
  refine w_dec (fun c => ?_) (fun c => ?_)
  · rw [if_pos c] at k
    walk_at "z"
    exact k
  · rw [if_neg c] at k
    walk_at "z"
    exact w_small (by show 2 ≤ 16777216; decide) k
def spg__law_heard (AA : Ad) : SpG := fun tl M F _ => ∀ (E : ED) (Q : QD), (∀ p M', F (.tup [.str "number", p]) M' → E AA.c_BadNumber [("part", p)] M') → (∀ p M', F (.tup [.str "misfit", p]) M' → E AA.c_Misfit [("part", p)] M') → (∀ d M', F .non M' → Q d M') → tl E M Q
def t__law_heard (AA : Ad) (f_ : Addr) (tl_ : ED → MH → QD → Prop) : TSD := (tSeqD (tSetD 1 (tCD .non))
  (tSeqD (tTryK (subV AA.all) 2 1
    (tDropD (tActD f_ tl_)))
  (tSeqD (tIfD (tTruD (tIs (isE2 AA.all AA.c_LaneError AA.c_BadNumber AA.c_Misfit) (tVarD 1)))
    (tRetD (tTupD (tConsD (tIfE (tTruD (tIs (isE (subX AA.all AA.c_LaneError AA.c_BadNumber)) (tVarD 1))) (tCD (.str "number")) (tCD (.str "misfit"))) (tConsD (tFldA AA.all "part" (tVarD 1)) tNilD))))
    tNextD)
  (tRetD (tIfE (tTestB (tIsND (tVarD 1))) (tCD .non) (tTupD (tConsD (tCD (.str "other")) (tConsD (tCD .non) tNilD))))))))
theorem wp__law_heard (AA : Ad) (nd : (AA.c_LaneError :: AA.all).Nodup) : ∀ f_ tl_ M F FE, spg__law_heard AA tl_ M F FE → t__law_heard AA f_ tl_ (fun C fs _ M => FE C fs M) { nx := fun _ M => F .non M, rt := F } (startD ["_law_ask", "_law_caught", "error"] [.ref f_]) M := by
  rintro f_ tl_ M F FE h
  have n12 : AA.c_BadNumber ≠ AA.c_Misfit := by
    have h2 := (List.nodup_cons.mp nd).2
    unfold Ad.all at h2
    exact fun z => (List.nodup_cons.mp h2).1 (by rw [z]; exact List.mem_cons_self)
  have nL : AA.c_LaneError ∉ AA.all := (List.nodup_cons.mp nd).1
  have nL1 : AA.c_BadNumber ≠ AA.c_LaneError := fun z => nL (z ▸ in_BadNumber AA)
  have i1 : AA.c_BadNumber ∈ AA.all := in_BadNumber AA
  have i2 : AA.c_Misfit ∈ AA.all := in_Misfit AA
  have m1 : ∀ fs, isE2 AA.all AA.c_LaneError AA.c_BadNumber AA.c_Misfit (.exn AA.c_BadNumber fs) = some true := fun fs => by unfold isE2; dsimp only; rw [if_pos i1]; simp
  have m2 : ∀ fs, isE2 AA.all AA.c_LaneError AA.c_BadNumber AA.c_Misfit (.exn AA.c_Misfit fs) = some true := fun fs => by unfold isE2; dsimp only; rw [if_pos i2]; simp
  have s1 : ∀ fs, isE (subX AA.all AA.c_LaneError AA.c_BadNumber) (.exn AA.c_BadNumber fs) = some true := fun fs => by show subX _ _ _ _ = _; rw [subX_in i1]; simp
  have s2 : ∀ fs, isE (subX AA.all AA.c_LaneError AA.c_BadNumber) (.exn AA.c_Misfit fs) = some false := fun fs => by show subX _ _ _ _ = _; rw [subX_in i2]; simp [Ne.symm n12, nL1]
  unfold t__law_heard
  walk_at "z"
  refine w_tryK ?_
  walk_at "z"
  refine ⟨rfl, h _ _ (fun p M' k => try_in i1 ⟨by show 2 < 3; decide, ?_⟩) (fun p M' k => try_in i2 ⟨by show 2 < 3; decide, ?_⟩) (fun d M' k => ?_)⟩
  · walk_at "z"
    rw [m1]
    walk_at "z"
    rw [s1]
    walk_at "z"
    refine w_fldA ?_
    walk_at "z"
    refine ⟨i1, ?_⟩
    rw [show List.lookup ("part" : Str) ([("part", p)] : List (Str × D)) = some p from rfl]
    walk_at "z"
    exact w_small (by show 2 ≤ 16777216; decide) k
  · walk_at "z"
    rw [m2]
    walk_at "z"
    rw [s2]
    walk_at "z"
    refine w_fldA ?_
    walk_at "z"
    refine ⟨i2, ?_⟩
    rw [show List.lookup ("part" : Str) ([("part", p)] : List (Str × D)) = some p from rfl]
    walk_at "z"
    exact w_small (by show 2 ≤ 16777216; decide) k
  · walk_at "z"
    rw [show isE2 AA.all AA.c_LaneError AA.c_BadNumber AA.c_Misfit .non = some false from rfl]
    walk_at "z"
    exact k
/-! ### rows of numbers -/
def badRow (v : D) : Bool := match seqD v with | some xs => xs.isEmpty || !(xs.all isNumB) | none => true
def frOf (d : D) : D := match numV d with | some (a, b) => frD a b | none => .non
def sp_all_raw (AA : Ad) : SpD := fun ds M F E => ∃ v : D, ds = [v] ∧ plainD v = true ∧ (∀ xs, seqD v = some xs → xs.length ≤ 16777216) ∧ (badRow v = true → E AA.c_BadNumber [("part", .str "values")] M) ∧ ∀ xs, seqD v = some xs → badRow v = false → F (.lst (xs.map frOf)) M
def t_all_raw (AA : Ad) : TSD := (tSeqD (tIfD (tOrD (tNotD (tTruD (tIs (isTag2 .list .tuple) (tVarD 0)))) (tTestB (tOpD rdEq (tCBD rdLen (tConsD (tVarD 0) tNilD)) (tCD (.int 0)))))
    (tRaiseD AA.c_BadNumber (fl1 "part") (tConsD (tCD (.str "values")) tNilD))
    tNextD)
  (tSeqD (tIfD (tNotD (tTruD (tCBD rdAll (tConsD (tLcD (iSeqD (tVarD 0)) (gNameD 1) tYesD (tCallD (sp_is_number AA) (tConsD (tVarD 1) tNilD)) [1]) tNilD))))
    (tRaiseD AA.c_BadNumber (fl1 "part") (tConsD (tCD (.str "values")) tNilD))
    tNextD)
  (tRetD (tLcD (iSeqD (tVarD 0)) (gNameD 1) tYesD (tCallD (sp_raw AA) (tConsD (tVarD 1) tNilD)) [1]))))
theorem blsD_map (xs : List D) (f : D → Bool) : blsD (xs.map fun d => .bl (f d)) = some (xs.map f) := by
  induction xs with
  | nil => rfl
  | cons x xs ih => simp only [List.map_cons, blsD, ih, Option.map_some]
theorem wp_all_raw (AA : Ad) : ∀ ds M F FE, sp_all_raw AA ds M F FE → t_all_raw AA (fun C fs _ M => FE C fs M) { nx := fun _ M => F .non M, rt := F } (startD ["values", "value"] ds) M := by
  rintro ds M F FE ⟨v, rfl, hp, hl, e, k⟩
  unfold t_all_raw
  walk_at "z"
  cases hs : seqD v with
  | none =>
    rw [tag_lt hp, hs]
    dsimp only [Option.isSome]
    walk_at "z"
    refine w_true ?_
    refine w_true ?_
    refine w_raise ?_
    walk_at "z"
    exact e (by unfold badRow; rw [hs])
  | some xs =>
    have hv := (show v = .lst xs ∨ v = .tup xs by cases v <;> cases hs <;> simp)
    have hxs : plainDs xs = true := seq_plain hp hs
    have ln : ∀ (Q : QD), Q (.int xs.length) M → rdLen [v] M Q := fun Q q => by rcases hv with rfl | rfl; exact w_lenL q; exact w_lenT q
    have row : ∀ (QA : List D → MH → Prop), QA xs M → iSeqD (tVarD 0) (fun C fs _ M => FE C fs M) (startD ["values", "value"] [v]) M QA := fun QA q => by
      refine w_seqI ?_
      refine w_var rfl ?_
      rw [hs]
      exact q
    rw [tag_lt hp, hs]
    dsimp only [Option.isSome]
    walk_at "z"
    refine w_false ?_
    walk_at "z"
    refine ln _ ?_
    walk_at "z"
    refine w_eq rfl ?_
    refine w_dec (fun c => ?_) (fun c => ?_)
    · refine w_raise ?_
      walk_at "z"
      refine e ?_
      unfold badRow
      rw [hs]
      have : xs = [] := List.eq_nil_of_length_eq_zero (by omega)
      subst this
      rfl
    · walk_at "z"
      refine lc_pure xs (fun d => .bl (isNumB d)) (fun _ => true) (hl xs hs) M ?_ ?_ row
      · intro x hx M2 R r
        walk_at "z"
        refine r _ (fun R2 h => h) fun _ R3 h => ?_
        walk_at "z"
        exact f1_do (plainDs_iff.mp hxs x hx) h
      · rw [List.filter_eq_self.mpr (fun _ _ => rfl)]
        walk_at "z"
        unfold rdAll
        dsimp only
        rw [blsD_map]
        dsimp only
        walk_at "z"
        have ea : (xs.map isNumB).all id = xs.all isNumB := by rw [List.all_map]; rfl
        rw [ea]
        cases hb : xs.all isNumB with
        | false =>
          refine w_true ?_
          refine w_raise ?_
          walk_at "z"
          exact e (by unfold badRow; rw [hs]; simp only [hb, Bool.not_false, Bool.or_true])
        | true =>
          refine w_false ?_
          walk_at "z"
          have hb' : badRow v = false := by
            unfold badRow
            rw [hs]
            have : xs.isEmpty = false := by cases xs with | nil => simp at c | cons _ _ => rfl
            simp only [hb, this, Bool.not_true, Bool.or_false]
          refine lc_pure xs frOf (fun _ => true) (hl xs hs) M ?_ ?_ row
          · intro x hx M2 R r
            walk_at "z"
            refine r _ (fun R2 h => h) fun _ R3 h => ?_
            walk_at "z"
            obtain ⟨a, b, n, _⟩ := num_val (List.all_eq_true.mp hb x hx)
            have ef : frOf x = frD a b := by unfold frOf; rw [n]
            rw [ef] at h
            exact raw_do n h
          · rw [List.filter_eq_self.mpr (fun _ _ => rfl)]
            exact k xs hs hb'
/-! ### the least, the greatest -/
def lessP (p q : Int × Int) : Bool := lessF p.1 p.2 q.1 q.2
def minP (p q : Int × Int) : Int × Int := if lessP q p then q else p
def maxP (p q : Int × Int) : Int × Int := if lessP p q then q else p
def frP (p : Int × Int) : D := frD p.1 p.2
def spFold (AA : Ad) (g : Int × Int → Int × Int → Int × Int) : SpD := fun ds M F E => ∃ v : D, ds = [v] ∧ plainD v = true ∧ (∀ xs, seqD v = some xs → xs.length ≤ 16777216) ∧ (badRow v = true → E AA.c_BadNumber [("part", .str "values")] M) ∧
  ∀ xs, seqD v = some xs → badRow v = false → ∃ p ps, xs.map frOf = (p :: ps).map frP ∧ (∀ r ∈ p :: ps, Sz 800 r.1 ∧ Sz 800 r.2) ∧ F (tellD ((p :: ps).foldl g p).1 ((p :: ps).foldl g p).2) M
def sp_least (AA : Ad) : SpD := spFold AA minP
def sp_greatest (AA : Ad) : SpD := spFold AA maxP
def t_least (AA : Ad) : TSD := (tSeqD (tSetD 1 (tCallD (sp_all_raw AA) (tConsD (tVarD 0) tNilD)))
  (tSeqD (tSetD 2 (tOpD rdIx (tVarD 1) (tCD (.int 0))))
  (tSeqD (tForD (iSeqD (tVarD 1)) (gNameD 3)
    (tSetD 2 (tCallD (sp_smaller AA) (tConsD (tVarD 2) (tConsD (tVarD 3) tNilD)))))
  (tRetD (tCallD (sp_told AA) (tConsD (tVarD 2) tNilD))))))
def t_greatest (AA : Ad) : TSD := (tSeqD (tSetD 1 (tCallD (sp_all_raw AA) (tConsD (tVarD 0) tNilD)))
  (tSeqD (tSetD 2 (tOpD rdIx (tVarD 1) (tCD (.int 0))))
  (tSeqD (tForD (iSeqD (tVarD 1)) (gNameD 3)
    (tSetD 2 (tCallD (sp_greater AA) (tConsD (tVarD 2) (tConsD (tVarD 3) tNilD)))))
  (tRetD (tCallD (sp_told AA) (tConsD (tVarD 2) tNilD))))))
theorem fold_mem {g : Int × Int → Int × Int → Int × Int} (hg : ∀ p q, g p q = p ∨ g p q = q) {Q : Int × Int → Prop} : ∀ (l : List (Int × Int)) (p : Int × Int), Q p → (∀ r ∈ l, Q r) → Q (l.foldl g p)
  | [], _, h, _ => h
  | x :: l, p, h, hl => fold_mem hg l _ (by rcases hg p x with e | e <;> rw [e]; exact h; exact hl x List.mem_cons_self) fun r hr => hl r (List.mem_cons_of_mem _ hr)
theorem wp_least (AA : Ad) : ∀ ds M F FE, sp_least AA ds M F FE → t_least AA (fun C fs _ M => FE C fs M) { nx := fun _ M => F .non M, rt := F } (startD ["values", "fractions", "found", "fraction"] ds) M := by
  rintro ds M F FE ⟨v, rfl, hp, hl, e, k⟩
  unfold t_least
  walk_at "z"
  refine ⟨v, rfl, hp, hl, e, fun xs hs hb => ?_⟩
  obtain ⟨p, ps, hx, sz, k'⟩ := k xs hs hb
  rw [hx]
  have hg : ∀ p q, minP p q = p ∨ minP p q = q := fun p q => by unfold minP; split <;> simp
  walk_at "z"
  refine w_ixL (x := frP p) (by exact atI_nat (by rfl)) ?_
  walk_at "z"
  refine w_for ?_
  walk_at "z"
  refine ⟨fun i τ' M' => M' = M ∧ ∃ x3, τ' = [some v, some (.lst ((p :: ps).map frP)), some (frP (((p :: ps).take i).foldl minP p)), x3], ⟨rfl, none, rfl⟩, ?_, ?_⟩
  · rintro i x τ' M' hi ⟨rfl, x3, rfl⟩
    rw [List.getElem?_map] at hi
    cases hr : (p :: ps)[i]? with
    | none => rw [hr] at hi; cases hi
    | some r =>
      rw [hr] at hi
      cases hi
      have s1 : Sz 800 (((p :: ps).take i).foldl minP p).1 ∧ Sz 800 (((p :: ps).take i).foldl minP p).2 := fold_mem hg (Q := fun r => Sz 800 r.1 ∧ Sz 800 r.2) _ _ (sz p List.mem_cons_self) fun r hr => sz r (List.mem_of_mem_take hr)
      have s2 := sz r (List.mem_of_getElem? hr)
      walk_at "z"
      refine ⟨_, _, r.1, r.2, rfl, s1.1, s1.2, s2.1, s2.2, ?_⟩
      walk_at "z"
      refine ⟨rfl, some (frP r), ?_⟩
      have et : (p :: ps).take (i + 1) = (p :: ps).take i ++ [r] := by rw [List.take_add_one, hr]; rfl
      rw [et, List.foldl_append, List.foldl_cons, List.foldl_nil]
      have em : (if lessF r.1 r.2 (((p :: ps).take i).foldl minP p).1 (((p :: ps).take i).foldl minP p).2 then frD r.1 r.2 else frD (((p :: ps).take i).foldl minP p).1 (((p :: ps).take i).foldl minP p).2) = frP (minP (((p :: ps).take i).foldl minP p) r) := by
        unfold minP lessP frP
        split <;> rfl
      rw [em]
      rfl
  · rintro τ' M' ⟨rfl, x3, rfl⟩
    walk_at "z"
    refine ⟨_, _, rfl, ?_⟩
    rw [List.length_map, List.take_length]
    exact k'
theorem wp_greatest (AA : Ad) : ∀ ds M F FE, sp_greatest AA ds M F FE → t_greatest AA (fun C fs _ M => FE C fs M) { nx := fun _ M => F .non M, rt := F } (startD ["values", "fractions", "found", "fraction"] ds) M := by
  rintro ds M F FE ⟨v, rfl, hp, hl, e, k⟩
  unfold t_greatest
  walk_at "z"
  refine ⟨v, rfl, hp, hl, e, fun xs hs hb => ?_⟩
  obtain ⟨p, ps, hx, sz, k'⟩ := k xs hs hb
  rw [hx]
  have hg : ∀ p q, maxP p q = p ∨ maxP p q = q := fun p q => by unfold maxP; split <;> simp
  walk_at "z"
  refine w_ixL (x := frP p) (by exact atI_nat (by rfl)) ?_
  walk_at "z"
  refine w_for ?_
  walk_at "z"
  refine ⟨fun i τ' M' => M' = M ∧ ∃ x3, τ' = [some v, some (.lst ((p :: ps).map frP)), some (frP (((p :: ps).take i).foldl maxP p)), x3], ⟨rfl, none, rfl⟩, ?_, ?_⟩
  · rintro i x τ' M' hi ⟨rfl, x3, rfl⟩
    rw [List.getElem?_map] at hi
    cases hr : (p :: ps)[i]? with
    | none => rw [hr] at hi; cases hi
    | some r =>
      rw [hr] at hi
      cases hi
      have s1 : Sz 800 (((p :: ps).take i).foldl maxP p).1 ∧ Sz 800 (((p :: ps).take i).foldl maxP p).2 := fold_mem hg (Q := fun r => Sz 800 r.1 ∧ Sz 800 r.2) _ _ (sz p List.mem_cons_self) fun r hr => sz r (List.mem_of_mem_take hr)
      have s2 := sz r (List.mem_of_getElem? hr)
      walk_at "z"
      refine ⟨_, _, r.1, r.2, rfl, s1.1, s1.2, s2.1, s2.2, ?_⟩
      walk_at "z"
      refine ⟨rfl, some (frP r), ?_⟩
      have et : (p :: ps).take (i + 1) = (p :: ps).take i ++ [r] := by rw [List.take_add_one, hr]; rfl
      rw [et, List.foldl_append, List.foldl_cons, List.foldl_nil]
      have em : (if lessF (((p :: ps).take i).foldl maxP p).1 (((p :: ps).take i).foldl maxP p).2 r.1 r.2 then frD r.1 r.2 else frD (((p :: ps).take i).foldl maxP p).1 (((p :: ps).take i).foldl maxP p).2) = frP (maxP (((p :: ps).take i).foldl maxP p) r) := by
        unfold maxP lessP frP
        split <;> rfl
      rw [em]
      rfl
  · rintro τ' M' ⟨rfl, x3, rfl⟩
    walk_at "z"
    refine ⟨_, _, rfl, ?_⟩
    rw [List.length_map, List.take_length]
    exact k'
/-! ### what is drawn -/
theorem nrm_ok {x y : Int} (h : y ≠ 0) : 0 < nrmB x y ∧ Nat.gcd (nrmA x y).natAbs (nrmB x y).natAbs = 1 ∧ (nrmA x y).natAbs ≤ x.natAbs ∧ (nrmB x y).natAbs ≤ y.natAbs := by
  have g0 : 0 < Nat.gcd x.natAbs y.natAbs := Nat.gcd_pos_of_pos_right _ (by omega)
  have ea : (nrmA x y).natAbs = x.natAbs / Nat.gcd x.natAbs y.natAbs := by
    unfold nrmA
    split
    · rw [Int.natAbs_ediv_of_dvd ((Int.dvd_neg).mpr (gcd_dl x y)), Int.natAbs_neg, Int.natAbs_natCast]
    · rw [Int.natAbs_ediv_of_dvd (gcd_dl x y), Int.natAbs_natCast]
  have eb : (nrmB x y).natAbs = y.natAbs / Nat.gcd x.natAbs y.natAbs := by
    unfold nrmB
    split
    · rw [Int.natAbs_ediv_of_dvd ((Int.dvd_neg).mpr (gcd_dr x y)), Int.natAbs_neg, Int.natAbs_natCast]
    · rw [Int.natAbs_ediv_of_dvd (gcd_dr x y), Int.natAbs_natCast]
  refine ⟨?_, ?_, ?_, ?_⟩
  · have nn : 0 ≤ nrmB x y := by
      unfold nrmB
      split
      · exact Int.ediv_nonneg (by omega) (by omega)
      · exact Int.ediv_nonneg (by omega) (by omega)
    have pos : 0 < (nrmB x y).natAbs := by
      rw [eb]
      exact Nat.div_pos (Nat.gcd_le_right _ (by omega)) g0
    omega
  · rw [ea, eb]
    rw [Nat.gcd_div (Nat.gcd_dvd_left _ _) (Nat.gcd_dvd_right _ _), Nat.div_self g0]
  · rw [ea]; exact Nat.div_le_self _ _
  · rw [eb]; exact Nat.div_le_self _ _
theorem nrm_id {a b : Int} (h : 0 < b) (g : Nat.gcd a.natAbs b.natAbs = 1) : nrmA a b = a ∧ nrmB a b = b := by
  unfold nrmA nrmB
  rw [if_neg (by omega), if_neg (by omega), g]
  simp
/-- a fraction in its one form -/
def IsF (a b : Int) : Prop := 0 < b ∧ Nat.gcd a.natAbs b.natAbs = 1
def sp__law_number (AA : Ad) : SpD := spDraw 4 (fun r => r = []) (fun _ d => ∃ a b : Int, d = frD a b ∧ IsF a b ∧ Sz 110 a ∧ Sz 110 b)
def sp__law_handed (AA : Ad) : SpD := spDraw 1 (fun r => ∃ a b : Int, r = [frD a b] ∧ IsF a b ∧ Sz 800 b) (fun r d => ∃ a b : Int, r = [frD a b] ∧ (d = tellD a b ∨ d = .lst [.int a, .int b]) ∧ (b = 1 → d = .int a))
def t__law_string (AA : Ad) : TSD := (tSeqD (tIfD (tTestB (tOpD (rdB fun i j => decide (j < i)) (tOpD rdIx (tVarD 0) (tCD (.int 2))) (tCD (.int 0))))
    (tSeqD (tSetD 2 (tCBD rdInt (tConsD (tOpD rdIx (tVarD 0) (tCD (.int 2))) tNilD)))
  (tSeqD (tSetIx (tOpD (rdIC DivOk fun i j => i.fdiv j) (tVarD 2) (tVarD 1)) (tVarD 0) (tCD (.int 2)))
  (tRetD (tOpD (rdIC (fun _ j => 0 < j) fun i j => i % j) (tCBD rdInt (tConsD (tVarD 2) tNilD)) (tVarD 1)))))
    tNextD)
  (tSeqD (tSetD 3 (tOpD rdIx (tVarD 0) (tCD (.int 1))))
  (tSeqD (tSetIx (tOpD rdAdd (tVarD 3) (tCD (.int 1))) (tVarD 0) (tCD (.int 1)))
  (tSeqD (tSetD 4 (tOpD rdAdd (tOpD rdMul (tCD (.int 108149)) (tVarD 3)) (tCD (.int 8147))))
  (tSeqD (tIfD (tTestB (tOpD rdNe (tOpD rdIx (tVarD 0) (tCD (.int 0))) (tLstD tNilD)))
    (tSetD 4 (tOpD rdIx (tOpD rdIx (tVarD 0) (tCD (.int 0))) (tOpD (rdIC (fun _ j => 0 < j) fun i j => i % j) (tCBD rdInt (tConsD (tVarD 3) tNilD)) (tCBD rdLen (tConsD (tOpD rdIx (tVarD 0) (tCD (.int 0))) tNilD)))))
    tNextD)
  (tSeqD (tIfD (tAndD (tTestB (tOpD (rdB fun i j => decide (i < j)) (tVarD 3) (tCBD rdLen (tConsD (tOpD rdIx (tVarD 0) (tCD (.int 0))) tNilD)))) (tTestB (tOpD (rdB fun i j => decide (j ≤ i)) (tCBD rdAbs (tConsD (tVarD 4) tNilD)) (tOpD (rdIC CPow fun i j => i ^ j.toNat) (tCD (.int 10)) (tCD (.int 18))))))
    (tSeqD (tSetD 2 (tOpD rdAdd (tOpD rdMul (tCD (.int 2)) (tOpD (rdI fun i j => i - j) (tCBD rdAbs (tConsD (tCBD rdInt (tConsD (tVarD 4) tNilD)) tNilD)) (tOpD (rdIC CPow fun i j => i ^ j.toNat) (tCD (.int 10)) (tCD (.int 18))))) (tCBD rdInt (tConsD (tOpD (rdB fun i j => decide (i < j)) (tVarD 4) (tCD (.int 0))) tNilD))))
  (tSeqD (tSetIx (tOpD (rdIC DivOk fun i j => i.fdiv j) (tVarD 2) (tVarD 1)) (tVarD 0) (tCD (.int 2)))
  (tRetD (tOpD (rdIC (fun _ j => 0 < j) fun i j => i % j) (tCBD rdInt (tConsD (tVarD 2) tNilD)) (tVarD 1)))))
    tNextD)
  (tSeqD (tSetD 5 (tOpD (rdIC (fun _ j => 0 < j) fun i j => i % j) (tCBD rdInt (tConsD (tOpD (rdIC CPow fun i j => i ^ j.toNat) (tOpD rdAdd (tOpD rdAdd (tOpD (rdIC (fun _ j => 0 < j) fun i j => i % j) (tCBD rdInt (tConsD (tVarD 4) tNilD)) (tCD (.int 2147483587))) (tOpD rdMul (tCD (.int 85133)) (tVarD 3))) (tCD (.int 8147))) (tCD (.int 5))) tNilD)) (tCD (.int 2147483563))))
  (tSeqD (tSetD 5 (tOpD (rdIC (fun _ j => 0 < j) fun i j => i % j) (tCBD rdInt (tConsD (tOpD (rdIC CPow fun i j => i ^ j.toNat) (tOpD rdAdd (tOpD rdAdd (tOpD rdMul (tVarD 5) (tOpD rdAdd (tOpD rdMul (tCD (.int 2)) (tVarD 3)) (tCD (.int 8147)))) (tOpD rdMul (tOpD rdMul (tCD (.int 108149)) (tVarD 3)) (tVarD 3))) (tCD (.int 85133))) (tCD (.int 3))) tNilD)) (tCD (.int 2147483549))))
  (tRetD (tOpD (rdIC (fun _ j => 0 < j) fun i j => i % j) (tCBD rdInt (tConsD (tOpD (rdIC DivOk fun i j => i.fdiv j) (tVarD 5) (tCD (.int 32))) tNilD)) (tVarD 1)))))))))))
def t__law_pick (AA : Ad) : TSD := (tRetD (tOpD rdIx (tVarD 1) (tCallD spSieve (tConsD (tVarD 0) (tConsD (tCBD rdLen (tConsD (tVarD 1) tNilD)) tNilD)))))
def t__law_bead (AA : Ad) : TSD := (tRetD (tLstM (tConsD (tLcD (iSeqD (tSlD (tVarD 0) tNoPartD (tPartD (tCD (.int 60))))) (gNameD 1) tYesD (tCBD rdInt (tConsD (tVarD 1) tNilD)) [1]) (tConsD (tCD (.int 0)) (tConsD (tCD (.int 0)) tNilD)))))
def t__law_handed (AA : Ad) : TSD := (tSeqD (tSetD 2 (tCallD (sp__law_told AA) (tConsD (tVarD 1) tNilD)))
  (tRetD (tIfE (tAndD (tTruD (tIs (isTag .tuple) (tVarD 2))) (tTestB (tOpD rdEq (tCallD spSieve (tConsD (tVarD 0) (tConsD (tCD (.int 2)) tNilD))) (tCD (.int 0))))) (tCBD rdListOf (tConsD (tVarD 2) tNilD)) (tVarD 2))))
def t__law_number (AA : Ad) : TSD := (tSeqD (tSetD 1 (tCallD spPick (tConsD (tVarD 0) (tConsD (tLstD (tConsD (tCD (.int 3)) (tConsD (tCD (.int 12)) (tConsD (tCD (.int 100)) (tConsD (tOpD (rdIC CPow fun i j => i ^ j.toNat) (tCD (.int 10)) (tCD (.int 6))) (tConsD (tOpD (rdIC CPow fun i j => i ^ j.toNat) (tCD (.int 10)) (tCD (.int 30))) tNilD)))))) tNilD))))
  (tSeqD (tParD 2 3 (tConsD (tOpD (rdI fun i j => i - j) (tCallD spSieve (tConsD (tVarD 0) (tConsD (tOpD rdAdd (tOpD rdMul (tCD (.int 2)) (tVarD 1)) (tCD (.int 1))) tNilD))) (tVarD 1)) (tConsD (tOpD rdAdd (tCD (.int 1)) (tCallD spSieve (tConsD (tVarD 0) (tConsD (tCallD spPick (tConsD (tVarD 0) (tConsD (tLstD (tConsD (tCD (.int 1)) (tConsD (tCD (.int 4)) (tConsD (tCD (.int 9)) (tConsD (tVarD 1) tNilD))))) tNilD))) tNilD)))) tNilD)))
  (tRetD (tCallD (sp__law_low AA) (tConsD (tVarD 2) (tConsD (tVarD 3) tNilD))))))
theorem wp__law_handed (AA : Ad) : ∀ ds M F FE, sp__law_handed AA ds M F FE → t__law_handed AA (fun C fs _ M => FE C fs M) { nx := fun _ M => F .non M, rt := F } (startD ["_law_bead_here", "_law_pair_here", "_law_number_here"] ds) M := by
  rintro ds M F FE ⟨p, t, rest, rfl, ⟨a, b, rfl, ⟨hb, hg⟩, sz⟩, hN, ht, k⟩
  unfold t__law_handed
  walk_at "z"
  refine ⟨a, b, rfl, by omega, sz.mono (by decide), ?_⟩
  rw [(nrm_id hb hg).1, (nrm_id hb hg).2]
  unfold tellD
  split
  · rename_i e
    subst e
    walk_at "z"
    refine w_false ?_
    walk_at "z"
    exact k _ _ (hN.mono (by omega)) .refl ⟨a, 1, rfl, .inl rfl, fun _ => rfl⟩
  · rename_i e
    walk_at "z"
    refine w_true ?_
    walk_at "z"
    refine sieve_do hN ht (by decide) (by decide) fun n M' n0 n1 N' U' => ?_
    walk_at "z"
    refine w_eq rfl ?_
    refine w_dec (fun c => ?_) (fun c => ?_)
    · walk_at "z"
      exact k _ _ N' U' ⟨a, b, rfl, .inr rfl, fun z => absurd z e⟩
    · walk_at "z"
      exact k _ _ N' U' ⟨a, b, rfl, .inl (by unfold tellD; rw [if_neg e]), fun z => absurd z e⟩
theorem wp__law_number (AA : Ad) : ∀ ds M F FE, sp__law_number AA ds M F FE → t__law_number AA (fun C fs _ M => FE C fs M) { nx := fun _ M => F .non M, rt := F } (startD ["_law_bead_here", "_law_most", "_law_above", "_law_below"] ds) M := by
  rintro ds M F FE ⟨p, t, rest, rfl, rfl, hN, ht, k⟩
  unfold t__law_number
  walk_at "z"
  refine w_rdIC (by show CPow 10 6; unfold CPow; omega) ?_
  walk_at "z"
  refine w_rdIC (by show CPow 10 30; unfold CPow; omega) ?_
  walk_at "z"
  refine w_small (by show 5 ≤ 16777216; decide) ?_
  walk_at "z"
  refine pick_do hN (by omega) (by show 0 < 5; decide) (by show 5 ≤ 1000; decide) fun d M1 hd n1 u1 => ?_
  obtain ⟨m, rfl, m0, m1⟩ : ∃ m : Int, d = .int m ∧ 3 ≤ m ∧ m ≤ 10 ^ 30 := by
    simp only [List.mem_cons, List.not_mem_nil, or_false] at hd
    rcases hd with rfl | rfl | rfl | rfl | rfl <;> exact ⟨_, rfl, by decide, by decide⟩
  walk_at "z"
  refine w_rdMul (mulOk_l ⟨by omega, by omega⟩) ?_
  walk_at "z"
  have lg : ∀ z : Int, 0 < z → z ≤ 2 * 10 ^ 30 + 1 → z.natAbs.log2 < 9000 := fun z h0 h1 => by
    have : z.natAbs < 2 ^ 110 := by omega
    exact Nat.lt_trans ((Nat.log2_lt (by omega)).mpr this) (by decide)
  refine sieve_do n1 (by omega) (by omega) (lg _ (by omega) (by omega)) fun x M2 x0 x1 n2 u2 => ?_
  walk_at "z"
  refine w_small (by show 4 ≤ 16777216; decide) ?_
  walk_at "z"
  refine pick_do n2 (by omega) (by show 0 < 4; decide) (by show 4 ≤ 1000; decide) fun d M3 hd n3 u3 => ?_
  obtain ⟨w, rfl, w0, w1⟩ : ∃ w : Int, d = .int w ∧ 1 ≤ w ∧ w ≤ 10 ^ 30 := by
    simp only [List.mem_cons, List.not_mem_nil, or_false] at hd
    rcases hd with rfl | rfl | rfl | rfl
    · exact ⟨_, rfl, by decide, by decide⟩
    · exact ⟨_, rfl, by decide, by decide⟩
    · exact ⟨_, rfl, by decide, by decide⟩
    · exact ⟨_, rfl, by omega, m1⟩
  refine sieve_do n3 (by omega) (by omega) (lg _ (by omega) (by omega)) fun y M4 y0 y1 n4 u4 => ?_
  walk_at "z"
  have sb : Sz 110 (1 + y) := by unfold Sz; omega
  have sa : Sz 110 (x - m) := by unfold Sz; omega
  refine ⟨x - m, 1 + y, rfl, by omega, sb.mono (by decide), ?_⟩
  obtain ⟨o1, o2, o3, o4⟩ := nrm_ok (x := x - m) (y := 1 + y) (by omega)
  exact k _ _ (n4.mono (by omega)) (((u1.trans u2).trans u3).trans u4) ⟨_, _, rfl, ⟨o1, o2⟩, sa.le o3, sb.le o4⟩
theorem wp__law_bead (AA : Ad) : ∀ ds M F FE, spGrit ds M F FE → t__law_bead AA (fun C fs _ M => FE C fs M) { nx := fun _ M => F .non M, rt := F } (startD ["_law_script", "_law_cell"] ds) M := fun ds M F FE h => wp_grit (n := 60) rfl _ ds M F FE h
theorem wp__law_pick (AA : Ad) : ∀ ds M F FE, spPick ds M F FE → t__law_pick AA (fun C fs _ M => FE C fs M) { nx := fun _ M => F .non M, rt := F } (startD ["_law_bead_here", "_law_some"] ds) M := fun ds M F FE h => wp_pick rfl _ ds M F FE h
theorem wp__law_string (AA : Ad) : ∀ ds M F FE, spSieve ds M F FE → t__law_string AA (fun C fs _ M => FE C fs M) { nx := fun _ M => F .non M, rt := F } (startD ["_law_bead_here", "_law_many", "_law_left", "_law_turn", "_law_cell", "_law_mixed"] ds) M :=
  fun ds M F FE h => wp_sieve (c1 := 108149) (c2 := 8147) (m1 := 2147483587) (c3 := 85133) (m2 := 2147483563) (m3 := 2147483549) (dv := 32) ⟨by decide, by decide⟩ rfl (by decide) _ ds M F FE h
end Z

set_option Elab.async false
set_option linter.all false
set_option maxRecDepth 100000
set_option maxHeartbeats 4000000
namespace Z
local macro_rules | `(tactic| walk_at "z at") => `(tactic| first | rfl | (simp only [atI, ixN, List.length_cons, List.length_nil, List.length_map]; rfl) | assumption)
local macro_rules | `(tactic| walk_at "z1") => `(tactic| first
  | with_reducible refine w_seq ?_ | with_reducible refine w_set ?_ | with_reducible refine w_ret ?_ | with_reducible refine w_if ?_ | with_reducible refine w_asg ?_ | with_reducible refine w_next ?_ | with_reducible refine w_setIx ?_ | with_reducible refine w_par ?_
  | ((with_reducible refine' w_var ?h ?_); (case h => exact rfl))
  | with_reducible refine w_c ?_ | with_reducible refine w_op ?_ | with_reducible refine w_un ?_ | with_reducible refine w_cons ?_ | with_reducible refine w_nil ?_ | with_reducible refine w_cb ?_
  | with_reducible refine w_call ?_ | with_reducible refine w_callK ?_ | with_reducible refine w_testB ?_ | with_reducible refine w_tru ?_ | with_reducible refine w_andD ?_ | with_reducible refine w_orD ?_ | with_reducible refine w_notD ?_
  | with_reducible refine w_andE ?_ | with_reducible refine w_orE ?_ | with_reducible refine w_notE ?_ | with_reducible refine w_ifE ?_ | with_reducible refine w_is ?_ | with_reducible refine w_isN ?_ | with_reducible refine w_notN ?_ | with_reducible refine w_tupOf ?_
  | with_reducible refine w_tup ?_ | with_reducible refine w_lst ?_ | with_reducible refine w_lstM ?_ | with_reducible refine w_sl ?_ | with_reducible refine w_part ?_ | with_reducible refine w_noPart ?_ | with_reducible refine w_repr ?_ | with_reducible refine w_seqI ?_
  | with_reducible refine w_rdI ?_ | with_reducible refine w_rdB ?_ | with_reducible refine w_rdAdd ?_ | with_reducible refine w_neg ?_ | with_reducible refine w_lenL ?_ | with_reducible refine w_lenT ?_ | with_reducible refine w_abs ?_ | with_reducible refine w_int ?_ | with_reducible refine w_intB ?_ | with_reducible refine w_gcd ?_
  | with_reducible refine w_gname ?_ | with_reducible refine w_gnil ?_ | with_reducible refine w_gcons ?_
  | with_reducible refine w_true ?_ | with_reducible refine w_false ?_
  | dsimp only [truthD, seqD, isNonD, permL, List.filterMap] | with_reducible refine w_drop ?_ | with_reducible refine w_retN ?_ | with_reducible refine w_nilP ?_ | with_reducible refine w_consP ?_ | with_reducible refine w_rng ?_ | with_reducible refine w_cont ?_ | with_reducible refine w_brk ?_)
local macro_rules | `(tactic| walk_at "z") => `(tactic| repeat walk_at "z1")
open PySem L2
/-! ### how long a repr is -/
structure RO (p : PyData) (n k : Nat) : Prop where
  s : p.showable = true
  l : p.shown.length ≤ n
  d : p.depth ≤ k
theorem RO.mono {p : PyData} {n k n' k' : Nat} (h : RO p n k) (a : n ≤ n') (b : k ≤ k') : RO p n' k' := ⟨h.s, Nat.le_trans h.l a, Nat.le_trans h.d b⟩
theorem ro_int {a : Int} (h : Sz 1900 a) : RO (.int a) 1901 0 :=
  ⟨decide_eq_true (Nat.lt_trans (h.log2 (by decide)) (by decide)), by
    show (Str.ofString (toString a)).length ≤ 1901
    rw [ofString_length]
    exact int_text_length_le (k := 1900) (by decide) (h.log2 (by decide)), Nat.le_refl _⟩
theorem ro_bool (b : Bool) : RO (.bool b) 1901 0 := ⟨rfl, by cases b <;> decide +kernel, Nat.le_refl _⟩
theorem textFrom_le : ∀ (ts : List Str) (k : Nat) (acc : Str), (textFrom k acc ts).length ≤ acc.length + piled ts
  | [], k, acc => Nat.le_add_right _ _
  | t :: r, k, acc => by
    have ih := textFrom_le r (k + 1) (acc ++ (if k > 0 then ", " else "" : String) ++ t)
    have e : (acc ++ (if k > 0 then ", " else "" : String) ++ t).length = acc.length + (if k > 0 then 2 else 0) + t.length := by
      rw [strLen_append, strLen_append]
      split <;> rfl
    show (textFrom (k + 1) _ r).length ≤ _
    rw [piled_cons]
    rw [e] at ih
    have h2 : (if k > 0 then 2 else 0 : Nat) ≤ 2 := by split <;> decide
    omega
theorem piled_le {n : Nat} : ∀ ts : List Str, (∀ t ∈ ts, t.length ≤ n) → piled ts ≤ (n + 2) * ts.length
  | [], _ => Nat.le_refl _
  | t :: r, h => by
    rw [piled_cons, List.length_cons]
    have h1 := h t List.mem_cons_self
    have h2 := piled_le r fun u hu => h u (List.mem_cons_of_mem _ hu)
    rw [Nat.mul_succ]
    omega
theorem ro_all {n k : Nat} : ∀ ps : List PyData, (∀ p ∈ ps, RO p n k) → PyData.showableAll ps = true ∧ (∀ t ∈ PyData.shownAll ps, t.length ≤ n) ∧ (PyData.shownAll ps).length = ps.length ∧ PyData.depthAll ps ≤ k
  | [], _ => ⟨rfl, (fun t h => nomatch h), rfl, Nat.zero_le _⟩
  | p :: ps, h => by
    obtain ⟨a, b, c, d⟩ := ro_all ps fun q hq => h q (List.mem_cons_of_mem _ hq)
    have hp := h p List.mem_cons_self
    refine ⟨?_, ?_, ?_, ?_⟩
    · simp only [PyData.showableAll, hp.s, a, Bool.and_self]
    · intro t ht
      simp only [PyData.shownAll, List.mem_cons] at ht
      rcases ht with rfl | ht
      · exact hp.l
      · exact b t ht
    · simp only [PyData.shownAll, List.length_cons, c]
    · have := hp.d
      simp only [PyData.depthAll]
      omega
theorem ro_list {n k : Nat} {ps : List PyData} (h : ∀ p ∈ ps, RO p n k) : RO (.list ps) ((n + 2) * ps.length + 2) (k + 1) := by
  obtain ⟨a, b, c, d⟩ := ro_all ps h
  refine ⟨?_, ?_, ?_⟩
  · simp only [PyData.showable, a]
  · simp only [PyData.shown]
    unfold listText
    have e1 := textFrom_le (PyData.shownAll ps) 0 "["
    have e2 := piled_le _ b
    rw [c] at e2
    have l1 : ((("[" : String) : Str)).length = 1 := rfl
    have l2 : ((("]" : String) : Str)).length = 1 := rfl
    rw [strLen_append, l2]
    rw [l1] at e1
    omega
  · simp only [PyData.depth]
    omega
theorem ro_tup {n k : Nat} {ps : List PyData} (h : ∀ p ∈ ps, RO p n k) : RO (.tuple ps) ((n + 2) * ps.length + 3) (k + 1) := by
  obtain ⟨a, b, c, d⟩ := ro_all ps h
  refine ⟨?_, ?_, ?_⟩
  · simp only [PyData.showable, a]
  · simp only [PyData.shown]
    unfold tupleText
    have e2 := piled_le _ b
    rw [c] at e2
    have l1 : ((("(" : String) : Str)).length = 1 := rfl
    have l2 : (((if (PyData.shownAll ps).length == 1 then ",)" else ")" : String) : Str)).length ≤ 2 := by split <;> decide
    rw [strLen_append, strLen_append, l1]
    by_cases z : PyData.shownAll ps = []
    · rw [z]
      have : (Str.join ", " []).length = 0 := rfl
      rw [z] at l2
      omega
    · have := join_length_add _ z
      omega
  · simp only [PyData.depth]
    omega
def RD (d : D) : Prop := ∃ p, toPy d = some p ∧ RO p 4000 1
theorem rd_int {a : Int} (h : Sz 1900 a) : RD (.int a) := ⟨_, rfl, (ro_int h).mono (by decide) (by decide)⟩
theorem rd_bl (b : Bool) : RD (.bl b) := ⟨_, rfl, (ro_bool b).mono (by decide) (by decide)⟩
theorem rd_tell {a b : Int} (ha : Sz 1900 a) (hb : Sz 1900 b) : RD (tellD a b) := by
  unfold tellD
  split
  · exact rd_int ha
  · refine ⟨.tuple [.int a, .int b], rfl, (ro_tup (n := 1901) (k := 0) fun p hp => ?_).mono (by show (1901 + 2) * 2 + 3 ≤ 4000; decide) (by decide)⟩
    simp only [List.mem_cons, List.not_mem_nil, or_false] at hp
    rcases hp with rfl | rfl
    · exact ro_int ha
    · exact ro_int hb
theorem rd_all : ∀ ds : List D, (∀ d ∈ ds, RD d) → ∃ ps, toPys ds = some ps ∧ ps.length = ds.length ∧ ∀ p ∈ ps, RO p 4000 1
  | [], _ => ⟨[], rfl, rfl, fun p h => nomatch h⟩
  | d :: ds, h => by
    obtain ⟨ps, e, l, r⟩ := rd_all ds fun q hq => h q (List.mem_cons_of_mem _ hq)
    obtain ⟨p, e1, r1⟩ := h d List.mem_cons_self
    refine ⟨p :: ps, ?_, by rw [List.length_cons, List.length_cons, l], fun q hq => ?_⟩
    · simp only [toPys, e1, e]
    · rcases List.mem_cons.mp hq with rfl | hq
      · exact r1
      · exact r q hq
theorem rd_ok {d : D} (h : RD d) : ∃ p, toPy d = some p ∧ okRepr p := by
  obtain ⟨p, e, r⟩ := h
  exact ⟨p, e, r.s, Nat.le_trans r.l (by decide), Nat.le_trans r.d (by decide)⟩
theorem rd_list {ds : List D} (h : ∀ d ∈ ds, RD d) (l : ds.length ≤ 1000) : ∃ p, toPy (.lst ds) = some p ∧ okRepr p := by
  obtain ⟨ps, e, hl, r⟩ := rd_all ds h
  have R := ro_list r
  have hx : (4000 + 2) * ps.length ≤ (4000 + 2) * 1000 := Nat.mul_le_mul_left _ (by omega)
  exact ⟨.list ps, by simp only [toPy, e, Option.map], R.s, Nat.le_trans R.l (by omega), Nat.le_trans R.d (by decide)⟩
theorem eq_self_str (x : Str) : eqD (.str x) (.str x) = some true := by show some (decide (x = x)) = _; rw [decide_eq_true rfl]
/-! ### the program's and the law's answers -/
section
variable {AA : Ad} {M : MH} {F : QD} {E : ED} {p q : D} {a b c d : Int}
/-- a value that is the number a / b -/
structure HD (p : D) (a b : Int) : Prop where
  pl : plainD p = true
  nb : isNumB p = true
  nv : numV p = some (a, b)
theorem two_do {R : RTwo} (h1 : HD p a b) (h2 : HD q c d) (k : R a b c d F E M) : spTwo AA R [p, q] M F E :=
  ⟨p, q, rfl, h1.pl, h2.pl, fun z => absurd (h1.nb.symm.trans z) (by decide), fun _ z => absurd (h2.nb.symm.trans z) (by decide), fun _ _ a' b' c' d' n1 n2 _ _ => by
    rw [h1.nv] at n1
    rw [h2.nv] at n2
    cases n1
    cases n2
    exact k⟩
theorem two_bad1 {R : RTwo} (hp : plainD p = true) (hq : plainD q = true) (n : isNumB p = false) (k : E AA.c_BadNumber [("part", .str "one")] M) : spTwo AA R [p, q] M F E :=
  ⟨p, q, rfl, hp, hq, fun _ => k, fun z => absurd (n.symm.trans z) (by decide), fun z => absurd (n.symm.trans z) (by decide)⟩
theorem two_bad2 {R : RTwo} (hp : plainD p = true) (hq : plainD q = true) (n : isNumB p = true) (m : isNumB q = false) (k : E AA.c_BadNumber [("part", .str "other")] M) : spTwo AA R [p, q] M F E :=
  ⟨p, q, rfl, hp, hq, fun z => absurd (n.symm.trans z) (by decide), fun _ _ => k, fun _ z => absurd (m.symm.trans z) (by decide)⟩
theorem plus_do (h1 : HD p a b) (h2 : HD q c d) (s : szs a b c d) (k : F (tellD (nrmA (a * d + c * b) (b * d)) (nrmB (a * d + c * b) (b * d))) M) : sp_plus AA [p, q] M F E := two_do h1 h2 ⟨s, k⟩
theorem minus_do (h1 : HD p a b) (h2 : HD q c d) (s : szs a b c d) (k : F (tellD (nrmA (a * d - c * b) (b * d)) (nrmB (a * d - c * b) (b * d))) M) : sp_minus AA [p, q] M F E := two_do h1 h2 ⟨s, k⟩
theorem times_do (h1 : HD p a b) (h2 : HD q c d) (s : szs a b c d) (k : F (tellD (nrmA (a * c) (b * d)) (nrmB (a * c) (b * d))) M) : sp_times AA [p, q] M F E := two_do h1 h2 ⟨s, k⟩
theorem distance_do (h1 : HD p a b) (h2 : HD q c d) (s : szs a b c d) (k : F (tellD (nrmA (farA a b c d) (b * d)) (nrmB (farA a b c d) (b * d))) M) : sp_distance AA [p, q] M F E := two_do h1 h2 ⟨s, k⟩
theorem is_less_do (h1 : HD p a b) (h2 : HD q c d) (s : szs a b c d) (k : F (.bl (decide (a * d < c * b))) M) : sp_is_less AA [p, q] M F E := two_do h1 h2 ⟨s, k⟩
theorem over_do (h1 : HD p a b) (h2 : HD q c d) (s : szs a b c d) (hc : c ≠ 0) (k : F (tellD (nrmA (a * d) (b * c)) (nrmB (a * d) (b * c))) M) : sp_over AA [p, q] M F E := two_do h1 h2 ⟨fun z => absurd z hc, fun _ => ⟨s, k⟩⟩
theorem over_zero (h1 : HD p a b) (h2 : HD q c d) (hc : c = 0) (k : E AA.c_Misfit [("part", .str "other")] M) : sp_over AA [p, q] M F E := two_do h1 h2 ⟨fun _ => k, fun z => absurd hc z⟩
theorem low_do (hb : b ≠ 0) (s : Sz 1800 b) (k : F (frD (nrmA a b) (nrmB a b)) M) : sp__law_low AA [.int a, .int b] M F E := ⟨a, b, rfl, hb, s, k⟩
theorem told_do (h : IsF a b) (s : Sz 1800 b) (k : F (tellD a b) M) : sp__law_told AA [frD a b] M F E := ⟨a, b, rfl, by have := h.1; omega, s, by rw [(nrm_id h.1 h.2).1, (nrm_id h.1 h.2).2]; exact k⟩
theorem nrm_isF (hb : b ≠ 0) : IsF (nrmA a b) (nrmB a b) := ⟨(nrm_ok hb).1, (nrm_ok hb).2.1⟩
theorem nrm_szB {n : Nat} (hb : b ≠ 0) (s : Sz n b) : Sz n (nrmB a b) := s.le (nrm_ok hb).2.2.2
theorem nrm_szA {n : Nat} (hb : b ≠ 0) (s : Sz n a) : Sz n (nrmA a b) := s.le (nrm_ok hb).2.2.1
theorem handed_hd {x : D} (h : IsF a b) (e : x = tellD a b ∨ x = .lst [.int a, .int b]) (e1 : b = 1 → x = .int a) : HD x a b := by
  by_cases hb : b = 1
  · subst hb
    cases e1 rfl
    exact ⟨rfl, rfl, rfl⟩
  · have g : isNumB (.lst [.int a, .int b]) = true := by
      show (decide (2 ≤ b) && decide (Nat.gcd a.natAbs b.natAbs = 1)) = true
      rw [decide_eq_true (show 2 ≤ b by have := h.1; omega), decide_eq_true h.2]
      rfl
    rcases e with e | e
    · unfold tellD at e
      rw [if_neg hb] at e
      subst e
      exact ⟨rfl, g, rfl⟩
    · subst e
      exact ⟨rfl, g, rfl⟩
theorem handed_do {r : Addr} {t : Int} (hN : NutAt M r t) (ht : t + 1 ≤ 8000000) (h : IsF a b) (s : Sz 800 b) (k : ∀ x M', NutAt M' r (t + 1) → Upd1 M r M' → HD x a b → F x M') : sp__law_handed AA [.ref r, frD a b] M F E :=
  draw_do hN ht ⟨a, b, rfl, h, s⟩ fun x M' n u ⟨a', b', e, e1, e2⟩ => by
    simp only [frD, List.cons.injEq, D.tup.injEq, D.int.injEq, and_true] at e
    obtain ⟨rfl, rfl⟩ := e
    exact k x M' n u (handed_hd h e1 e2)
theorem number_do {r : Addr} {t : Int} (hN : NutAt M r t) (ht : t + 4 ≤ 8000000) (k : ∀ a b M', NutAt M' r (t + 4) → Upd1 M r M' → IsF a b → Sz 110 a → Sz 110 b → F (frD a b) M') : sp__law_number AA [.ref r] M F E :=
  draw_do hN ht rfl fun x M' n u ⟨a, b, e, h, s1, s2⟩ => by subst e; exact k a b M' n u h s1 s2
theorem ratio_do (hb : b ≠ 0) (s : Sz 1800 b) (k : F (tellD (nrmA a b) (nrmB a b)) M) : sp_ratio AA [.int a, .int b] M F E :=
  ⟨.int a, .int b, rfl, rfl, rfl, (fun z => nomatch z), fun _ z => (by rcases z with z | z; exact nomatch z; exact absurd (D.int.inj z) hb), fun a' b' e1 e2 _ => by cases e1; cases e2; exact ⟨s, k⟩⟩
end
/-! ### lambdas that are asked, and what is heard -/
section
variable {AA : Ad} {Pt : Addr} {qn : Str} {js : List Nat} {N : List Str} {o : Option Int} {tb : TED} {W : WD} {τ : EnvD} {M : MH} {Q : QD} {cds : List D} {x : D}
theorem lam_keep {f : Addr} {mo o' : MO} (hP : M Pt = some o') (hf : M f = none) : mput M f mo Pt = some o' := by
  rw [mput_ne fun z => by rw [z, hf] at hP; cases hP]
  exact hP
theorem heard_num (hP : M Pt = some (.tbl qn)) (hc : takeN τ js = some cds) (k : Q (.tup [.str "number", x]) M)
    (h : ∀ (E : ED) (Q' : QD) (M' : MH), E AA.c_BadNumber [("part", x)] M' → tb (fun C fs _ M => E C fs M) (startD N (ownD o ++ cds)) M' Q') : tLamD Pt qn js N o (spg__law_heard AA) tb W τ M Q :=
  ⟨hP, cds, hc, fun f mo hf E Q' h1 _ _ => ⟨mput_same, lam_keep hP hf, h E Q' _ (h1 x _ (by show Q _ (mdel (mput M f mo) f); rw [mdel_mput hf]; exact k))⟩⟩
theorem heard_mis (hP : M Pt = some (.tbl qn)) (hc : takeN τ js = some cds) (k : Q (.tup [.str "misfit", x]) M)
    (h : ∀ (E : ED) (Q' : QD) (M' : MH), E AA.c_Misfit [("part", x)] M' → tb (fun C fs _ M => E C fs M) (startD N (ownD o ++ cds)) M' Q') : tLamD Pt qn js N o (spg__law_heard AA) tb W τ M Q :=
  ⟨hP, cds, hc, fun f mo hf E Q' _ h2 _ => ⟨mput_same, lam_keep hP hf, h E Q' _ (h2 x _ (by show Q _ (mdel (mput M f mo) f); rw [mdel_mput hf]; exact k))⟩⟩
theorem heard_non (hP : M Pt = some (.tbl qn)) (hc : takeN τ js = some cds) (k : Q .non M)
    (h : ∀ (E : ED) (Q' : QD) (M' : MH), (∀ d, Q' d M') → tb (fun C fs _ M => E C fs M) (startD N (ownD o ++ cds)) M' Q') : tLamD Pt qn js N o (spg__law_heard AA) tb W τ M Q :=
  ⟨hP, cds, hc, fun f mo hf E Q' _ _ h3 => ⟨mput_same, lam_keep hP hf, h E Q' _ fun d => h3 d _ (by show Q _ (mdel (mput M f mo) f); rw [mdel_mput hf]; exact k)⟩⟩
end
/-! ### two numbers -/
def sp__law_two_right (AA : Ad) : SpD := fun ds M F _ => ∃ (p : Addr) (t a b c d : Int), ds = [.ref p, frD a b, frD c d] ∧ IsF a b ∧ IsF c d ∧ Sz 200 a ∧ Sz 200 b ∧ Sz 200 c ∧ Sz 200 d ∧ NutAt M p t ∧ t + 2 ≤ 8000000 ∧ M AA.P__law_two_right = some (.tbl qn__law_two_right) ∧
  ∀ M', NutAt M' p (t + 2) → Upd1 M p M' → F (.bl true) M'
def t__law_two_right (AA : Ad) : TSD := (tSeqD (tAsgD (tTupD (tConsD (tVarD 1) (tConsD (tVarD 2) tNilD))) (gTupD 2 (gConsD (gTupD 2 (gConsD (gNameD 3) (gConsD (gNameD 4) gNilD))) (gConsD (gTupD 2 (gConsD (gNameD 5) (gConsD (gNameD 6) gNilD))) gNilD))))
  (tSeqD (tAsgD (tTupD (tConsD (tCallD (sp__law_handed AA) (tConsD (tVarD 0) (tConsD (tVarD 1) tNilD))) (tConsD (tCallD (sp__law_handed AA) (tConsD (tVarD 0) (tConsD (tVarD 2) tNilD))) tNilD))) (gTupD 2 (gConsD (gNameD 7) (gConsD (gNameD 8) gNilD))))
  (tSeqD (tSetD 9 (tCallD (sp__law_low AA) (tConsD (tCBD rdAbs (tConsD (tOpD (rdI fun i j => i - j) (tOpD rdMul (tVarD 3) (tVarD 6)) (tOpD rdMul (tVarD 5) (tVarD 4))) tNilD)) (tConsD (tOpD rdMul (tVarD 4) (tVarD 6)) tNilD))))
  (tSeqD (tSetD 10 (tLstD (tConsD (tCallD (sp__law_told AA) (tConsD (tCallD (sp__law_low AA) (tConsD (tOpD rdAdd (tOpD rdMul (tVarD 3) (tVarD 6)) (tOpD rdMul (tVarD 5) (tVarD 4))) (tConsD (tOpD rdMul (tVarD 4) (tVarD 6)) tNilD))) tNilD)) (tConsD (tCallD (sp__law_told AA) (tConsD (tCallD (sp__law_low AA) (tConsD (tOpD (rdI fun i j => i - j) (tOpD rdMul (tVarD 3) (tVarD 6)) (tOpD rdMul (tVarD 5) (tVarD 4))) (tConsD (tOpD rdMul (tVarD 4) (tVarD 6)) tNilD))) tNilD)) (tConsD (tCallD (sp__law_told AA) (tConsD (tCallD (sp__law_low AA) (tConsD (tOpD rdMul (tVarD 3) (tVarD 5)) (tConsD (tOpD rdMul (tVarD 4) (tVarD 6)) tNilD))) tNilD)) (tConsD (tCallD (sp__law_told AA) (tConsD (tVarD 9) tNilD)) (tConsD (tOpD (rdB fun i j => decide (i < j)) (tOpD rdMul (tVarD 3) (tVarD 6)) (tOpD rdMul (tVarD 5) (tVarD 4))) tNilD)))))))
  (tSeqD (tSetD 11 (tLstD (tConsD (tCallD (sp_plus AA) (tConsD (tVarD 7) (tConsD (tVarD 8) tNilD))) (tConsD (tCallD (sp_minus AA) (tConsD (tVarD 7) (tConsD (tVarD 8) tNilD))) (tConsD (tCallD (sp_times AA) (tConsD (tVarD 7) (tConsD (tVarD 8) tNilD))) (tConsD (tCallD (sp_distance AA) (tConsD (tVarD 7) (tConsD (tVarD 8) tNilD))) (tConsD (tCallD (sp_is_less AA) (tConsD (tVarD 7) (tConsD (tVarD 8) tNilD))) tNilD)))))))
  (tSeqD (tSetD 12 (tLstD (tConsD (tCallKD (sp_plus AA) [1, 0] (tConsD (tVarD 8) (tConsD (tVarD 7) tNilD))) (tConsD (tCallKD (sp_minus AA) [1, 0] (tConsD (tVarD 8) (tConsD (tVarD 7) tNilD))) (tConsD (tCallKD (sp_times AA) [1, 0] (tConsD (tVarD 8) (tConsD (tVarD 7) tNilD))) (tConsD (tCallKD (sp_distance AA) [1, 0] (tConsD (tVarD 8) (tConsD (tVarD 7) tNilD))) (tConsD (tCallKD (sp_is_less AA) [1, 0] (tConsD (tVarD 8) (tConsD (tVarD 7) tNilD))) tNilD)))))))
  (tSeqD (tIfD (tOrD (tTestB (tOpD rdNe (tReprD (tVarD 11)) (tReprD (tVarD 10)))) (tTestB (tOpD rdNe (tReprD (tVarD 12)) (tReprD (tVarD 10)))))
    (tRetD (tCD (.bl false)))
    tNextD)
  (tSeqD (tIfD (tTestB (tOpD rdEq (tVarD 5) (tCD (.int 0))))
    (tRetD (tOpD rdEq (tLamD AA.P__law_two_right qn__law_two_right [7, 8] ["_law_mine", "_law_its"] none (spg__law_heard AA) (tCallD (sp_over AA) (tConsD (tVarD 0) (tConsD (tVarD 1) tNilD)))) (tTupD (tConsD (tCD (.str "misfit")) (tConsD (tCD (.str "other")) tNilD)))))
    tNextD)
  (tRetD (tAndE (tOpD rdEq (tReprD (tCallD (sp_over AA) (tConsD (tVarD 7) (tConsD (tVarD 8) tNilD)))) (tReprD (tCallD (sp__law_told AA) (tConsD (tCallD (sp__law_low AA) (tConsD (tOpD rdMul (tVarD 3) (tVarD 6)) (tConsD (tOpD rdMul (tVarD 4) (tVarD 5)) tNilD))) tNilD)))) (tOpD rdEq (tReprD (tCallKD (sp_over AA) [1, 0] (tConsD (tVarD 8) (tConsD (tVarD 7) tNilD)))) (tReprD (tCallD (sp_over AA) (tConsD (tVarD 7) (tConsD (tVarD 8) tNilD)))))))))))))))
theorem tbl_keep {M M' : MH} {p P : Addr} {t : Int} {q : Str} (hN : NutAt M p t) (u : Upd1 M p M') (h : M P = some (.tbl q)) : M' P = some (.tbl q) := by
  obtain ⟨_, _, _, z, _⟩ := hN
  rw [u P fun e => by rw [e, z] at h; cases h]
  exact h
theorem wp__law_two_right (AA : Ad) : ∀ ds M F FE, sp__law_two_right AA ds M F FE → t__law_two_right AA (fun C fs _ M => FE C fs M) { nx := fun _ M => F .non M, rt := F } (startD ["_law_bead_here", "_law_one", "_law_other", "_law_a", "_law_b", "_law_c", "_law_d", "_law_mine", "_law_its", "_law_far", "_law_due", "_law_told_here", "_law_named"] ds) M := by
  rintro ds M F FE ⟨p, t, a, b, c, d, rfl, h1, h2, sa, sb, sc, sd, hN, ht, hP, k⟩
  have b0 : 0 < b := h1.1
  have d0 : 0 < d := h2.1
  have bd0 : b * d ≠ 0 := Int.ne_of_gt (Int.mul_pos b0 d0)
  have S : szs a b c d := ⟨sa.mono (by decide), sb.mono (by decide), sc.mono (by decide), sd.mono (by decide)⟩
  have mo : ∀ {x y : Int}, Sz 200 x → Sz 200 y → MulOk x y := fun hx hy => mulOk_sz hx hy (by decide) (by decide)
  have s_bd : Sz 400 (b * d) := sb.mul sd
  have s_ad : Sz 400 (a * d) := sa.mul sd
  have s_cb : Sz 400 (c * b) := sc.mul sb
  have s_ac : Sz 400 (a * c) := sa.mul sc
  have s_far : Sz 401 (farA a b c d) := by
    unfold farA
    split
    · exact s_cb.sub s_ad
    · exact s_ad.sub s_cb
  have e_far : (if a * d - c * b < 0 then -(a * d - c * b) else a * d - c * b) = farA a b c d := by
    unfold farA lessF
    by_cases z : a * d < c * b
    · rw [if_pos (show a * d - c * b < 0 by omega), decide_eq_true z, if_pos rfl]; omega
    · rw [if_neg (show ¬ (a * d - c * b < 0) by omega), decide_eq_false z, if_neg Bool.false_ne_true]
  obtain ⟨y, ey, oky⟩ := rd_list (ds := [tellD (nrmA (a * d + c * b) (b * d)) (nrmB (a * d + c * b) (b * d)), tellD (nrmA (a * d - c * b) (b * d)) (nrmB (a * d - c * b) (b * d)), tellD (nrmA (a * c) (b * d)) (nrmB (a * c) (b * d)), tellD (nrmA (farA a b c d) (b * d)) (nrmB (farA a b c d) (b * d)), .bl (decide (a * d < c * b))])
    (by
      intro x hx
      simp only [List.mem_cons, List.not_mem_nil, or_false] at hx
      rcases hx with rfl | rfl | rfl | rfl | rfl
      · exact rd_tell ((nrm_szA bd0 (s_ad.add s_cb)).mono (by decide)) ((nrm_szB bd0 s_bd).mono (by decide))
      · exact rd_tell ((nrm_szA bd0 (s_ad.sub s_cb)).mono (by decide)) ((nrm_szB bd0 s_bd).mono (by decide))
      · exact rd_tell ((nrm_szA bd0 s_ac).mono (by decide)) ((nrm_szB bd0 s_bd).mono (by decide))
      · exact rd_tell ((nrm_szA bd0 s_far).mono (by decide)) ((nrm_szB bd0 s_bd).mono (by decide))
      · exact rd_bl _) (by show 5 ≤ 1000; decide)
  unfold t__law_two_right
  walk_at "z"
  refine w_small (by show 2 ≤ 16777216; decide) ?_
  refine w_gtup (xs := [frD a b, frD c d]) rfl rfl (w_gcons (w_gtup (xs := [.int a, .int b]) rfl rfl (w_gcons (w_gname (w_gcons (w_gname (w_gnil (w_gcons (w_gtup (xs := [.int c, .int d]) rfl rfl (w_gcons (w_gname (w_gcons (w_gname (w_gnil (w_gnil ?_)))))))))))))))
  walk_at "z"
  refine handed_do hN (by omega) h1 (sb.mono (by decide)) fun x M1 n1 u1 hx => ?_
  walk_at "z"
  refine handed_do n1 (by omega) h2 (sd.mono (by decide)) fun z M2 n2 u2 hz => ?_
  walk_at "z"
  refine w_small (by show 2 ≤ 16777216; decide) ?_
  refine w_gtup (xs := [x, z]) rfl rfl (w_gcons (w_gname (w_gcons (w_gname (w_gnil ?_)))))
  walk_at "z"
  refine w_rdMul (mo sa sd) ?_
  walk_at "z"
  refine w_rdMul (mo sc sb) ?_
  walk_at "z"
  refine w_rdMul (mo sb sd) ?_
  walk_at "z"
  rw [e_far]
  refine low_do bd0 (s_bd.mono (by decide)) ?_
  walk_at "z"
  refine w_rdMul (mo sa sd) ?_
  walk_at "z"
  refine w_rdMul (mo sc sb) ?_
  walk_at "z"
  refine w_rdMul (mo sb sd) ?_
  walk_at "z"
  refine low_do bd0 (s_bd.mono (by decide)) ?_
  walk_at "z"
  refine told_do (nrm_isF bd0) (nrm_szB bd0 (s_bd.mono (by decide))) ?_
  walk_at "z"
  refine w_rdMul (mo sa sd) ?_
  walk_at "z"
  refine w_rdMul (mo sc sb) ?_
  walk_at "z"
  refine w_rdMul (mo sb sd) ?_
  walk_at "z"
  refine low_do bd0 (s_bd.mono (by decide)) ?_
  walk_at "z"
  refine told_do (nrm_isF bd0) (nrm_szB bd0 (s_bd.mono (by decide))) ?_
  walk_at "z"
  refine w_rdMul (mo sa sc) ?_
  walk_at "z"
  refine w_rdMul (mo sb sd) ?_
  walk_at "z"
  refine low_do bd0 (s_bd.mono (by decide)) ?_
  walk_at "z"
  refine told_do (nrm_isF bd0) (nrm_szB bd0 (s_bd.mono (by decide))) ?_
  walk_at "z"
  refine told_do (nrm_isF bd0) (nrm_szB bd0 (s_bd.mono (by decide))) ?_
  walk_at "z"
  refine w_rdMul (mo sa sd) ?_
  walk_at "z"
  refine w_rdMul (mo sc sb) ?_
  walk_at "z"
  refine w_small (by show 5 ≤ 16777216; decide) ?_
  walk_at "z"
  refine plus_do hx hz S ?_
  walk_at "z"
  refine minus_do hx hz S ?_
  walk_at "z"
  refine times_do hx hz S ?_
  walk_at "z"
  refine distance_do hx hz S ?_
  walk_at "z"
  refine is_less_do hx hz S ?_
  walk_at "z"
  refine w_small (by show 5 ≤ 16777216; decide) ?_
  walk_at "z"
  refine plus_do hx hz S ?_
  walk_at "z"
  refine minus_do hx hz S ?_
  walk_at "z"
  refine times_do hx hz S ?_
  walk_at "z"
  refine distance_do hx hz S ?_
  walk_at "z"
  refine is_less_do hx hz S ?_
  walk_at "z"
  refine w_small (by show 5 ≤ 16777216; decide) ?_
  walk_at "z"
  rw [ey]
  refine ⟨oky, ?_⟩
  walk_at "z"
  rw [ey]
  refine ⟨oky, ?_⟩
  walk_at "z"
  refine w_ne (eq_self_str _) ?_
  refine w_false ?_
  walk_at "z"
  rw [ey]
  refine ⟨oky, ?_⟩
  walk_at "z"
  rw [ey]
  refine ⟨oky, ?_⟩
  walk_at "z"
  refine w_ne (eq_self_str _) ?_
  refine w_false ?_
  walk_at "z"
  have hP2 : M2 AA.P__law_two_right = some (.tbl qn__law_two_right) := tbl_keep n1 u2 (tbl_keep hN u1 hP)
  have hk : F (.bl true) M2 := k M2 (n2.mono (by omega)) (u1.trans u2)
  refine w_eq rfl ?_
  refine w_dec (fun c0 => ?_) (fun c0 => ?_)
  · walk_at "z"
    refine heard_mis (x := .str "other") hP2 rfl ?_ (fun E Q' M' e => ?_)
    · walk_at "z"
      refine w_small (by show 2 ≤ 16777216; decide) ?_
      exact w_eq (by decide +kernel) hk
    · walk_at "z"
      exact over_zero hx hz c0 e
  · have bc0 : b * c ≠ 0 := Int.mul_ne_zero (Int.ne_of_gt b0) c0
    have s_bc : Sz 400 (b * c) := sb.mul sc
    obtain ⟨y2, e2, ok2⟩ := rd_ok (rd_tell ((nrm_szA bc0 s_ad).mono (by decide)) ((nrm_szB (a := a * d) bc0 s_bc).mono (by decide)))
    walk_at "z"
    refine over_do hx hz S c0 ?_
    walk_at "z"
    rw [e2]
    refine ⟨ok2, ?_⟩
    walk_at "z"
    refine w_rdMul (mo sa sd) ?_
    walk_at "z"
    refine w_rdMul (mo sb sc) ?_
    walk_at "z"
    refine low_do bc0 (s_bc.mono (by decide)) ?_
    walk_at "z"
    refine told_do (nrm_isF bc0) (nrm_szB bc0 (s_bc.mono (by decide))) ?_
    walk_at "z"
    rw [e2]
    refine ⟨ok2, ?_⟩
    walk_at "z"
    refine w_eq (eq_self_str _) ?_
    refine w_true ?_
    walk_at "z"
    refine over_do hx hz S c0 ?_
    walk_at "z"
    rw [e2]
    refine ⟨ok2, ?_⟩
    walk_at "z"
    refine over_do hx hz S c0 ?_
    walk_at "z"
    rw [e2]
    refine ⟨ok2, ?_⟩
    walk_at "z"
    exact w_eq (eq_self_str _) hk
end Z

set_option Elab.async false
set_option linter.all false
set_option maxRecDepth 100000
set_option maxHeartbeats 4000000
namespace Z
local macro_rules | `(tactic| walk_at "z at") => `(tactic| first | rfl | (simp only [atI, ixN, List.length_cons, List.length_nil, List.length_map]; rfl) | assumption)
local macro_rules | `(tactic| walk_at "z1") => `(tactic| first
  | with_reducible refine w_seq ?_ | with_reducible refine w_set ?_ | with_reducible refine w_ret ?_ | with_reducible refine w_if ?_ | with_reducible refine w_asg ?_ | with_reducible refine w_next ?_ | with_reducible refine w_setIx ?_ | with_reducible refine w_par ?_
  | ((with_reducible refine' w_var ?h ?_); (case h => exact rfl))
  | with_reducible refine w_c ?_ | with_reducible refine w_op ?_ | with_reducible refine w_un ?_ | with_reducible refine w_cons ?_ | with_reducible refine w_nil ?_ | with_reducible refine w_cb ?_
  | with_reducible refine w_call ?_ | with_reducible refine w_callK ?_ | with_reducible refine w_testB ?_ | with_reducible refine w_tru ?_ | with_reducible refine w_andD ?_ | with_reducible refine w_orD ?_ | with_reducible refine w_notD ?_
  | with_reducible refine w_andE ?_ | with_reducible refine w_orE ?_ | with_reducible refine w_notE ?_ | with_reducible refine w_ifE ?_ | with_reducible refine w_is ?_ | with_reducible refine w_isN ?_ | with_reducible refine w_notN ?_ | with_reducible refine w_tupOf ?_
  | with_reducible refine w_tup ?_ | with_reducible refine w_lst ?_ | with_reducible refine w_lstM ?_ | with_reducible refine w_sl ?_ | with_reducible refine w_part ?_ | with_reducible refine w_noPart ?_ | with_reducible refine w_repr ?_ | with_reducible refine w_seqI ?_
  | with_reducible refine w_rdI ?_ | with_reducible refine w_rdB ?_ | with_reducible refine w_rdAdd ?_ | with_reducible refine w_neg ?_ | with_reducible refine w_lenL ?_ | with_reducible refine w_lenT ?_ | with_reducible refine w_abs ?_ | with_reducible refine w_int ?_ | with_reducible refine w_intB ?_ | with_reducible refine w_gcd ?_
  | with_reducible refine w_gname ?_ | with_reducible refine w_gnil ?_ | with_reducible refine w_gcons ?_
  | with_reducible refine w_true ?_ | with_reducible refine w_false ?_
  | dsimp only [truthD, seqD, isNonD, permL, List.filterMap] | with_reducible refine w_drop ?_ | with_reducible refine w_retN ?_ | with_reducible refine w_nilP ?_ | with_reducible refine w_consP ?_ | with_reducible refine w_rng ?_ | with_reducible refine w_cont ?_ | with_reducible refine w_brk ?_)
local macro_rules | `(tactic| walk_at "z") => `(tactic| repeat walk_at "z1")
open PySem L2
/-! ### some numbers: the least, the greatest -/
/-- a list comprehension whose element draws, and what is told of the row so far -/
theorem lc_drawJ {ti : TAD} {te : TED} {v : Nat} {W : WD} {τ : EnvD} {M : MH} {Q : QD} (xs : List D) (M1 : MH) {a : Addr} {t c : Int} {J : Nat → List D → Prop} (hN : NutAt M1 a t) (hc : 0 ≤ c) (hl : xs.length ≤ 16777216) (j0 : J 0 [])
    (step : ∀ i x, xs[i]? = some x → ∀ acc t' M2 (R : QD), J i acc → NutAt M2 a t' → t ≤ t' → t' + c ≤ t + xs.length * c → (∀ d M3, NutAt M3 a (t' + c) → Upd1 M2 a M3 → J (i + 1) (acc ++ [d]) → R d M3) → te noW (setN (wipeD τ [v]) v (some x)) M2 R)
    (hq : ∀ ds M3, NutAt M3 a (t + xs.length * c) → Upd1 M1 a M3 → ds.length = xs.length → J xs.length ds → Q (.lst ds) M3) (hi : ∀ R : List D → MH → Prop, R xs M1 → ti W τ M R) : tLcD ti (gNameD v) tYesD te [v] W τ M Q := by
  refine hi _ fun p hp => ⟨fun i M2 => ∃ acc, M2 p = some (.lst acc) ∧ NutAt M2 a (t + i * c) ∧ (∀ b, b ≠ a → b ≠ p → M2 b = M1 b) ∧ acc.length = i ∧ J i acc, ?_, ?_, ?_⟩
  · have n : a ≠ p := fun e => by obtain ⟨_, _, _, h, _⟩ := hN; rw [e, hp] at h; cases h
    refine ⟨[], mput_same, ?_, fun b _ h2 => mput_ne h2, rfl, j0⟩
    obtain ⟨cs, u, f, h, r⟩ := hN
    exact ⟨cs, u, f, by rw [mput_ne n]; exact h, by simpa using r⟩
  · rintro i x M2 hx ⟨acc, h1, h2, h3, h4, h5⟩
    have n : a ≠ p := fun e => by obtain ⟨_, _, _, h, _⟩ := hN; rw [e, hp] at h; cases h
    have hi' : i < xs.length := (List.getElem?_eq_some_iff.mp hx).1
    have e1 : ((i : Int) + 1) * c ≤ xs.length * c := Int.mul_le_mul_of_nonneg_right (by omega) hc
    have e0 : 0 ≤ (i : Int) * c := Int.mul_nonneg (by omega) hc
    have e2 : ((i : Int) + 1) * c = i * c + c := by rw [Int.add_mul, Int.one_mul]
    refine w_gname ?_
    show (true = true → _) ∧ (true = false → _)
    refine w_true ?_
    refine step i x hx acc (t + i * c) M2 _ h5 h2 (by omega) (by omega) fun d M3 n3 u3 pd => ?_
    rw [u3 p (Ne.symm n), h1]
    refine ⟨by omega, acc ++ [d], mput_same, ?_, fun b b1 b2 => by rw [mput_ne b2, u3 b b1]; exact h3 b b1 b2, by simp [h4], pd⟩
    obtain ⟨cs, u, f, h, r1, r2, r3⟩ := n3
    refine ⟨cs, u, f, by rw [mput_ne n]; exact h, r1, ?_, r3⟩
    have e3 : ((i + 1 : Nat) : Int) * c = i * c + c := by rw [← e2]; rfl
    omega
  · rintro M2 ⟨acc, h1, h2, h3, h4, h5⟩
    have n : a ≠ p := fun e => by obtain ⟨_, _, _, h, _⟩ := hN; rw [e, hp] at h; cases h
    show match M2 p with | some (.lst acc) => _ | _ => False
    rw [h1]
    refine hq acc _ ?_ (fun b hb => ?_) h4 h5
    · obtain ⟨cs, u, f, h, r⟩ := h2
      exact ⟨cs, u, f, by rw [mdel_ne n]; exact h, r⟩
    · by_cases e : b = p
      · subst e; rw [mdel_same, hp]
      · rw [mdel_ne e]; exact h3 b hb e
/-- pairs in their one form, of a size -/
def PF (r : Int × Int) : Prop := IsF r.1 r.2 ∧ Sz 110 r.1 ∧ Sz 110 r.2
inductive HDs : List D → List (Int × Int) → Prop
  | nil : HDs [] []
  | cons {h : D} {hs : List D} {r : Int × Int} {rs : List (Int × Int)} : HD h r.1 r.2 → HDs hs rs → HDs (h :: hs) (r :: rs)
theorem HDs.snoc : ∀ {hs : List D} {rs : List (Int × Int)} {h : D} {r : Int × Int}, HDs hs rs → HD h r.1 r.2 → HDs (hs ++ [h]) (rs ++ [r])
  | [], [], _, _, _, e => .cons e .nil
  | _ :: _, _ :: _, _, _, .cons a b, e => .cons a (b.snoc e)
theorem HDs.plain : ∀ {hs : List D} {rs : List (Int × Int)}, HDs hs rs → plainDs hs = true
  | _, _, .nil => rfl
  | _, _, .cons a b => by simp only [plainDs, a.pl, b.plain, Bool.and_self]
theorem HDs.nums : ∀ {hs : List D} {rs : List (Int × Int)}, HDs hs rs → hs.all isNumB = true
  | _, _, .nil => rfl
  | _, _, .cons a b => by simp only [List.all_cons, a.nb, b.nums, Bool.and_self]
theorem HDs.frs : ∀ {hs : List D} {rs : List (Int × Int)}, HDs hs rs → hs.map frOf = rs.map frP
  | _, _, .nil => rfl
  | h :: hs, r :: rs, .cons a b => by
    have e : frOf h = frP r := by unfold frOf frP; rw [a.nv]
    rw [List.map_cons, List.map_cons, b.frs, e]
theorem fold_do {AA : Ad} {g : Int × Int → Int × Int → Int × Int} {hs : List D} {p : Int × Int} {ps : List (Int × Int)} {v : D} {M : MH} {F : QD} {E : ED} (H : HDs hs (p :: ps)) (hv : v = .lst hs ∨ v = .tup hs) (hl : hs.length ≤ 16777216) (sz : ∀ r ∈ p :: ps, PF r)
    (k : F (tellD ((p :: ps).foldl g p).1 ((p :: ps).foldl g p).2) M) : spFold AA g [v] M F E := by
  have hs0 : seqD v = some hs := by rcases hv with rfl | rfl <;> rfl
  have hb : badRow v = false := by
    unfold badRow
    rw [hs0]
    cases H with
    | cons a b => simp only [List.isEmpty_cons, List.all_cons, a.nb, b.nums, Bool.and_self, Bool.not_true, Bool.or_self]
  refine ⟨v, rfl, by rcases hv with rfl | rfl <;> exact H.plain, fun xs e => ?_, fun z => absurd (hb.symm.trans z) (by decide), fun xs e _ => ?_⟩
  · rw [hs0] at e
    cases e
    exact hl
  · rw [hs0] at e
    cases e
    exact ⟨p, ps, H.frs, fun r hr => ⟨(sz r hr).2.1.mono (by decide), (sz r hr).2.2.mono (by decide)⟩, k⟩
theorem pick_if {c : TTD} {i j : Nat} {W : WD} {τ : EnvD} {M : MH} {Q : QD} {x y : D} {b : Bool} (hi : getN τ i = some x) (hj : getN τ j = some y) (hc : ∀ QT : Bool → MH → Prop, QT b M → c W τ M QT) (k : Q (if b then x else y) M) : tIfE c (tVarD i) (tVarD j) W τ M Q := by
  refine w_ifE (hc _ ?_)
  cases b
  · exact w_false (w_var hj k)
  · exact w_true (w_var hi k)
def sp__law_some_right (AA : Ad) : SpD := fun ds M F _ => ∃ (p : Addr) (t : Int), ds = [.ref p] ∧ NutAt M p t ∧ t + 31 ≤ 8000000 ∧ ∀ M', NutAt M' p (t + 31) → Upd1 M p M' → F (.bl true) M'
def t__law_some_right (AA : Ad) : TSD := (tSeqD (tSetD 1 (tLcD (iRngD (tConsD (tOpD rdAdd (tCD (.int 1)) (tCallD spSieve (tConsD (tVarD 0) (tConsD (tCD (.int 6)) tNilD)))) tNilD)) (gNameD 7) tYesD (tCallD (sp__law_number AA) (tConsD (tVarD 0) tNilD)) [7]))
  (tSeqD (tParD 2 3 (tConsD (tOpD rdIx (tVarD 1) (tCD (.int 0))) (tConsD (tOpD rdIx (tVarD 1) (tCD (.int 0))) tNilD)))
  (tSeqD (tForD (iSeqD (tVarD 1)) (gNameD 4)
    (tSeqD (tSetD 2 (tIfE (tTestB (tOpD (rdB fun i j => decide (i < j)) (tOpD rdMul (tOpD rdIx (tVarD 4) (tCD (.int 0))) (tOpD rdIx (tVarD 2) (tCD (.int 1)))) (tOpD rdMul (tOpD rdIx (tVarD 2) (tCD (.int 0))) (tOpD rdIx (tVarD 4) (tCD (.int 1)))))) (tVarD 4) (tVarD 2)))
  (tSetD 3 (tIfE (tTestB (tOpD (rdB fun i j => decide (i < j)) (tOpD rdMul (tOpD rdIx (tVarD 3) (tCD (.int 0))) (tOpD rdIx (tVarD 4) (tCD (.int 1)))) (tOpD rdMul (tOpD rdIx (tVarD 4) (tCD (.int 0))) (tOpD rdIx (tVarD 3) (tCD (.int 1)))))) (tVarD 4) (tVarD 3)))))
  (tSeqD (tSetD 5 (tLcD (iSeqD (tVarD 1)) (gNameD 4) tYesD (tCallD (sp__law_handed AA) (tConsD (tVarD 0) (tConsD (tVarD 4) tNilD))) [4]))
  (tSeqD (tSetD 6 (tLstD (tConsD (tCallD (sp_least AA) (tConsD (tVarD 5) tNilD)) (tConsD (tCallD (sp_greatest AA) (tConsD (tVarD 5) tNilD)) (tConsD (tCallKD (sp_least AA) [0] (tConsD (tTupOf (tVarD 5)) tNilD)) (tConsD (tCallKD (sp_greatest AA) [0] (tConsD (tTupOf (tVarD 5)) tNilD)) tNilD))))))
  (tRetD (tOpD rdEq (tReprD (tVarD 6)) (tReprD (tRepD 2 (tConsD (tCallD (sp__law_told AA) (tConsD (tVarD 2) tNilD)) (tConsD (tCallD (sp__law_told AA) (tConsD (tVarD 3) tNilD)) tNilD)))))))))))
theorem wp__law_some_right (AA : Ad) : ∀ ds M F FE, sp__law_some_right AA ds M F FE → t__law_some_right AA (fun C fs _ M => FE C fs M) { nx := fun _ M => F .non M, rt := F } (startD ["_law_bead_here", "_law_some", "_law_low_here", "_law_high", "_law_pair_here", "_law_handed_here", "_law_told_here", "_law_turn"] ds) M := by
  rintro ds M F FE ⟨q, t, rfl, hN, ht, k⟩
  unfold t__law_some_right
  walk_at "z"
  refine w_lc ?_
  walk_at "z"
  refine sieve_do hN (by omega) (by decide) (by decide) fun n M1 n0 n1 N1 u1 => ?_
  walk_at "z"
  refine ⟨⟨by omega, by omega⟩, ?_⟩
  have hlen : (upFrom 0 (1 + n).toNat).length = (1 + n).toNat := upFrom_len
  refine lc_drawJ (J := fun i acc => ∃ ps : List (Int × Int), acc = ps.map frP ∧ ps.length = i ∧ ∀ r ∈ ps, PF r) (c := 4) (upFrom 0 (1 + n).toNat) M1 N1 (by decide) (by rw [hlen]; omega) ⟨[], rfl, rfl, fun r h => nomatch h⟩ ?_ ?_ (fun R h => h)
  · rintro i x hx acc t' M3 R ⟨ps, rfl, hi, hp⟩ n3 t1 t2 r
    walk_at "z"
    rw [hlen] at t2
    refine number_do n3 (by omega) fun a b M4 n4 u4 h s1 s2 => r _ _ n4 u4 ⟨ps ++ [(a, b)], by rw [List.map_append]; rfl, by rw [List.length_append, hi]; rfl, fun r hr => ?_⟩
    rcases List.mem_append.mp hr with hr | hr
    · exact hp r hr
    · rw [List.mem_singleton] at hr
      rw [hr]
      exact ⟨h, s1, s2⟩
  · rintro ds M3 n3 u3 hl ⟨rs, rfl, hr, hp⟩
    rw [hlen] at hr n3
    obtain ⟨p, ps, rfl⟩ : ∃ p ps, rs = p :: ps := by
      cases rs with
      | nil => exfalso; rw [List.length_nil] at hr; omega
      | cons p ps => exact ⟨p, ps, rfl⟩
    have hg1 : ∀ p q, minP p q = p ∨ minP p q = q := fun p q => by unfold minP; split <;> simp
    have hg2 : ∀ p q, maxP p q = p ∨ maxP p q = q := fun p q => by unfold maxP; split <;> simp
    have mo : ∀ {x y : Int}, Sz 110 x → Sz 110 y → MulOk x y := fun hx hy => mulOk_sz hx hy (by decide) (by decide)
    walk_at "z"
    refine w_ixL (x := frP p) (by exact atI_nat (by rfl)) ?_
    walk_at "z"
    refine w_ixL (x := frP p) (by exact atI_nat (by rfl)) ?_
    walk_at "z"
    refine w_for ?_
    walk_at "z"
    refine ⟨fun i τ' M' => M' = M3 ∧ ∃ x4, τ' = [some (.ref q), some (.lst ((p :: ps).map frP)), some (frP (((p :: ps).take i).foldl minP p)), some (frP (((p :: ps).take i).foldl maxP p)), x4, none, none, none], ⟨rfl, none, rfl⟩, ?_, ?_⟩
    · rintro i x τ' M' hi ⟨rfl, x4, rfl⟩
      rw [List.getElem?_map] at hi
      cases hr2 : (p :: ps)[i]? with
      | none => rw [hr2] at hi; cases hi
      | some r =>
        rw [hr2] at hi
        cases hi
        have s1 : PF (((p :: ps).take i).foldl minP p) := fold_mem hg1 _ _ (hp p List.mem_cons_self) fun r hr => hp r (List.mem_of_mem_take hr)
        have s3 : PF (((p :: ps).take i).foldl maxP p) := fold_mem hg2 _ _ (hp p List.mem_cons_self) fun r hr => hp r (List.mem_of_mem_take hr)
        have s2 := hp r (List.mem_of_getElem? hr2)
        have et : (p :: ps).take (i + 1) = (p :: ps).take i ++ [r] := by rw [List.take_add_one, hr2]; rfl
        refine w_gname (w_seq (w_set ?_))
        refine pick_if (x := frP r) (y := frP (((p :: ps).take i).foldl minP p)) (b := lessP r (((p :: ps).take i).foldl minP p)) (by exact rfl) (by exact rfl) (fun QT h => ?_) ?_
        · walk_at "z"
          refine w_ixT (x := .int r.1) rfl ?_
          walk_at "z"
          refine w_ixT (x := .int (((p :: ps).take i).foldl minP p).2) rfl ?_
          refine w_rdMul (mo s2.2.1 s1.2.2) ?_
          walk_at "z"
          refine w_ixT (x := .int (((p :: ps).take i).foldl minP p).1) rfl ?_
          walk_at "z"
          refine w_ixT (x := .int r.2) rfl ?_
          refine w_rdMul (mo s1.2.1 s2.2.2) ?_
          walk_at "z"
          exact h
        have em : (if lessP r (((p :: ps).take i).foldl minP p) then frP r else frP (((p :: ps).take i).foldl minP p)) = frP (minP (((p :: ps).take i).foldl minP p) r) := by
          unfold minP
          split <;> rfl
        rw [em]
        with_reducible dsimp only
        refine w_set ?_
        refine pick_if (x := frP r) (y := frP (((p :: ps).take i).foldl maxP p)) (b := lessP (((p :: ps).take i).foldl maxP p) r) (by exact rfl) (by exact rfl) (fun QT h => ?_) ?_
        · walk_at "z"
          refine w_ixT (x := .int (((p :: ps).take i).foldl maxP p).1) rfl ?_
          walk_at "z"
          refine w_ixT (x := .int r.2) rfl ?_
          refine w_rdMul (mo s3.2.1 s2.2.2) ?_
          walk_at "z"
          refine w_ixT (x := .int r.1) rfl ?_
          walk_at "z"
          refine w_ixT (x := .int (((p :: ps).take i).foldl maxP p).2) rfl ?_
          refine w_rdMul (mo s2.2.1 s3.2.2) ?_
          walk_at "z"
          exact h
        have em2 : (if lessP (((p :: ps).take i).foldl maxP p) r then frP r else frP (((p :: ps).take i).foldl maxP p)) = frP (maxP (((p :: ps).take i).foldl maxP p) r) := by
          unfold maxP
          split <;> rfl
        rw [em2]
        walk_at "z"
        refine ⟨rfl, some (frP r), ?_⟩
        rw [et, List.foldl_append, List.foldl_cons, List.foldl_nil, List.foldl_append, List.foldl_cons, List.foldl_nil]
        rfl
    · rintro τ' M' ⟨rfl, x4, rfl⟩
      rw [List.length_map, List.take_length]
      have s1 : PF ((p :: ps).foldl minP p) := fold_mem hg1 _ _ (hp p List.mem_cons_self) hp
      have s3 : PF ((p :: ps).foldl maxP p) := fold_mem hg2 _ _ (hp p List.mem_cons_self) hp
      generalize hmn : (p :: ps).foldl minP p = mn at s1
      generalize hmx : (p :: ps).foldl maxP p = mx at s3
      walk_at "z"
      refine lc_drawJ (J := fun i acc => HDs acc ((p :: ps).take i)) (c := 1) ((p :: ps).map frP) _ n3 (by decide) (by rw [List.length_map, hr]; omega) .nil ?_ ?_ (fun R h => w_seqI (w_var rfl h))
      · rintro i x hx acc t' M4 R hJ n4 t1 t2 r
        rw [List.getElem?_map] at hx
        cases hr2 : (p :: ps)[i]? with
        | none => rw [hr2] at hx; cases hx
        | some w =>
          rw [hr2] at hx
          cases hx
          rw [List.length_map, hr] at t2
          have et : (p :: ps).take (i + 1) = (p :: ps).take i ++ [w] := by rw [List.take_add_one, hr2]; rfl
          have s2 := hp w (List.mem_of_getElem? hr2)
          walk_at "z"
          refine handed_do n4 (by omega) s2.1 (s2.2.2.mono (by decide)) fun x M5 n5 u5 hx => r _ _ n5 u5 ?_
          rw [et]
          exact hJ.snoc hx
      · rintro hs M4 n4 u4 hl4 hJ
        rw [List.length_map, List.take_length] at hJ
        rw [List.length_map] at hl4 n4
        have hl5 : hs.length ≤ 16777216 := by rw [hl4, hr]; omega
        obtain ⟨y, ey, oky⟩ := rd_list (ds := [tellD mn.1 mn.2, tellD mx.1 mx.2, tellD mn.1 mn.2, tellD mx.1 mx.2]) (by
          intro x hx
          simp only [List.mem_cons, List.not_mem_nil, or_false] at hx
          have r1 := rd_tell (s1.2.1.mono (by decide)) (s1.2.2.mono (by decide))
          have r2 := rd_tell (s3.2.1.mono (by decide)) (s3.2.2.mono (by decide))
          rcases hx with rfl | rfl | rfl | rfl <;> assumption) (by show 4 ≤ 1000; decide)
        walk_at "z"
        refine fold_do hJ (.inl rfl) hl5 hp ?_
        rw [hmn]
        walk_at "z"
        refine fold_do hJ (.inl rfl) hl5 hp ?_
        rw [hmx]
        walk_at "z"
        refine fold_do hJ (.inr rfl) hl5 hp ?_
        rw [hmn]
        walk_at "z"
        refine fold_do hJ (.inr rfl) hl5 hp ?_
        rw [hmx]
        walk_at "z"
        refine w_small (by show 4 ≤ 16777216; decide) ?_
        walk_at "z"
        rw [ey]
        refine ⟨oky, ?_⟩
        unfold tRepD
        walk_at "z"
        refine told_do s1.1 (s1.2.2.mono (by decide)) ?_
        walk_at "z"
        refine told_do s3.1 (s3.2.2.mono (by decide)) ?_
        walk_at "z"
        refine ⟨by decide, by decide, by show 2 ≤ 1000; decide, ?_⟩
        rw [show (List.replicate (2 : Int).toNat [tellD mn.1 mn.2, tellD mx.1 mx.2]).flatten = [tellD mn.1 mn.2, tellD mx.1 mx.2, tellD mn.1 mn.2, tellD mx.1 mx.2] from rfl]
        rw [ey]
        refine ⟨oky, ?_⟩
        refine w_eq (eq_self_str _) ?_
        refine k _ (n4.mono ?_) (u1.trans (u3.trans u4))
        rw [hr]
        omega
end Z

set_option Elab.async false
set_option linter.all false
set_option maxRecDepth 100000
set_option maxHeartbeats 4000000
namespace Z
local macro_rules | `(tactic| walk_at "z at") => `(tactic| first | rfl | (simp only [atI, ixN, List.length_cons, List.length_nil, List.length_map]; rfl) | assumption)
local macro_rules | `(tactic| walk_at "z1") => `(tactic| first
  | with_reducible refine w_seq ?_ | with_reducible refine w_set ?_ | with_reducible refine w_ret ?_ | with_reducible refine w_if ?_ | with_reducible refine w_asg ?_ | with_reducible refine w_next ?_ | with_reducible refine w_setIx ?_ | with_reducible refine w_par ?_
  | ((with_reducible refine' w_var ?h ?_); (case h => exact rfl))
  | with_reducible refine w_c ?_ | with_reducible refine w_op ?_ | with_reducible refine w_un ?_ | with_reducible refine w_cons ?_ | with_reducible refine w_nil ?_ | with_reducible refine w_cb ?_
  | with_reducible refine w_call ?_ | with_reducible refine w_callK ?_ | with_reducible refine w_testB ?_ | with_reducible refine w_tru ?_ | with_reducible refine w_andD ?_ | with_reducible refine w_orD ?_ | with_reducible refine w_notD ?_
  | with_reducible refine w_andE ?_ | with_reducible refine w_orE ?_ | with_reducible refine w_notE ?_ | with_reducible refine w_ifE ?_ | with_reducible refine w_is ?_ | with_reducible refine w_isN ?_ | with_reducible refine w_notN ?_ | with_reducible refine w_tupOf ?_
  | with_reducible refine w_tup ?_ | with_reducible refine w_lst ?_ | with_reducible refine w_lstM ?_ | with_reducible refine w_sl ?_ | with_reducible refine w_part ?_ | with_reducible refine w_noPart ?_ | with_reducible refine w_repr ?_ | with_reducible refine w_seqI ?_
  | with_reducible refine w_rdI ?_ | with_reducible refine w_rdB ?_ | with_reducible refine w_rdAdd ?_ | with_reducible refine w_neg ?_ | with_reducible refine w_lenL ?_ | with_reducible refine w_lenT ?_ | with_reducible refine w_abs ?_ | with_reducible refine w_int ?_ | with_reducible refine w_intB ?_ | with_reducible refine w_gcd ?_
  | with_reducible refine w_gname ?_ | with_reducible refine w_gnil ?_ | with_reducible refine w_gcons ?_
  | with_reducible refine w_true ?_ | with_reducible refine w_false ?_
  | dsimp only [truthD, seqD, isNonD, permL, List.filterMap] | with_reducible refine w_drop ?_ | with_reducible refine w_retN ?_ | with_reducible refine w_nilP ?_ | with_reducible refine w_consP ?_ | with_reducible refine w_rng ?_ | with_reducible refine w_cont ?_ | with_reducible refine w_brk ?_)
local macro_rules | `(tactic| walk_at "z") => `(tactic| repeat walk_at "z1")
open PySem L2
/-! ### what is refused -/
local macro_rules | `(tactic| walk_at "zz") => `(tactic| repeat first | walk_at "z1" | refine w_small (Nat.le_of_ble_eq_true rfl) ?_)
def badL : List D := [.non, .bl true, .str "1", .tup [.int 2, .int 4], .tup [.int 3, .int 1], .tup [.int 1, .int 0], .tup [.int 1, .int (-2)], .tup [.int 0, .int 5], .tup [.int 1, .int 2, .int 3], .tup [.int 1], .lst [], .dct [], .tup [.bl true, .int 2], .str "7/2"]
theorem bad_all : badL.all (fun d => plainD d && !isNumB d) = true := by decide +kernel
theorem bad_is {d : D} (h : d ∈ badL) : plainD d = true ∧ isNumB d = false := by
  have := List.all_eq_true.mp bad_all d h
  simpa using this
def fewL : List D := [.non, .bl true, .str "1", .tup [.int 1, .int 2], .lst []]
theorem few_all : fewL.all (fun d => plainD d && !isIntB d) = true := by decide +kernel
theorem few_is {d : D} (h : d ∈ fewL) : plainD d = true ∧ isIntB d = false := by
  have := List.all_eq_true.mp few_all d h
  simpa using this
def sixL (AA : Ad) : List (Addr × SpD) := [(AA.a_plus, sp_plus AA), (AA.a_minus, sp_minus AA), (AA.a_times, sp_times AA), (AA.a_over, sp_over AA), (AA.a_distance, sp_distance AA), (AA.a_is_less, sp_is_less AA)]
def twoL (AA : Ad) : List (Addr × SpD) := [(AA.a_least, sp_least AA), (AA.a_greatest, sp_greatest AA)]
theorem hd_half : HD (.tup [.int 1, .int 2]) 1 2 := ⟨rfl, by decide +kernel, rfl⟩
theorem hd_three : HD (.lst [.int 3, .int 2]) 3 2 := ⟨rfl, by decide +kernel, rfl⟩
theorem szs_half : szs 1 2 3 2 := ⟨by unfold Sz; decide +kernel, by unfold Sz; decide +kernel, by unfold Sz; decide +kernel, by unfold Sz; decide +kernel⟩
theorem six_is {AA : Ad} {pr : Addr × SpD} (h : pr ∈ sixL AA) : (∃ R, pr.2 = spTwo AA R) ∧ ∀ M F E, (∀ d, F d M) → pr.2 [.tup [.int 1, .int 2], .lst [.int 3, .int 2]] M F E := by
  unfold sixL at h
  simp only [List.mem_cons, List.not_mem_nil, or_false] at h
  rcases h with rfl | rfl | rfl | rfl | rfl | rfl
  · exact ⟨⟨_, rfl⟩, fun M F E k => plus_do hd_half hd_three szs_half (k _)⟩
  · exact ⟨⟨_, rfl⟩, fun M F E k => minus_do hd_half hd_three szs_half (k _)⟩
  · exact ⟨⟨_, rfl⟩, fun M F E k => times_do hd_half hd_three szs_half (k _)⟩
  · exact ⟨⟨_, rfl⟩, fun M F E k => over_do hd_half hd_three szs_half (by decide) (k _)⟩
  · exact ⟨⟨_, rfl⟩, fun M F E k => distance_do hd_half hd_three szs_half (k _)⟩
  · exact ⟨⟨_, rfl⟩, fun M F E k => is_less_do hd_half hd_three szs_half (k _)⟩
theorem two_is {AA : Ad} {pr : Addr × SpD} (h : pr ∈ twoL AA) : ∃ g, pr.2 = spFold AA g := by
  unfold twoL at h
  simp only [List.mem_cons, List.not_mem_nil, or_false] at h
  rcases h with rfl | rfl
  · exact ⟨minP, rfl⟩
  · exact ⟨maxP, rfl⟩
theorem at_ref {l : List (Addr × SpD)} {i : Nat} {x : D} (h : (l.map fun p => D.ref p.1)[i]? = some x) : ∃ pr ∈ l, x = .ref pr.1 := by
  rw [List.getElem?_map] at h
  cases e : l[i]? with
  | none => rw [e] at h; cases h
  | some pr => rw [e] at h; cases h; exact ⟨pr, List.mem_of_getElem? e, rfl⟩
theorem fold_bad {AA : Ad} {g : Int × Int → Int × Int → Int × Int} {v : D} {M : MH} {F : QD} {E : ED} (hp : plainD v = true) (hl : ∀ xs, seqD v = some xs → xs.length ≤ 16777216) (hb : badRow v = true) (k : E AA.c_BadNumber [("part", .str "values")] M) : spFold AA g [v] M F E :=
  ⟨v, rfl, hp, hl, fun _ => k, fun xs _ z => absurd (hb.symm.trans z) (by decide)⟩
def rowsL (d : D) : List D := [.non, .int 5, .tup [], .lst [], .lst [.int 1, d], .tup [d], .str "12", .dct []]
theorem rows_is {d x : D} (hp : plainD d = true) (hn : isNumB d = false) (h : x ∈ rowsL d) : plainD x = true ∧ (∀ xs, seqD x = some xs → xs.length ≤ 16777216) ∧ badRow x = true := by
  unfold rowsL at h
  simp only [List.mem_cons, List.not_mem_nil, or_false] at h
  rcases h with rfl | rfl | rfl | rfl | rfl | rfl | rfl | rfl
  · exact ⟨rfl, (fun xs e => nomatch e), rfl⟩
  · exact ⟨rfl, (fun xs e => nomatch e), rfl⟩
  · exact ⟨rfl, fun xs e => by cases e; decide, rfl⟩
  · exact ⟨rfl, fun xs e => by cases e; decide, rfl⟩
  · exact ⟨by simp [plainD, plainDs, hp], fun xs e => by cases e; show 2 ≤ 16777216; decide, by simp [badRow, seqD, hn]⟩
  · exact ⟨by simp [plainD, plainDs, hp], fun xs e => by cases e; show 1 ≤ 16777216; decide, by simp [badRow, seqD, hn]⟩
  · exact ⟨rfl, (fun xs e => nomatch e), rfl⟩
  · exact ⟨rfl, (fun xs e => nomatch e), rfl⟩
section
variable {AA : Ad} {M : MH} {F : QD} {E : ED} {d : D}
theorem ratio_bad1 (hp : plainD d = true) (hn : isIntB d = false) (k : E AA.c_BadNumber [("part", .str "above")] M) : sp_ratio AA [d, .int 0] M F E :=
  ⟨d, .int 0, rfl, hp, rfl, fun _ => k, fun z => absurd (hn.symm.trans z) (by decide), fun a b e _ _ => by subst e; exact nomatch hn⟩
theorem ratio_bad2 (hp : plainD d = true) (hn : isIntB d = false) (k : E AA.c_BadNumber [("part", .str "below")] M) : sp_ratio AA [.int 1, d] M F E :=
  ⟨.int 1, d, rfl, rfl, hp, (fun z => nomatch z), fun _ _ => k, fun a b _ e _ => by subst e; exact nomatch hn⟩
theorem ratio_bad3 (k : E AA.c_BadNumber [("part", .str "below")] M) : sp_ratio AA [.int 0, .int 0] M F E :=
  ⟨.int 0, .int 0, rfl, rfl, rfl, (fun z => nomatch z), fun _ _ => k, fun a b _ e hb => by cases e; exact absurd rfl hb⟩
end
def sp__law_refused_right (AA : Ad) : SpD := fun ds M F _ => ∃ (p : Addr) (t : Int), ds = [.ref p] ∧ NutAt M p t ∧ t + 3 ≤ 8000000 ∧ M AA.P__law_refused_right = some (.tbl qn__law_refused_right) ∧ ∀ M', NutAt M' p (t + 3) → Upd1 M p M' → F (.bl true) M'
def t__law_refused_right (AA : Ad) : TSD := (tSeqD (tSetD 1 (tLstD (tConsD (tCD .non) (tConsD (tCD (.bl true)) (tConsD (tCD (.str "1")) (tConsD (tTupD (tConsD (tCD (.int 2)) (tConsD (tCD (.int 4)) tNilD))) (tConsD (tTupD (tConsD (tCD (.int 3)) (tConsD (tCD (.int 1)) tNilD))) (tConsD (tTupD (tConsD (tCD (.int 1)) (tConsD (tCD (.int 0)) tNilD))) (tConsD (tTupD (tConsD (tCD (.int 1)) (tConsD (tUnD rdNeg (tCD (.int 2))) tNilD))) (tConsD (tTupD (tConsD (tCD (.int 0)) (tConsD (tCD (.int 5)) tNilD))) (tConsD (tTupD (tConsD (tCD (.int 1)) (tConsD (tCD (.int 2)) (tConsD (tCD (.int 3)) tNilD)))) (tConsD (tTupD (tConsD (tCD (.int 1)) tNilD)) (tConsD (tLstD tNilD) (tConsD (tCD (.dct [])) (tConsD (tTupD (tConsD (tCD (.bl true)) (tConsD (tCD (.int 2)) tNilD))) (tConsD (tCD (.str "7/2")) tNilD))))))))))))))))
  (tSeqD (tAsgD (tTupD (tConsD (tCallD spPick (tConsD (tVarD 0) (tConsD (tVarD 1) tNilD))) (tConsD (tCallD spPick (tConsD (tVarD 0) (tConsD (tVarD 1) tNilD))) tNilD))) (gTupD 2 (gConsD (gNameD 2) (gConsD (gNameD 3) gNilD))))
  (tSeqD (tForD (iSeqD (tTupD (tConsD (tCD (.ref AA.a_plus)) (tConsD (tCD (.ref AA.a_minus)) (tConsD (tCD (.ref AA.a_times)) (tConsD (tCD (.ref AA.a_over)) (tConsD (tCD (.ref AA.a_distance)) (tConsD (tCD (.ref AA.a_is_less)) tNilD)))))))) (gNameD 4)
    (tSeqD (tSetD 5 (tLstD (tConsD (tLamD AA.P__law_refused_right qn__law_refused_right [4, 2, 3] ["_law_ask", "_law_none", "_law_also"] none (spg__law_heard AA) (tCallV 0 [(AA.a_plus, (sp_plus AA)), (AA.a_minus, (sp_minus AA)), (AA.a_times, (sp_times AA)), (AA.a_over, (sp_over AA)), (AA.a_distance, (sp_distance AA)), (AA.a_is_less, (sp_is_less AA)), (AA.a_least, (sp_least AA)), (AA.a_greatest, (sp_greatest AA))] (tConsD (tVarD 1) (tConsD (tVarD 2) tNilD)))) (tConsD (tLamD AA.P__law_refused_right qn__law_refused_right [4, 3] ["_law_x1", "_law_ask", "_law_also"] (some 0) (spg__law_heard AA) (tCallV 1 [(AA.a_plus, (sp_plus AA)), (AA.a_minus, (sp_minus AA)), (AA.a_times, (sp_times AA)), (AA.a_over, (sp_over AA)), (AA.a_distance, (sp_distance AA)), (AA.a_is_less, (sp_is_less AA)), (AA.a_least, (sp_least AA)), (AA.a_greatest, (sp_greatest AA))] (tConsD (tCD (.int 7)) (tConsD (tVarD 2) tNilD)))) (tConsD (tLamD AA.P__law_refused_right qn__law_refused_right [4] ["_law_x2", "_law_ask"] (some 0) (spg__law_heard AA) (tCallV 1 [(AA.a_plus, (sp_plus AA)), (AA.a_minus, (sp_minus AA)), (AA.a_times, (sp_times AA)), (AA.a_over, (sp_over AA)), (AA.a_distance, (sp_distance AA)), (AA.a_is_less, (sp_is_less AA)), (AA.a_least, (sp_least AA)), (AA.a_greatest, (sp_greatest AA))] (tConsD (tTupD (tConsD (tCD (.int 1)) (tConsD (tCD (.int 2)) tNilD))) (tConsD (tLstD (tConsD (tCD (.int 3)) (tConsD (tCD (.int 2)) tNilD))) tNilD)))) tNilD)))))
  (tIfD (tTestB (tOpD rdNe (tVarD 5) (tLstD (tConsD (tTupD (tConsD (tCD (.str "number")) (tConsD (tCD (.str "one")) tNilD))) (tConsD (tTupD (tConsD (tCD (.str "number")) (tConsD (tCD (.str "other")) tNilD))) (tConsD (tCD .non) tNilD))))))
    (tRetD (tCD (.bl false)))
    tNextD)))
  (tSeqD (tForD (iSeqD (tTupD (tConsD (tCD (.ref AA.a_least)) (tConsD (tCD (.ref AA.a_greatest)) tNilD)))) (gNameD 4)
    (tForD (iSeqD (tTupD (tConsD (tCD .non) (tConsD (tCD (.int 5)) (tConsD (tTupD tNilD) (tConsD (tLstD tNilD) (tConsD (tLstD (tConsD (tCD (.int 1)) (tConsD (tVarD 2) tNilD))) (tConsD (tTupD (tConsD (tVarD 2) tNilD)) (tConsD (tCD (.str "12")) (tConsD (tCD (.dct [])) tNilD)))))))))) (gNameD 6)
    (tIfD (tTestB (tOpD rdNe (tLamD AA.P__law_refused_right qn__law_refused_right [4, 6] ["_law_ask", "_law_rows"] none (spg__law_heard AA) (tCallV 0 [(AA.a_plus, (sp_plus AA)), (AA.a_minus, (sp_minus AA)), (AA.a_times, (sp_times AA)), (AA.a_over, (sp_over AA)), (AA.a_distance, (sp_distance AA)), (AA.a_is_less, (sp_is_less AA)), (AA.a_least, (sp_least AA)), (AA.a_greatest, (sp_greatest AA))] (tConsD (tVarD 1) tNilD))) (tTupD (tConsD (tCD (.str "number")) (tConsD (tCD (.str "values")) tNilD)))))
    (tRetD (tCD (.bl false)))
    tNextD)))
  (tSeqD (tSetD 7 (tCallD spPick (tConsD (tVarD 0) (tConsD (tLstD (tConsD (tCD .non) (tConsD (tCD (.bl true)) (tConsD (tCD (.str "1")) (tConsD (tTupD (tConsD (tCD (.int 1)) (tConsD (tCD (.int 2)) tNilD))) (tConsD (tLstD tNilD) tNilD)))))) tNilD))))
  (tSeqD (tSetD 5 (tLstD (tConsD (tLamD AA.P__law_refused_right qn__law_refused_right [7] ["_law_few"] none (spg__law_heard AA) (tCallD (sp_ratio AA) (tConsD (tVarD 0) (tConsD (tCD (.int 0)) tNilD)))) (tConsD (tLamD AA.P__law_refused_right qn__law_refused_right [7] ["_law_x1", "_law_few"] (some 0) (spg__law_heard AA) (tCallD (sp_ratio AA) (tConsD (tCD (.int 1)) (tConsD (tVarD 1) tNilD)))) (tConsD (tLamD AA.P__law_refused_right qn__law_refused_right [] ["_law_x2"] (some 0) (spg__law_heard AA) (tCallD (sp_ratio AA) (tConsD (tCD (.int 0)) (tConsD (tCD (.int 0)) tNilD)))) tNilD)))))
  (tRetD (tOpD rdEq (tVarD 5) (tLstD (tConsD (tTupD (tConsD (tCD (.str "number")) (tConsD (tCD (.str "above")) tNilD))) (tConsD (tTupD (tConsD (tCD (.str "number")) (tConsD (tCD (.str "below")) tNilD))) (tConsD (tTupD (tConsD (tCD (.str "number")) (tConsD (tCD (.str "below")) tNilD))) tNilD))))))))))))
theorem wp__law_refused_right (AA : Ad) : ∀ ds M F FE, sp__law_refused_right AA ds M F FE → t__law_refused_right AA (fun C fs _ M => FE C fs M) { nx := fun _ M => F .non M, rt := F } (startD ["_law_bead_here", "_law_bad", "_law_none", "_law_also", "_law_ask", "_law_heard_here", "_law_rows", "_law_few"] ds) M := by
  rintro ds M F FE ⟨p, t, rfl, hN, ht, hP, k⟩
  unfold t__law_refused_right
  walk_at "zz"
  refine pick_do hN (by omega) (Nat.le_of_ble_eq_true rfl) (Nat.le_of_ble_eq_true rfl) fun d1 M1 hd1 n1 u1 => ?_
  have b1 := bad_is (show d1 ∈ badL from hd1)
  walk_at "zz"
  refine pick_do n1 (by omega) (Nat.le_of_ble_eq_true rfl) (Nat.le_of_ble_eq_true rfl) fun d2 M2 hd2 n2 u2 => ?_
  have b2 := bad_is (show d2 ∈ badL from hd2)
  have hP2 : M2 AA.P__law_refused_right = some (.tbl qn__law_refused_right) := tbl_keep n1 u2 (tbl_keep hN u1 hP)
  have u02 := u1.trans u2
  clear n1 u1 u2 hN hP
  walk_at "zz"
  refine w_gtup (xs := [d1, d2]) rfl rfl (w_gcons (w_gname (w_gcons (w_gname (w_gnil ?_)))))
  walk_at "zz"
  refine ⟨fun i τ' M' => M' = M2 ∧ ∃ x4 x5, τ' = [some (.ref p), some (.lst badL), some d1, some d2, x4, x5, none, none], ⟨rfl, none, none, rfl⟩, ?_, ?_⟩
  · rintro i x τ' M' hx ⟨rfl, x4, x5, rfl⟩
    obtain ⟨pr, hpr, rfl⟩ := at_ref (l := sixL AA) hx
    obtain ⟨⟨R, eR⟩, ok⟩ := six_is hpr
    have mem : pr ∈ [(AA.a_plus, sp_plus AA), (AA.a_minus, sp_minus AA), (AA.a_times, sp_times AA), (AA.a_over, sp_over AA), (AA.a_distance, sp_distance AA), (AA.a_is_less, sp_is_less AA), (AA.a_least, sp_least AA), (AA.a_greatest, sp_greatest AA)] := List.mem_append_left (twoL AA) hpr
    walk_at "zz"
    refine heard_num (x := .str "one") hP2 rfl ?_ (fun E Q' M3 e => ⟨pr, mem, rfl, ?_⟩)
    rotate_left
    · walk_at "zz"
      rw [eR]
      exact two_bad1 b1.1 b2.1 b1.2 e
    walk_at "zz"
    refine heard_num (x := .str "other") hP2 rfl ?_ (fun E Q' M3 e => ⟨pr, mem, rfl, ?_⟩)
    rotate_left
    · walk_at "zz"
      rw [eR]
      exact two_bad2 rfl b2.1 rfl b2.2 e
    walk_at "zz"
    refine heard_non hP2 rfl ?_ (fun E Q' M3 e => ⟨pr, mem, rfl, ?_⟩)
    rotate_left
    · walk_at "zz"
      exact ok _ _ _ e
    walk_at "zz"
    refine w_ne (b := true) (by decide +kernel) ?_
    refine w_false ?_
    walk_at "zz"
    exact ⟨rfl, _, _, rfl⟩
  · rintro τ' M' ⟨rfl, x4, x5, rfl⟩
    walk_at "zz"
    refine ⟨fun i τ' M'' => M'' = M' ∧ ∃ x4 x5 x6, τ' = [some (.ref p), some (.lst badL), some d1, some d2, x4, x5, x6, none], ⟨rfl, _, _, _, rfl⟩, ?_, ?_⟩
    · rintro i x τ' M'' hx ⟨rfl, x4, x5, x6, rfl⟩
      obtain ⟨pr, hpr, rfl⟩ := at_ref (l := twoL AA) hx
      obtain ⟨g, eg⟩ := two_is hpr
      have mem : pr ∈ [(AA.a_plus, sp_plus AA), (AA.a_minus, sp_minus AA), (AA.a_times, sp_times AA), (AA.a_over, sp_over AA), (AA.a_distance, sp_distance AA), (AA.a_is_less, sp_is_less AA), (AA.a_least, sp_least AA), (AA.a_greatest, sp_greatest AA)] := List.mem_append_right (sixL AA) hpr
      walk_at "zz"
      refine ⟨fun i τ' M3 => M3 = M'' ∧ ∃ x6, τ' = [some (.ref p), some (.lst badL), some d1, some d2, some (.ref pr.1), x5, x6, none], ⟨rfl, _, rfl⟩, ?_, ?_⟩
      · rintro j y τ2 M3 hy ⟨rfl, x6, rfl⟩
        obtain ⟨r1, r2, r3⟩ := rows_is b1.1 b1.2 (show y ∈ rowsL d1 from List.mem_of_getElem? hy)
        walk_at "zz"
        refine heard_num (x := .str "values") hP2 rfl ?_ (fun E Q' M4 e => ⟨pr, mem, rfl, ?_⟩)
        rotate_left
        · walk_at "zz"
          rw [eg]
          exact fold_bad r1 r2 r3 e
        walk_at "zz"
        refine w_ne (b := true) (by decide +kernel) ?_
        refine w_false ?_
        walk_at "zz"
        exact ⟨rfl, _, rfl⟩
      · rintro τ2 M3 ⟨rfl, x6, rfl⟩
        exact ⟨rfl, _, _, _, rfl⟩
    · rintro τ' M'' ⟨rfl, x4, x5, x6, rfl⟩
      walk_at "zz"
      refine pick_do n2 (by omega) (Nat.le_of_ble_eq_true rfl) (Nat.le_of_ble_eq_true rfl) fun d3 M3 hd3 n3 u3 => ?_
      have b3 := few_is (show d3 ∈ fewL from hd3)
      have hP3 := tbl_keep n2 u3 hP2
      walk_at "zz"
      refine heard_num (x := .str "above") hP3 rfl ?_ (fun E Q' M4 e => ?_)
      rotate_left
      · walk_at "zz"
        exact ratio_bad1 b3.1 b3.2 e
      walk_at "zz"
      refine heard_num (x := .str "below") hP3 rfl ?_ (fun E Q' M4 e => ?_)
      rotate_left
      · walk_at "zz"
        exact ratio_bad2 b3.1 b3.2 e
      walk_at "zz"
      refine heard_num (x := .str "below") hP3 rfl ?_ (fun E Q' M4 e => ?_)
      rotate_left
      · walk_at "zz"
        exact ratio_bad3 e
      walk_at "zz"
      exact w_eq (by decide +kernel) (k _ (n3.mono (by omega)) (u02.trans u3))
end Z

set_option Elab.async false
set_option linter.all false
set_option maxRecDepth 100000
set_option maxHeartbeats 4000000
namespace Z
local macro_rules | `(tactic| walk_at "z at") => `(tactic| first | rfl | (simp only [atI, ixN, List.length_cons, List.length_nil, List.length_map]; rfl) | assumption)
local macro_rules | `(tactic| walk_at "z1") => `(tactic| first
  | with_reducible refine w_seq ?_ | with_reducible refine w_set ?_ | with_reducible refine w_ret ?_ | with_reducible refine w_if ?_ | with_reducible refine w_asg ?_ | with_reducible refine w_next ?_ | with_reducible refine w_setIx ?_ | with_reducible refine w_par ?_
  | ((with_reducible refine' w_var ?h ?_); (case h => exact rfl))
  | with_reducible refine w_c ?_ | with_reducible refine w_op ?_ | with_reducible refine w_un ?_ | with_reducible refine w_cons ?_ | with_reducible refine w_nil ?_ | with_reducible refine w_cb ?_
  | with_reducible refine w_call ?_ | with_reducible refine w_callK ?_ | with_reducible refine w_testB ?_ | with_reducible refine w_tru ?_ | with_reducible refine w_andD ?_ | with_reducible refine w_orD ?_ | with_reducible refine w_notD ?_
  | with_reducible refine w_andE ?_ | with_reducible refine w_orE ?_ | with_reducible refine w_notE ?_ | with_reducible refine w_ifE ?_ | with_reducible refine w_is ?_ | with_reducible refine w_isN ?_ | with_reducible refine w_notN ?_ | with_reducible refine w_tupOf ?_
  | with_reducible refine w_tup ?_ | with_reducible refine w_lst ?_ | with_reducible refine w_lstM ?_ | with_reducible refine w_sl ?_ | with_reducible refine w_part ?_ | with_reducible refine w_noPart ?_ | with_reducible refine w_repr ?_ | with_reducible refine w_seqI ?_
  | with_reducible refine w_rdI ?_ | with_reducible refine w_rdB ?_ | with_reducible refine w_rdAdd ?_ | with_reducible refine w_neg ?_ | with_reducible refine w_lenL ?_ | with_reducible refine w_lenT ?_ | with_reducible refine w_abs ?_ | with_reducible refine w_int ?_ | with_reducible refine w_intB ?_ | with_reducible refine w_gcd ?_
  | with_reducible refine w_gname ?_ | with_reducible refine w_gnil ?_ | with_reducible refine w_gcons ?_
  | with_reducible refine w_true ?_ | with_reducible refine w_false ?_
  | dsimp only [truthD, seqD, isNonD, permL, List.filterMap] | with_reducible refine w_drop ?_ | with_reducible refine w_retN ?_ | with_reducible refine w_nilP ?_ | with_reducible refine w_consP ?_ | with_reducible refine w_rng ?_ | with_reducible refine w_cont ?_ | with_reducible refine w_brk ?_)
local macro_rules | `(tactic| walk_at "z") => `(tactic| repeat walk_at "z1")
local macro_rules | `(tactic| walk_at "zz") => `(tactic| repeat first | walk_at "z1" | refine w_small (Nat.le_of_ble_eq_true rfl) ?_)
open PySem L2
/-! ### the law -/
def t_law (AA : Ad) : TSD := (tSeqD (tSetD 1 (tCallD spGrit (tConsD (tVarD 0) tNilD)))
  (tSeqD (tForD (iRngD (tConsD (tCD (.int 4)) tNilD)) (gNameD 2)
    (tSeqD (tParD 3 4 (tConsD (tCallD (sp__law_number AA) (tConsD (tVarD 1) tNilD)) (tConsD (tCallD (sp__law_number AA) (tConsD (tVarD 1) tNilD)) tNilD)))
  (tSeqD (tSetD 4 (tCallD spPick (tConsD (tVarD 1) (tConsD (tLstD (tConsD (tVarD 4) (tConsD (tVarD 4) (tConsD (tVarD 3) (tConsD (tCallD (sp__law_low AA) (tConsD (tUnD rdNeg (tOpD rdIx (tVarD 3) (tCD (.int 0)))) (tConsD (tOpD rdIx (tVarD 3) (tCD (.int 1))) tNilD))) (tConsD (tTupD (tConsD (tCD (.int 0)) (tConsD (tCD (.int 1)) tNilD))) (tConsD (tCallD (sp__law_low AA) (tConsD (tOpD rdAdd (tOpD rdMul (tOpD rdIx (tVarD 3) (tCD (.int 0))) (tOpD (rdIC CPow fun i j => i ^ j.toNat) (tCD (.int 10)) (tCD (.int 9)))) (tCD (.int 1))) (tConsD (tOpD rdMul (tOpD rdIx (tVarD 3) (tCD (.int 1))) (tOpD (rdIC CPow fun i j => i ^ j.toNat) (tCD (.int 10)) (tCD (.int 9)))) tNilD))) tNilD))))))) tNilD))))
  (tSeqD (tIfD (tNotD (tTruD (tCallD (sp__law_two_right AA) (tConsD (tVarD 1) (tConsD (tVarD 3) (tConsD (tVarD 4) tNilD))))))
    (tRetD (tCD (.bl false)))
    tNextD)
  (tSeqD (tParD 5 6 (tConsD (tOpD (rdI fun i j => i - j) (tCallD spSieve (tConsD (tVarD 1) (tConsD (tOpD (rdIC CPow fun i j => i ^ j.toNat) (tCD (.int 10)) (tCD (.int 6))) tNilD))) (tOpD (rdIC CPow fun i j => i ^ j.toNat) (tCD (.int 10)) (tCD (.int 5)))) (tConsD (tOpD rdMul (tCallD spPick (tConsD (tVarD 1) (tConsD (tLstD (tConsD (tCD (.int 1)) (tConsD (tUnD rdNeg (tCD (.int 1))) (tConsD (tCD (.int 6)) (tConsD (tUnD rdNeg (tCD (.int 4))) (tConsD (tOpD (rdIC CPow fun i j => i ^ j.toNat) (tCD (.int 10)) (tCD (.int 9))) (tConsD (tUnD rdNeg (tCD (.int 7))) tNilD))))))) tNilD))) (tOpD rdAdd (tCD (.int 1)) (tCallD spSieve (tConsD (tVarD 1) (tConsD (tCD (.int 30)) tNilD))))) tNilD)))
  (tIfD (tTestB (tOpD rdNe (tReprD (tLstD (tConsD (tCallD (sp_ratio AA) (tConsD (tVarD 5) (tConsD (tVarD 6) tNilD))) (tConsD (tCallKD (sp_ratio AA) [1, 0] (tConsD (tVarD 6) (tConsD (tVarD 5) tNilD))) tNilD)))) (tReprD (tRepD 2 (tConsD (tCallD (sp__law_told AA) (tConsD (tCallD (sp__law_low AA) (tConsD (tVarD 5) (tConsD (tVarD 6) tNilD))) tNilD)) tNilD)))))
    (tRetD (tCD (.bl false)))
    tNextD))))))
  (tRetD (tAndE (tCallD (sp__law_some_right AA) (tConsD (tVarD 1) tNilD)) (tCallD (sp__law_refused_right AA) (tConsD (tVarD 1) tNilD))))))
theorem len_law (AA : Ad) : ∀ ds M F E, spLawT AA.ts ds M F E → ds.length = 1 := fun ds M F E ⟨_, e, _⟩ => by rw [e]; rfl
/-- a number, and of which size -/
def QF (x : D) : Prop := ∃ a b : Int, x = frD a b ∧ IsF a b ∧ Sz 200 a ∧ Sz 200 b
theorem wp_law (AA : Ad) (ndt : (AA.ts.map (·.2.1)).Nodup) : ∀ ds M F FE, spLawT AA.ts ds M F FE → t_law AA (fun C fs _ M => FE C fs M) { nx := fun _ M => F .non M, rt := F } (startD ["_law_script", "_law_bead_here", "_law_turn", "_law_one", "_law_other", "_law_above", "_law_below"] ds) M := by
  rintro ds M F FE ⟨ns, rfl, hl, rfl, k⟩
  have P12 : AA.P__law_two_right ≠ AA.P__law_refused_right := fun e => by
    unfold Ad.ts at ndt
    simp only [List.map_cons, List.map_nil] at ndt
    exact (List.nodup_cons.mp ndt).1 (by rw [e]; exact List.mem_cons_self)
  have t1 : tabM AA.ts AA.P__law_two_right = some (.tbl qn__law_two_right) := by
    unfold tabM Ad.ts
    simp
  have t2 : tabM AA.ts AA.P__law_refused_right = some (.tbl qn__law_refused_right) := by
    unfold tabM Ad.ts
    simp [P12]
  unfold t_law
  walk_at "z"
  refine ⟨ns, rfl, by omega, fun p M1 hp n1 u1 => ?_⟩
  have t1' : ∀ {M' : MH}, Upd1 (tabM AA.ts) p M' → M' AA.P__law_two_right = some (.tbl qn__law_two_right) := fun u => by
    rw [u _ fun e => by rw [e, hp] at t1; cases t1]
    exact t1
  have t2' : ∀ {M' : MH}, Upd1 (tabM AA.ts) p M' → M' AA.P__law_refused_right = some (.tbl qn__law_refused_right) := fun u => by
    rw [u _ fun e => by rw [e, hp] at t2; cases t2]
    exact t2
  walk_at "z"
  refine w_for ?_
  walk_at "z"
  refine ⟨⟨by omega, by omega⟩, ?_⟩
  refine ⟨fun i τ' M' => NutAt M' p (i * 14) ∧ Upd1 (tabM AA.ts) p M' ∧ ∃ x2 x3 x4 x5 x6, τ' = [some (.lst (ns.map D.int)), some (.ref p), x2, x3, x4, x5, x6], ⟨by simpa using n1, u1, _, _, _, _, _, rfl⟩, ?_, ?_⟩
  · rintro i x τ' M' hx ⟨nn, uu, x2, x3, x4, x5, x6, rfl⟩
    have hi : i < 4 := (upFrom_get hx).1
    walk_at "z"
    refine number_do nn (by omega) fun a b M2 n2 u2 h1 sa sb => ?_
    walk_at "z"
    refine number_do n2 (by omega) fun c d M3 n3 u3 h2 sc sd => ?_
    have b0 : 0 < b := h1.1
    have p9 : (10 : Int) ^ (9 : Int).toNat = 1000000000 := by decide
    have s9 : Sz 30 1000000000 := by unfold Sz; decide
    have s10 : Sz 140 (b * 1000000000) := sb.mul s9
    have s11 : Sz 141 (a * 1000000000 + 1) := (sa.mul s9).add (by unfold Sz; decide +kernel)
    have b9 : b * 1000000000 ≠ 0 := by omega
    walk_at "z"
    refine w_ixT (x := .int a) rfl ?_
    walk_at "z"
    refine w_ixT (x := .int b) rfl ?_
    walk_at "z"
    refine low_do (show b ≠ 0 by omega) (sb.mono (by decide)) ?_
    walk_at "z"
    refine w_small (by show 2 ≤ 16777216; decide) ?_
    walk_at "z"
    refine w_ixT (x := .int a) rfl ?_
    walk_at "z"
    refine w_rdIC (by show CPow 10 9; unfold CPow; omega) ?_
    walk_at "z"
    rw [p9]
    refine w_rdMul (mulOk_sz sa s9 (by decide) (by decide)) ?_
    walk_at "z"
    refine w_ixT (x := .int b) rfl ?_
    walk_at "z"
    refine w_rdIC (by show CPow 10 9; unfold CPow; omega) ?_
    walk_at "z"
    rw [p9]
    refine w_rdMul (mulOk_sz sb s9 (by decide) (by decide)) ?_
    walk_at "z"
    refine low_do b9 (s10.mono (by decide)) ?_
    walk_at "z"
    refine w_small (by show 6 ≤ 16777216; decide) ?_
    walk_at "z"
    refine pick_do n3 (by omega) (by show 0 < 6; decide) (by show 6 ≤ 1000; decide) fun y M4 hy n4 u4 => ?_
    obtain ⟨e, f, rfl, h3, se, sf⟩ : QF y := by
      simp only [List.mem_cons, List.not_mem_nil, or_false] at hy
      rcases hy with rfl | rfl | rfl | rfl | rfl | rfl
      · exact ⟨c, d, rfl, h2, sc.mono (by decide), sd.mono (by decide)⟩
      · exact ⟨c, d, rfl, h2, sc.mono (by decide), sd.mono (by decide)⟩
      · exact ⟨a, b, rfl, h1, sa.mono (by decide), sb.mono (by decide)⟩
      · have b0' : b ≠ 0 := by omega
        have sa' : Sz 110 (-a) := sa.le (by omega)
        exact ⟨_, _, rfl, nrm_isF b0', (nrm_szA b0' sa').mono (by decide), (nrm_szB b0' sb).mono (by decide)⟩
      · exact ⟨0, 1, rfl, ⟨by decide, by decide⟩, by unfold Sz; decide +kernel, by unfold Sz; decide +kernel⟩
      · exact ⟨_, _, rfl, nrm_isF b9, (nrm_szA b9 s11).mono (by decide), (nrm_szB b9 s10).mono (by decide)⟩
    walk_at "z"
    have U4 : Upd1 (tabM AA.ts) p M4 := ((uu.trans u2).trans u3).trans u4
    refine ⟨p, _, a, b, e, f, rfl, h1, h3, sa.mono (by decide), sb.mono (by decide), se, sf, n4, by omega, t1' U4, fun M5 n5 u5 => ?_⟩
    walk_at "z"
    refine w_false ?_
    walk_at "z"
    have p6 : (10 : Int) ^ (6 : Int).toNat = 1000000 := by decide
    have p5 : (10 : Int) ^ (5 : Int).toNat = 100000 := by decide
    refine w_rdIC (by show CPow 10 6; unfold CPow; omega) ?_
    walk_at "z"
    rw [p6]
    refine sieve_do n5 (by omega) (by decide) (by decide) fun g M6 g0 g1 n6 u6 => ?_
    walk_at "z"
    refine w_rdIC (by show CPow 10 5; unfold CPow; omega) ?_
    walk_at "z"
    rw [p5]
    refine w_rdIC (by show CPow 10 9; unfold CPow; omega) ?_
    walk_at "z"
    rw [p9]
    refine w_small (by show 6 ≤ 16777216; decide) ?_
    walk_at "z"
    refine pick_do n6 (by omega) (by show 0 < 6; decide) (by show 6 ≤ 1000; decide) fun y M7 hy n7 u7 => ?_
    obtain ⟨m, rfl, m0, m1, m2⟩ : ∃ m : Int, y = .int m ∧ m ≠ 0 ∧ -1000000000 ≤ m ∧ m ≤ 1000000000 := by
      simp only [List.mem_cons, List.not_mem_nil, or_false] at hy
      rcases hy with rfl | rfl | rfl | rfl | rfl | rfl <;> exact ⟨_, rfl, by decide, by decide, by decide⟩
    walk_at "z"
    refine sieve_do n7 (by omega) (by decide) (by decide) fun w M8 w0 w1 n8 u8 => ?_
    walk_at "z"
    have sm : Sz 40 m := by unfold Sz; omega
    have sw : Sz 40 (1 + w) := by unfold Sz; omega
    refine w_rdMul (mulOk_sz sm sw (by decide) (by decide)) ?_
    have sB : Sz 80 (m * (1 + w)) := sm.mul sw
    have sA : Sz 80 (g - 100000) := by unfold Sz; omega
    have B0 : m * (1 + w) ≠ 0 := Int.mul_ne_zero m0 (by omega)
    generalize m * (1 + w) = B at sB B0
    generalize g - 100000 = A at sA
    obtain ⟨y, ey, oky⟩ := rd_list (ds := [tellD (nrmA A B) (nrmB A B), tellD (nrmA A B) (nrmB A B)]) (by
      intro x hx
      simp only [List.mem_cons, List.not_mem_nil, or_false] at hx
      have r1 := rd_tell ((nrm_szA B0 sA).mono (by decide)) ((nrm_szB (a := A) B0 sB).mono (by decide))
      rcases hx with rfl | rfl <;> exact r1) (by show 2 ≤ 1000; decide)
    walk_at "z"
    refine ratio_do B0 (sB.mono (by decide)) ?_
    walk_at "z"
    refine ratio_do B0 (sB.mono (by decide)) ?_
    walk_at "z"
    refine w_small (by show 2 ≤ 16777216; decide) ?_
    walk_at "z"
    rw [ey]
    refine ⟨oky, ?_⟩
    unfold tRepD
    walk_at "z"
    refine low_do B0 (sB.mono (by decide)) ?_
    walk_at "z"
    refine told_do (nrm_isF B0) (nrm_szB B0 (sB.mono (by decide))) ?_
    walk_at "z"
    refine ⟨by decide, by decide, by show 1 ≤ 1000; decide, ?_⟩
    rw [show (List.replicate (2 : Int).toNat [tellD (nrmA A B) (nrmB A B)]).flatten = [tellD (nrmA A B) (nrmB A B), tellD (nrmA A B) (nrmB A B)] from rfl]
    rw [ey]
    refine ⟨oky, ?_⟩
    refine w_ne (eq_self_str _) ?_
    refine w_false ?_
    walk_at "z"
    exact ⟨n8.mono (by omega), (((U4.trans u5).trans u6).trans u7).trans u8, _, _, _, _, _, rfl⟩
  · rintro τ' M' ⟨nn, uu, x2, x3, x4, x5, x6, rfl⟩
    rw [upFrom_len] at nn
    walk_at "z"
    refine ⟨p, _, rfl, nn, by omega, fun M2 n2 u2 => ?_⟩
    refine w_true ?_
    walk_at "z"
    exact ⟨p, _, rfl, n2, by omega, t2' (uu.trans u2), fun M3 n3 u3 => k M3⟩
end Z

set_option Elab.async false
set_option linter.all false
set_option maxRecDepth 100000
set_option maxHeartbeats 4000000
namespace Z
local macro_rules | `(tactic| walk_at "z at") => `(tactic| first | rfl | (simp only [atI, ixN, List.length_cons, List.length_nil, List.length_map]; rfl) | assumption)
local macro_rules | `(tactic| walk_at "z1") => `(tactic| first
  | with_reducible refine w_seq ?_ | with_reducible refine w_set ?_ | with_reducible refine w_ret ?_ | with_reducible refine w_if ?_ | with_reducible refine w_asg ?_ | with_reducible refine w_next ?_ | with_reducible refine w_setIx ?_ | with_reducible refine w_par ?_
  | ((with_reducible refine' w_var ?h ?_); (case h => exact rfl))
  | with_reducible refine w_c ?_ | with_reducible refine w_op ?_ | with_reducible refine w_un ?_ | with_reducible refine w_cons ?_ | with_reducible refine w_nil ?_ | with_reducible refine w_cb ?_
  | with_reducible refine w_call ?_ | with_reducible refine w_callK ?_ | with_reducible refine w_testB ?_ | with_reducible refine w_tru ?_ | with_reducible refine w_andD ?_ | with_reducible refine w_orD ?_ | with_reducible refine w_notD ?_
  | with_reducible refine w_andE ?_ | with_reducible refine w_orE ?_ | with_reducible refine w_notE ?_ | with_reducible refine w_ifE ?_ | with_reducible refine w_is ?_ | with_reducible refine w_isN ?_ | with_reducible refine w_notN ?_ | with_reducible refine w_tupOf ?_
  | with_reducible refine w_tup ?_ | with_reducible refine w_lst ?_ | with_reducible refine w_lstM ?_ | with_reducible refine w_sl ?_ | with_reducible refine w_part ?_ | with_reducible refine w_noPart ?_ | with_reducible refine w_repr ?_ | with_reducible refine w_seqI ?_
  | with_reducible refine w_rdI ?_ | with_reducible refine w_rdB ?_ | with_reducible refine w_rdAdd ?_ | with_reducible refine w_neg ?_ | with_reducible refine w_lenL ?_ | with_reducible refine w_lenT ?_ | with_reducible refine w_abs ?_ | with_reducible refine w_int ?_ | with_reducible refine w_intB ?_ | with_reducible refine w_gcd ?_
  | with_reducible refine w_gname ?_ | with_reducible refine w_gnil ?_ | with_reducible refine w_gcons ?_
  | with_reducible refine w_true ?_ | with_reducible refine w_false ?_
  | dsimp only [truthD, seqD, isNonD, permL, List.filterMap] | with_reducible refine w_drop ?_ | with_reducible refine w_retN ?_ | with_reducible refine w_nilP ?_ | with_reducible refine w_consP ?_ | with_reducible refine w_rng ?_ | with_reducible refine w_cont ?_ | with_reducible refine w_brk ?_)
local macro_rules | `(tactic| walk_at "z") => `(tactic| repeat walk_at "z1")
local macro_rules | `(tactic| walk_at "zz") => `(tactic| repeat first | walk_at "z1" | refine w_small (Nat.le_of_ble_eq_true rfl) ?_)
open PySem L2
theorem len_raw (AA : Ad) : ∀ ds M F E, sp_raw AA ds M F E → ds.length = 1 := by
  rintro ds M F E (⟨_, e, _⟩ | ⟨_, _, _, e, _⟩) <;> rw [e] <;> rfl
theorem len_told (AA : Ad) : ∀ ds M F E, sp_told AA ds M F E → ds.length = 1 := fun ds M F E ⟨_, _, e, _⟩ => by rw [e]; rfl
theorem len_made (AA : Ad) : ∀ ds M F E, sp_made AA ds M F E → ds.length = 2 := fun ds M F E ⟨_, _, e, _⟩ => by rw [e]; rfl
theorem len_add (AA : Ad) : ∀ ds M F E, sp_add AA ds M F E → ds.length = 2 := fun ds M F E ⟨_, _, _, _, e, _⟩ => by rw [e]; rfl
theorem len_subtract (AA : Ad) : ∀ ds M F E, sp_subtract AA ds M F E → ds.length = 2 := fun ds M F E ⟨_, _, _, _, e, _⟩ => by rw [e]; rfl
theorem len_multiply (AA : Ad) : ∀ ds M F E, sp_multiply AA ds M F E → ds.length = 2 := fun ds M F E ⟨_, _, _, _, e, _⟩ => by rw [e]; rfl
theorem len_divide (AA : Ad) : ∀ ds M F E, sp_divide AA ds M F E → ds.length = 2 := fun ds M F E ⟨_, _, _, _, e, _⟩ => by rw [e]; rfl
theorem len_is_smaller (AA : Ad) : ∀ ds M F E, sp_is_smaller AA ds M F E → ds.length = 2 := fun ds M F E ⟨_, _, _, _, e, _⟩ => by rw [e]; rfl
theorem len_smaller (AA : Ad) : ∀ ds M F E, sp_smaller AA ds M F E → ds.length = 2 := fun ds M F E ⟨_, _, _, _, e, _⟩ => by rw [e]; rfl
theorem len_greater (AA : Ad) : ∀ ds M F E, sp_greater AA ds M F E → ds.length = 2 := fun ds M F E ⟨_, _, _, _, e, _⟩ => by rw [e]; rfl
theorem len_ratio (AA : Ad) : ∀ ds M F E, sp_ratio AA ds M F E → ds.length = 2 := fun ds M F E ⟨_, _, e, _⟩ => by rw [e]; rfl
theorem len_both_raw (AA : Ad) : ∀ ds M F E, sp_both_raw AA ds M F E → ds.length = 2 := fun ds M F E ⟨_, _, e, _⟩ => by rw [e]; rfl
theorem len_plus (AA : Ad) : ∀ ds M F E, sp_plus AA ds M F E → ds.length = 2 := fun ds M F E ⟨_, _, e, _⟩ => by rw [e]; rfl
theorem len_minus (AA : Ad) : ∀ ds M F E, sp_minus AA ds M F E → ds.length = 2 := fun ds M F E ⟨_, _, e, _⟩ => by rw [e]; rfl
theorem len_times (AA : Ad) : ∀ ds M F E, sp_times AA ds M F E → ds.length = 2 := fun ds M F E ⟨_, _, e, _⟩ => by rw [e]; rfl
theorem len_over (AA : Ad) : ∀ ds M F E, sp_over AA ds M F E → ds.length = 2 := fun ds M F E ⟨_, _, e, _⟩ => by rw [e]; rfl
theorem len_distance (AA : Ad) : ∀ ds M F E, sp_distance AA ds M F E → ds.length = 2 := fun ds M F E ⟨_, _, e, _⟩ => by rw [e]; rfl
theorem len_is_less (AA : Ad) : ∀ ds M F E, sp_is_less AA ds M F E → ds.length = 2 := fun ds M F E ⟨_, _, e, _⟩ => by rw [e]; rfl
theorem len_all_raw (AA : Ad) : ∀ ds M F E, sp_all_raw AA ds M F E → ds.length = 1 := fun ds M F E ⟨_, e, _⟩ => by rw [e]; rfl
theorem len_least (AA : Ad) : ∀ ds M F E, sp_least AA ds M F E → ds.length = 1 := fun ds M F E ⟨_, e, _⟩ => by rw [e]; rfl
theorem len_greatest (AA : Ad) : ∀ ds M F E, sp_greatest AA ds M F E → ds.length = 1 := fun ds M F E ⟨_, e, _⟩ => by rw [e]; rfl
theorem len__law_bead (AA : Ad) : ∀ ds M F E, spGrit ds M F E → ds.length = 1 := fun ds M F E ⟨_, e, _⟩ => by rw [e]; rfl
theorem len__law_string (AA : Ad) : ∀ ds M F E, spSieve ds M F E → ds.length = 2 := fun ds M F E ⟨_, _, _, e, ⟨_, e2, _⟩, _⟩ => by rw [e, e2]; rfl
theorem len__law_pick (AA : Ad) : ∀ ds M F E, spPick ds M F E → ds.length = 2 := fun ds M F E ⟨_, _, _, e, ⟨_, e2, _⟩, _⟩ => by rw [e, e2]; rfl
theorem len__law_low (AA : Ad) : ∀ ds M F E, sp__law_low AA ds M F E → ds.length = 2 := fun ds M F E ⟨_, _, e, _⟩ => by rw [e]; rfl
theorem len__law_told (AA : Ad) : ∀ ds M F E, sp__law_told AA ds M F E → ds.length = 1 := fun ds M F E ⟨_, _, e, _⟩ => by rw [e]; rfl
theorem len__law_number (AA : Ad) : ∀ ds M F E, sp__law_number AA ds M F E → ds.length = 1 := fun ds M F E ⟨_, _, _, e, e2, _⟩ => by rw [e, e2]; rfl
theorem len__law_handed (AA : Ad) : ∀ ds M F E, sp__law_handed AA ds M F E → ds.length = 2 := fun ds M F E ⟨_, _, _, e, ⟨_, _, e2, _⟩, _⟩ => by rw [e, e2]; rfl
theorem len__law_two_right (AA : Ad) : ∀ ds M F E, sp__law_two_right AA ds M F E → ds.length = 3 := fun ds M F E ⟨_, _, _, _, _, _, e, _⟩ => by rw [e]; rfl
theorem len__law_some_right (AA : Ad) : ∀ ds M F E, sp__law_some_right AA ds M F E → ds.length = 1 := fun ds M F E ⟨_, _, e, _⟩ => by rw [e]; rfl
theorem len__law_refused_right (AA : Ad) : ∀ ds M F E, sp__law_refused_right AA ds M F E → ds.length = 1 := fun ds M F E ⟨_, _, e, _⟩ => by rw [e]; rfl
section
open PySem.Spec
variable {P : Program} {w : World} {K : PySem.W.Frag} {mg : Str → Option Value} {base : Heap}
theorem ok_is_integer {AA : Ad} (T : Txt K mg AA) (TS : ∀ p ∈ AA.ts, LamX.TabB base mg p.1 p.2.1) : FnZ P w K mg base 1 AA.a_is_integer T.d_is_integer ["value"] (sp_is_integer AA) :=
  fnZ (k := 0) (t := (t_is_integer AA)) T.F_is_integer sc_is_integer (len_is_integer AA) (fun cdv A outer s H E hr hgd => by exact (pdb_one (pds_ret (pd_and (pd_isA (T := .int) T.n_isinstance (pd_var 0) (pe_tag T.n_int)) (pd_one (pd_not (pd_isA (T := .bool) T.n_isinstance (pd_var 0) (pe_tag T.n_bool)))))))) (wp_is_integer AA)
theorem ok_is_row_of {AA : Ad} (T : Txt K mg AA) (TS : ∀ p ∈ AA.ts, LamX.TabB base mg p.1 p.2.1) : FnZ P w K mg base 1 AA.a_is_row_of T.d_is_row_of ["value", "length"] (sp_is_row_of AA) :=
  fnZ (k := 0) (t := (t_is_row_of AA)) T.F_is_row_of sc_is_row_of (len_is_row_of AA) (fun cdv A outer s H E hr hgd => by exact (pdb_one (pds_ret (pd_and (pd_isA2 (T := .list) (T' := .tuple) T.n_isinstance (pd_var 0) (pe_tag T.n_list) (pe_tag T.n_tuple)) (pd_one (pd_eq (hrU hr) (pd_len T.n_len (pda_cons (pd_var 0) pda_nil)) (pd_var 1))))))) (wp_is_row_of AA)
theorem ok_raw {AA : Ad} (T : Txt K mg AA) (TS : ∀ p ∈ AA.ts, LamX.TabB base mg p.1 p.2.1) : FnZ P w K mg base 1 AA.a_raw T.d_raw ["number"] (sp_raw AA) :=
  fnZ (k := 0) (t := (t_raw AA)) T.F_raw sc_raw (len_raw AA) (fun cdv A outer s H E hr hgd => by exact (pdb_cons (pds_if (pdt_tru (pd_isA (T := .int) T.n_isinstance (pd_var 0) (pe_tag T.n_int))) (pdb_one (pds_ret (pd_tup (pda_cons (pd_var 0) (pda_cons pd_int pda_nil))))) pdb_nil) (pdb_one (pds_ret (pd_tup (pda_cons (pd_ix (pd_var 0) pd_int) (pda_cons (pd_ix (pd_var 0) pd_int) pda_nil))))))) (wp_raw AA)
theorem ok_told {AA : Ad} (T : Txt K mg AA) (TS : ∀ p ∈ AA.ts, LamX.TabB base mg p.1 p.2.1) : FnZ P w K mg base 1 AA.a_told T.d_told ["fraction"] (sp_told AA) :=
  fnZ (k := 0) (t := (t_told AA)) T.F_told sc_told (len_told AA) (fun cdv A outer s H E hr hgd => by exact (pdb_cons (pds_if (pdt_eq (hrU hr) (pd_ix (pd_var 0) pd_int) pd_int) (pdb_one (pds_ret (pd_ix (pd_var 0) pd_int))) pdb_nil) (pdb_one (pds_ret (pd_var 0))))) (wp_told AA)
theorem ok_made {AA : Ad} (T : Txt K mg AA) (TS : ∀ p ∈ AA.ts, LamX.TabB base mg p.1 p.2.1) : FnZ P w K mg base 1 AA.a_made T.d_made ["above", "below"] (sp_made AA) :=
  fnZ (k := 0) (t := (t_made AA)) T.F_made sc_made (len_made AA) (fun cdv A outer s H E hr hgd => by exact (pdb_cons (pds_if (pdt_eq (hrU hr) (pd_var 1) pd_int) (pdb_one (pds_ret (pd_tup (pda_cons (pd_var 0) (pda_cons pd_int pda_nil))))) pdb_nil) (pdb_cons (pds_set (i := 2) (pd_gcd T.n_gcd (pda_cons (pd_var 0) (pda_cons (pd_var 1) pda_nil))) sc_made.nd) (pdb_cons (pds_if (pdt_lt (pd_var 1) pd_int) (pdb_one (pds_set (i := 2) (pd_neg (pd_var 2)) sc_made.nd)) pdb_nil) (pdb_one (pds_ret (pd_tup (pda_cons (pd_fdiv (pd_var 0) (pd_var 2)) (pda_cons (pd_fdiv (pd_var 1) (pd_var 2)) pda_nil))))))))) (wp_made AA)
theorem ok_is_smaller {AA : Ad} (T : Txt K mg AA) (TS : ∀ p ∈ AA.ts, LamX.TabB base mg p.1 p.2.1) : FnZ P w K mg base 1 AA.a_is_smaller T.d_is_smaller ["one", "other"] (sp_is_smaller AA) :=
  fnZ (k := 0) (t := (t_is_smaller AA)) T.F_is_smaller sc_is_smaller (len_is_smaller AA) (fun cdv A outer s H E hr hgd => by exact (pdb_one (pds_ret (pd_lt (pd_mulA (pd_ix (pd_var 0) pd_int) (pd_ix (pd_var 1) pd_int)) (pd_mulA (pd_ix (pd_var 1) pd_int) (pd_ix (pd_var 0) pd_int)))))) (wp_is_smaller AA)
theorem ok__law_bead {AA : Ad} (T : Txt K mg AA) (TS : ∀ p ∈ AA.ts, LamX.TabB base mg p.1 p.2.1) : FnZ P w K mg base 1 AA.a__law_bead T.d__law_bead ["_law_script"] spGrit :=
  fnZ (k := 0) (t := (t__law_bead AA)) T.F__law_bead sc__law_bead (len__law_bead AA) (fun cdv A outer s H E hr hgd => by exact (pdb_one (pds_ret (pd_lstM (pda_cons (pd_lc (own := [("_law_cell", 1)]) (gd := (gNameD 1)) rfl sc__law_bead.nd (pdi_seq (pd_slice (pd_var 0) pdo_none (pdo_some pd_int))) (blkOk_by (N := ["_law_script", "_law_cell"]) (sc := defScope s__law_bead) (by decide +kernel)) (fun _ _ _ _ _ => pg_name (i := 1) sc__law_bead.nd rfl (Or.inl rfl)) (tgt_name (by decide)) (fun _ _ _ _ _ => pdts_nil) (fun _ _ _ _ _ => (pd_int1 T.n_int (pda_cons (pd_var 1) pda_nil)))) (pda_cons pd_int (pda_cons pd_int pda_nil))))))) (wp__law_bead AA)
theorem ok__law_string {AA : Ad} (T : Txt K mg AA) (TS : ∀ p ∈ AA.ts, LamX.TabB base mg p.1 p.2.1) : FnZ P w K mg base 1 AA.a__law_string T.d__law_string ["_law_bead_here", "_law_many"] spSieve :=
  fnZ (k := 0) (t := (t__law_string AA)) T.F__law_string sc__law_string (len__law_string AA) (fun cdv A outer s H E hr hgd => by exact (pdb_cons (pds_if (pdt_gt (pd_ix (pd_var 0) pd_int) pd_int) (pdb_cons (pds_set (i := 2) (pd_int1 T.n_int (pda_cons (pd_ix (pd_var 0) pd_int) pda_nil)) sc__law_string.nd) (pdb_cons (pds_setix (pd_fdiv (pd_var 2) (pd_var 1)) (pd_var 0) pd_int) (pdb_one (pds_ret (pd_mod (pd_int1 T.n_int (pda_cons (pd_var 2) pda_nil)) (pd_var 1)))))) pdb_nil) (pdb_cons (pds_set (i := 3) (pd_ix (pd_var 0) pd_int) sc__law_string.nd) (pdb_cons (pds_setix (pd_addA (pd_var 3) pd_int) (pd_var 0) pd_int) (pdb_cons (pds_set (i := 4) (pd_addA (pd_mulA pd_int (pd_var 3)) pd_int) sc__law_string.nd) (pdb_cons (pds_if (pdt_ne (hrU hr) (pd_ix (pd_var 0) pd_int) (pd_lst pda_nil)) (pdb_one (pds_set (i := 4) (pd_ix (pd_ix (pd_var 0) pd_int) (pd_mod (pd_int1 T.n_int (pda_cons (pd_var 3) pda_nil)) (pd_len T.n_len (pda_cons (pd_ix (pd_var 0) pd_int) pda_nil)))) sc__law_string.nd)) pdb_nil) (pdb_cons (pds_if (pdt_w (pdw_and (pdt_lt (pd_var 3) (pd_len T.n_len (pda_cons (pd_ix (pd_var 0) pd_int) pda_nil))) (pdw_and1 (pdt_ge (pd_abs T.n_abs (pda_cons (pd_var 4) pda_nil)) (pd_pow pd_int pd_int))))) (pdb_cons (pds_set (i := 2) (pd_addA (pd_mulA pd_int (pd_sub (pd_abs T.n_abs (pda_cons (pd_int1 T.n_int (pda_cons (pd_var 4) pda_nil)) pda_nil)) (pd_pow pd_int pd_int))) (pd_int1 T.n_int (pda_cons (pd_lt (pd_var 4) pd_int) pda_nil))) sc__law_string.nd) (pdb_cons (pds_setix (pd_fdiv (pd_var 2) (pd_var 1)) (pd_var 0) pd_int) (pdb_one (pds_ret (pd_mod (pd_int1 T.n_int (pda_cons (pd_var 2) pda_nil)) (pd_var 1)))))) pdb_nil) (pdb_cons (pds_set (i := 5) (pd_mod (pd_int1 T.n_int (pda_cons (pd_pow (pd_addA (pd_addA (pd_mod (pd_int1 T.n_int (pda_cons (pd_var 4) pda_nil)) pd_int) (pd_mulA pd_int (pd_var 3))) pd_int) pd_int) pda_nil)) pd_int) sc__law_string.nd) (pdb_cons (pds_set (i := 5) (pd_mod (pd_int1 T.n_int (pda_cons (pd_pow (pd_addA (pd_addA (pd_mulA (pd_var 5) (pd_addA (pd_mulA pd_int (pd_var 3)) pd_int)) (pd_mulA (pd_mulA pd_int (pd_var 3)) (pd_var 3))) pd_int) pd_int) pda_nil)) pd_int) sc__law_string.nd) (pdb_one (pds_ret (pd_mod (pd_int1 T.n_int (pda_cons (pd_fdiv (pd_var 5) pd_int) pda_nil)) (pd_var 1))))))))))))) (wp__law_string AA)
theorem ok__law_low {AA : Ad} (T : Txt K mg AA) (TS : ∀ p ∈ AA.ts, LamX.TabB base mg p.1 p.2.1) : FnZ P w K mg base 1 AA.a__law_low T.d__law_low ["_law_above", "_law_below"] (sp__law_low AA) :=
  fnZ (k := 0) (t := (t__law_low AA)) T.F__law_low sc__law_low (len__law_low AA) (fun cdv A outer s H E hr hgd => by exact (pdb_cons (pds_par (i := 2) (j := 3) rfl sc__law_low.nd (pda_cons (pd_abs T.n_abs (pda_cons (pd_var 0) pda_nil)) (pda_cons (pd_abs T.n_abs (pda_cons (pd_var 1) pda_nil)) pda_nil))) (pdb_cons (pds_while (pdt_gt (pd_var 3) pd_int) (pdb_one (pds_par (i := 2) (j := 3) rfl sc__law_low.nd (pda_cons (pd_var 3) (pda_cons (pd_mod (pd_int1 T.n_int (pda_cons (pd_var 2) pda_nil)) (pd_var 3)) pda_nil))))) (pdb_cons (pds_set (i := 4) (pd_ifE (pdt_gt (pd_var 1) pd_int) pd_int (pd_neg pd_int)) sc__law_low.nd) (pdb_one (pds_ret (pd_tup (pda_cons (pd_fdiv (pd_mulA (pd_var 4) (pd_var 0)) (pd_var 2)) (pda_cons (pd_fdiv (pd_mulA (pd_var 4) (pd_var 1)) (pd_var 2)) pda_nil))))))))) (wp__law_low AA)
theorem okg__law_heard {AA : Ad} (T : Txt K mg AA) (TS : ∀ p ∈ AA.ts, LamX.TabB base mg p.1 p.2.1) : FnG P w K mg base 1 AA.a__law_heard T.d__law_heard "_law_heard" "_law_ask" ["_law_ask", "_law_caught", "error"] (defScope s__law_heard) (spg__law_heard AA) :=
  fnG (k := 0) (t := t__law_heard AA) T.F__law_heard sc__law_heard (fun cdv A outer s H E f_ tl_ hr hgd act => by exact (pdb_cons (pds_set (i := 1) pd_non sc__law_heard.nd) (pdb_cons (pds_try_keep (i := 2) (j := 1) (ex := subV AA.all) (c := .ref AA.c_LaneError) rfl rfl rfl sc__law_heard.nd rfl rfl rfl rfl (by decide) ⟨rfl, by decide, .inl T.gc_LaneError⟩ (exm_all (fl := FL) T.xs T.b_LaneError T.h_LaneError T.t_LaneError) (pdb_one (pds_expr (act _ _))) (by decide) (by decide) rfl) (pdb_cons (pds_if (pdt_tru (pd_isX2 (fl := FL) T.xs (in_BadNumber AA) (in_Misfit AA) T.n_isinstance T.gc_BadNumber T.gc_Misfit (pd_var 1))) (pdb_one (pds_ret (pd_tup (pda_cons (pd_ifE (pdt_tru (pd_isX (fl := FL) T.xs (in_BadNumber AA) T.n_isinstance T.gc_BadNumber (pd_var 1))) pd_str pd_str) (pda_cons (pd_fldA (f := "part") (fl := FL) T.xs (by decide) (pd_var 1)) pda_nil))))) pdb_nil) (pdb_one (pds_ret (pd_ifE (pdt_isN (pd_var 1)) pd_non (pd_tup (pda_cons pd_str (pda_cons pd_non pda_nil)))))))))) (wp__law_heard AA T.nd)
theorem ok_is_within {AA : Ad} (T : Txt K mg AA) (TS : ∀ p ∈ AA.ts, LamX.TabB base mg p.1 p.2.1) : FnZ P w K mg base 2 AA.a_is_within T.d_is_within ["value", "least", "most"] (sp_is_within AA) :=
  fnZ (k := 1) (t := (t_is_within AA)) T.F_is_within sc_is_within (len_is_within AA) (fun cdv A outer s H E hr hgd => by exact (pdb_cons (pds_if (pdt_not (pdt_tru (pd_callZ (ok_is_integer T TS) (hr.mono (by first | decide | omega)) hgd T.g_is_integer T.F_is_integer.kp (b_is_integer T) (pda_cons (pd_var 0) pda_nil)))) (pdb_one (pds_ret pd_bl)) pdb_nil) (pdb_one (pds_ret (pd_and (pd_or (pd_isN (pd_var 1)) (pd_one (pd_ge (pd_var 0) (pd_var 1)))) (pd_one (pd_or (pd_isN (pd_var 2)) (pd_one (pd_le (pd_var 0) (pd_var 2)))))))))) (wp_is_within AA)
theorem ok_add {AA : Ad} (T : Txt K mg AA) (TS : ∀ p ∈ AA.ts, LamX.TabB base mg p.1 p.2.1) : FnZ P w K mg base 2 AA.a_add T.d_add ["one", "other"] (sp_add AA) :=
  fnZ (k := 1) (t := (t_add AA)) T.F_add sc_add (len_add AA) (fun cdv A outer s H E hr hgd => by exact (pdb_one (pds_ret (pd_callZ (ok_made T TS) (hr.mono (by first | decide | omega)) hgd T.g_made T.F_made.kp (b_made T) (pda_cons (pd_addA (pd_mulA (pd_ix (pd_var 0) pd_int) (pd_ix (pd_var 1) pd_int)) (pd_mulA (pd_ix (pd_var 1) pd_int) (pd_ix (pd_var 0) pd_int))) (pda_cons (pd_mulA (pd_ix (pd_var 0) pd_int) (pd_ix (pd_var 1) pd_int)) pda_nil)))))) (wp_add AA)
theorem ok_subtract {AA : Ad} (T : Txt K mg AA) (TS : ∀ p ∈ AA.ts, LamX.TabB base mg p.1 p.2.1) : FnZ P w K mg base 2 AA.a_subtract T.d_subtract ["one", "other"] (sp_subtract AA) :=
  fnZ (k := 1) (t := (t_subtract AA)) T.F_subtract sc_subtract (len_subtract AA) (fun cdv A outer s H E hr hgd => by exact (pdb_one (pds_ret (pd_callZ (ok_made T TS) (hr.mono (by first | decide | omega)) hgd T.g_made T.F_made.kp (b_made T) (pda_cons (pd_sub (pd_mulA (pd_ix (pd_var 0) pd_int) (pd_ix (pd_var 1) pd_int)) (pd_mulA (pd_ix (pd_var 1) pd_int) (pd_ix (pd_var 0) pd_int))) (pda_cons (pd_mulA (pd_ix (pd_var 0) pd_int) (pd_ix (pd_var 1) pd_int)) pda_nil)))))) (wp_subtract AA)
theorem ok_multiply {AA : Ad} (T : Txt K mg AA) (TS : ∀ p ∈ AA.ts, LamX.TabB base mg p.1 p.2.1) : FnZ P w K mg base 2 AA.a_multiply T.d_multiply ["one", "other"] (sp_multiply AA) :=
  fnZ (k := 1) (t := (t_multiply AA)) T.F_multiply sc_multiply (len_multiply AA) (fun cdv A outer s H E hr hgd => by exact (pdb_one (pds_ret (pd_callZ (ok_made T TS) (hr.mono (by first | decide | omega)) hgd T.g_made T.F_made.kp (b_made T) (pda_cons (pd_mulA (pd_ix (pd_var 0) pd_int) (pd_ix (pd_var 1) pd_int)) (pda_cons (pd_mulA (pd_ix (pd_var 0) pd_int) (pd_ix (pd_var 1) pd_int)) pda_nil)))))) (wp_multiply AA)
theorem ok_divide {AA : Ad} (T : Txt K mg AA) (TS : ∀ p ∈ AA.ts, LamX.TabB base mg p.1 p.2.1) : FnZ P w K mg base 2 AA.a_divide T.d_divide ["one", "other"] (sp_divide AA) :=
  fnZ (k := 1) (t := (t_divide AA)) T.F_divide sc_divide (len_divide AA) (fun cdv A outer s H E hr hgd => by exact (pdb_one (pds_ret (pd_callZ (ok_made T TS) (hr.mono (by first | decide | omega)) hgd T.g_made T.F_made.kp (b_made T) (pda_cons (pd_mulA (pd_ix (pd_var 0) pd_int) (pd_ix (pd_var 1) pd_int)) (pda_cons (pd_mulA (pd_ix (pd_var 0) pd_int) (pd_ix (pd_var 1) pd_int)) pda_nil)))))) (wp_divide AA)
theorem ok_smaller {AA : Ad} (T : Txt K mg AA) (TS : ∀ p ∈ AA.ts, LamX.TabB base mg p.1 p.2.1) : FnZ P w K mg base 2 AA.a_smaller T.d_smaller ["one", "other"] (sp_smaller AA) :=
  fnZ (k := 1) (t := (t_smaller AA)) T.F_smaller sc_smaller (len_smaller AA) (fun cdv A outer s H E hr hgd => by exact (pdb_cons (pds_if (pdt_tru (pd_callZ (ok_is_smaller T TS) (hr.mono (by first | decide | omega)) hgd T.g_is_smaller T.F_is_smaller.kp (b_is_smaller T) (pda_cons (pd_var 1) (pda_cons (pd_var 0) pda_nil)))) (pdb_one (pds_ret (pd_var 1))) pdb_nil) (pdb_one (pds_ret (pd_var 0))))) (wp_smaller AA)
theorem ok_greater {AA : Ad} (T : Txt K mg AA) (TS : ∀ p ∈ AA.ts, LamX.TabB base mg p.1 p.2.1) : FnZ P w K mg base 2 AA.a_greater T.d_greater ["one", "other"] (sp_greater AA) :=
  fnZ (k := 1) (t := (t_greater AA)) T.F_greater sc_greater (len_greater AA) (fun cdv A outer s H E hr hgd => by exact (pdb_cons (pds_if (pdt_tru (pd_callZ (ok_is_smaller T TS) (hr.mono (by first | decide | omega)) hgd T.g_is_smaller T.F_is_smaller.kp (b_is_smaller T) (pda_cons (pd_var 0) (pda_cons (pd_var 1) pda_nil)))) (pdb_one (pds_ret (pd_var 1))) pdb_nil) (pdb_one (pds_ret (pd_var 0))))) (wp_greater AA)
theorem ok__law_pick {AA : Ad} (T : Txt K mg AA) (TS : ∀ p ∈ AA.ts, LamX.TabB base mg p.1 p.2.1) : FnZ P w K mg base 2 AA.a__law_pick T.d__law_pick ["_law_bead_here", "_law_some"] spPick :=
  fnZ (k := 1) (t := (t__law_pick AA)) T.F__law_pick sc__law_pick (len__law_pick AA) (fun cdv A outer s H E hr hgd => by exact (pdb_one (pds_ret (pd_ix (pd_var 1) (pd_callZ (ok__law_string T TS) (hr.mono (by first | decide | omega)) hgd T.g__law_string T.F__law_string.kp (b__law_string T) (pda_cons (pd_var 0) (pda_cons (pd_len T.n_len (pda_cons (pd_var 1) pda_nil)) pda_nil))))))) (wp__law_pick AA)
theorem ok__law_told {AA : Ad} (T : Txt K mg AA) (TS : ∀ p ∈ AA.ts, LamX.TabB base mg p.1 p.2.1) : FnZ P w K mg base 2 AA.a__law_told T.d__law_told ["_law_pair_here"] (sp__law_told AA) :=
  fnZ (k := 1) (t := (t__law_told AA)) T.F__law_told sc__law_told (len__law_told AA) (fun cdv A outer s H E hr hgd => by exact (pdb_cons (pds_asg (pd_callZ (ok__law_low T TS) (hr.mono (by first | decide | omega)) hgd T.g__law_low T.F__law_low.kp (b__law_low T) (pda_cons (pd_ix (pd_var 0) pd_int) (pda_cons (pd_ix (pd_var 0) pd_int) pda_nil))) (pdg_tup rfl (pdgs_cons (pdg_name (i := 1) sc__law_told.nd) (pdgs_cons (pdg_name (i := 2) sc__law_told.nd) pdgs_nil)))) (pdb_one (pds_ret (pd_ifE (pdt_eq (hrU hr) (pd_var 2) pd_int) (pd_var 1) (pd_tup (pda_cons (pd_var 1) (pda_cons (pd_var 2) pda_nil)))))))) (wp__law_told AA)
theorem ok_is_number {AA : Ad} (T : Txt K mg AA) (TS : ∀ p ∈ AA.ts, LamX.TabB base mg p.1 p.2.1) : FnZ P w K mg base 3 AA.a_is_number T.d_is_number ["value"] (sp_is_number AA) :=
  fnZ (k := 2) (t := (t_is_number AA)) T.F_is_number sc_is_number (len_is_number AA) (fun cdv A outer s H E hr hgd => by exact (pdb_cons (pds_if (pdt_not (pdt_tru (pd_callZ (ok_is_row_of T TS) (hr.mono (by first | decide | omega)) hgd T.g_is_row_of T.F_is_row_of.kp (b_is_row_of T) (pda_cons (pd_var 0) (pda_cons pd_int pda_nil))))) (pdb_one (pds_ret (pd_callZ (ok_is_integer T TS) (hr.mono (by first | decide | omega)) hgd T.g_is_integer T.F_is_integer.kp (b_is_integer T) (pda_cons (pd_var 0) pda_nil)))) pdb_nil) (pdb_cons (pds_asg (pd_var 0) (pdg_tup rfl (pdgs_cons (pdg_name (i := 1) sc_is_number.nd) (pdgs_cons (pdg_name (i := 2) sc_is_number.nd) pdgs_nil)))) (pdb_one (pds_ret (pd_and (pd_callZ (ok_is_integer T TS) (hr.mono (by first | decide | omega)) hgd T.g_is_integer T.F_is_integer.kp (b_is_integer T) (pda_cons (pd_var 1) pda_nil)) (pd_and (pd_callZ (ok_is_within T TS) (hr.mono (by first | decide | omega)) hgd T.g_is_within T.F_is_within.kp (b_is_within T) (pda_cons (pd_var 2) (pda_cons pd_int (pda_cons pd_non pda_nil)))) (pd_one (pd_eq (hrU hr) (pd_gcd T.n_gcd (pda_cons (pd_var 1) (pda_cons (pd_var 2) pda_nil))) pd_int))))))))) (wp_is_number AA)
theorem ok_ratio {AA : Ad} (T : Txt K mg AA) (TS : ∀ p ∈ AA.ts, LamX.TabB base mg p.1 p.2.1) : FnZ P w K mg base 3 AA.a_ratio T.d_ratio ["above", "below"] (sp_ratio AA) :=
  fnZ (k := 2) (t := (t_ratio AA)) T.F_ratio sc_ratio (len_ratio AA) (fun cdv A outer s H E hr hgd => by exact (pdb_cons (pds_if (pdt_not (pdt_tru (pd_callZ (ok_is_integer T TS) (hr.mono (by first | decide | omega)) hgd T.g_is_integer T.F_is_integer.kp (b_is_integer T) (pda_cons (pd_var 0) pda_nil)))) (pdb_one (pds_raise1 rfl ⟨T.x_BadNumber.k, T.iC_BadNumber, T.tI_BadNumber⟩ (init_BadNumber T) (hr.mono (by first | decide | omega)) (bi_BadNumber T) T.gc_BadNumber (pdn_cons pd_str pdn_nil))) pdb_nil) (pdb_cons (pds_if (pdt_w (pdw_or (pdt_not (pdt_tru (pd_callZ (ok_is_integer T TS) (hr.mono (by first | decide | omega)) hgd T.g_is_integer T.F_is_integer.kp (b_is_integer T) (pda_cons (pd_var 1) pda_nil)))) (pdw_or1 (pdt_eq (hrU hr) (pd_var 1) pd_int)))) (pdb_one (pds_raise1 rfl ⟨T.x_BadNumber.k, T.iC_BadNumber, T.tI_BadNumber⟩ (init_BadNumber T) (hr.mono (by first | decide | omega)) (bi_BadNumber T) T.gc_BadNumber (pdn_cons pd_str pdn_nil))) pdb_nil) (pdb_one (pds_ret (pd_callZ (ok_told T TS) (hr.mono (by first | decide | omega)) hgd T.g_told T.F_told.kp (b_told T) (pda_cons (pd_callZ (ok_made T TS) (hr.mono (by first | decide | omega)) hgd T.g_made T.F_made.kp (b_made T) (pda_cons (pd_var 0) (pda_cons (pd_var 1) pda_nil))) pda_nil))))))) (wp_ratio AA)
theorem ok__law_number {AA : Ad} (T : Txt K mg AA) (TS : ∀ p ∈ AA.ts, LamX.TabB base mg p.1 p.2.1) : FnZ P w K mg base 3 AA.a__law_number T.d__law_number ["_law_bead_here"] (sp__law_number AA) :=
  fnZ (k := 2) (t := (t__law_number AA)) T.F__law_number sc__law_number (len__law_number AA) (fun cdv A outer s H E hr hgd => by exact (pdb_cons (pds_set (i := 1) (pd_callZ (ok__law_pick T TS) (hr.mono (by first | decide | omega)) hgd T.g__law_pick T.F__law_pick.kp (b__law_pick T) (pda_cons (pd_var 0) (pda_cons (pd_lst (pda_cons pd_int (pda_cons pd_int (pda_cons pd_int (pda_cons (pd_pow pd_int pd_int) (pda_cons (pd_pow pd_int pd_int) pda_nil)))))) pda_nil))) sc__law_number.nd) (pdb_cons (pds_par (i := 2) (j := 3) rfl sc__law_number.nd (pda_cons (pd_sub (pd_callZ (ok__law_string T TS) (hr.mono (by first | decide | omega)) hgd T.g__law_string T.F__law_string.kp (b__law_string T) (pda_cons (pd_var 0) (pda_cons (pd_addA (pd_mulA pd_int (pd_var 1)) pd_int) pda_nil))) (pd_var 1)) (pda_cons (pd_addA pd_int (pd_callZ (ok__law_string T TS) (hr.mono (by first | decide | omega)) hgd T.g__law_string T.F__law_string.kp (b__law_string T) (pda_cons (pd_var 0) (pda_cons (pd_callZ (ok__law_pick T TS) (hr.mono (by first | decide | omega)) hgd T.g__law_pick T.F__law_pick.kp (b__law_pick T) (pda_cons (pd_var 0) (pda_cons (pd_lst (pda_cons pd_int (pda_cons pd_int (pda_cons pd_int (pda_cons (pd_var 1) pda_nil))))) pda_nil))) pda_nil)))) pda_nil))) (pdb_one (pds_ret (pd_callZ (ok__law_low T TS) (hr.mono (by first | decide | omega)) hgd T.g__law_low T.F__law_low.kp (b__law_low T) (pda_cons (pd_var 2) (pda_cons (pd_var 3) pda_nil)))))))) (wp__law_number AA)
theorem ok__law_handed {AA : Ad} (T : Txt K mg AA) (TS : ∀ p ∈ AA.ts, LamX.TabB base mg p.1 p.2.1) : FnZ P w K mg base 3 AA.a__law_handed T.d__law_handed ["_law_bead_here", "_law_pair_here"] (sp__law_handed AA) :=
  fnZ (k := 2) (t := (t__law_handed AA)) T.F__law_handed sc__law_handed (len__law_handed AA) (fun cdv A outer s H E hr hgd => by exact (pdb_cons (pds_set (i := 2) (pd_callZ (ok__law_told T TS) (hr.mono (by first | decide | omega)) hgd T.g__law_told T.F__law_told.kp (b__law_told T) (pda_cons (pd_var 1) pda_nil)) sc__law_handed.nd) (pdb_one (pds_ret (pd_ifE (pdt_w (pdw_and (pdt_tru (pd_isA (T := .tuple) T.n_isinstance (pd_var 2) (pe_tag T.n_tuple))) (pdw_and1 (pdt_eq (hrU hr) (pd_callZ (ok__law_string T TS) (hr.mono (by first | decide | omega)) hgd T.g__law_string T.F__law_string.kp (b__law_string T) (pda_cons (pd_var 0) (pda_cons pd_int pda_nil))) pd_int)))) (pd_listOf T.n_list (pda_cons (pd_var 2) pda_nil)) (pd_var 2)))))) (wp__law_handed AA)
theorem ok_both_raw {AA : Ad} (T : Txt K mg AA) (TS : ∀ p ∈ AA.ts, LamX.TabB base mg p.1 p.2.1) : FnZ P w K mg base 4 AA.a_both_raw T.d_both_raw ["one", "other"] (sp_both_raw AA) :=
  fnZ (k := 3) (t := (t_both_raw AA)) T.F_both_raw sc_both_raw (len_both_raw AA) (fun cdv A outer s H E hr hgd => by exact (pdb_cons (pds_if (pdt_not (pdt_tru (pd_callZ (ok_is_number T TS) (hr.mono (by first | decide | omega)) hgd T.g_is_number T.F_is_number.kp (b_is_number T) (pda_cons (pd_var 0) pda_nil)))) (pdb_one (pds_raise1 rfl ⟨T.x_BadNumber.k, T.iC_BadNumber, T.tI_BadNumber⟩ (init_BadNumber T) (hr.mono (by first | decide | omega)) (bi_BadNumber T) T.gc_BadNumber (pdn_cons pd_str pdn_nil))) pdb_nil) (pdb_cons (pds_if (pdt_not (pdt_tru (pd_callZ (ok_is_number T TS) (hr.mono (by first | decide | omega)) hgd T.g_is_number T.F_is_number.kp (b_is_number T) (pda_cons (pd_var 1) pda_nil)))) (pdb_one (pds_raise1 rfl ⟨T.x_BadNumber.k, T.iC_BadNumber, T.tI_BadNumber⟩ (init_BadNumber T) (hr.mono (by first | decide | omega)) (bi_BadNumber T) T.gc_BadNumber (pdn_cons pd_str pdn_nil))) pdb_nil) (pdb_one (pds_ret (pd_tup (pda_cons (pd_callZ (ok_raw T TS) (hr.mono (by first | decide | omega)) hgd T.g_raw T.F_raw.kp (b_raw T) (pda_cons (pd_var 0) pda_nil)) (pda_cons (pd_callZ (ok_raw T TS) (hr.mono (by first | decide | omega)) hgd T.g_raw T.F_raw.kp (b_raw T) (pda_cons (pd_var 1) pda_nil)) pda_nil)))))))) (wp_both_raw AA)
theorem ok_all_raw {AA : Ad} (T : Txt K mg AA) (TS : ∀ p ∈ AA.ts, LamX.TabB base mg p.1 p.2.1) : FnZ P w K mg base 4 AA.a_all_raw T.d_all_raw ["values"] (sp_all_raw AA) :=
  fnZ (k := 3) (t := (t_all_raw AA)) T.F_all_raw sc_all_raw (len_all_raw AA) (fun cdv A outer s H E hr hgd => by exact (pdb_cons (pds_if (pdt_w (pdw_or (pdt_not (pdt_tru (pd_isA2 (T := .list) (T' := .tuple) T.n_isinstance (pd_var 0) (pe_tag T.n_list) (pe_tag T.n_tuple)))) (pdw_or1 (pdt_eq (hrU hr) (pd_len T.n_len (pda_cons (pd_var 0) pda_nil)) pd_int)))) (pdb_one (pds_raise1 rfl ⟨T.x_BadNumber.k, T.iC_BadNumber, T.tI_BadNumber⟩ (init_BadNumber T) (hr.mono (by first | decide | omega)) (bi_BadNumber T) T.gc_BadNumber (pdn_cons pd_str pdn_nil))) pdb_nil) (pdb_cons (pds_if (pdt_not (pdt_tru (pd_all rfl T.n_all (pda_cons (pd_lc (own := [("value", 1)]) (gd := (gNameD 1)) rfl sc_all_raw.nd (pdi_seq (pd_var 0)) (blkOk_by (N := ["values", "value"]) (sc := defScope s_all_raw) (by decide +kernel)) (fun _ _ _ _ _ => pg_name (i := 1) sc_all_raw.nd rfl (Or.inl rfl)) (tgt_name (by decide)) (fun _ _ _ _ _ => pdts_nil) (fun _ _ _ _ _ => (pd_callZ (ok_is_number T TS) (hr.mono (by first | decide | omega)) hgd T.g_is_number T.F_is_number.kp (b_is_number T) (pda_cons (pd_var 1) pda_nil)))) pda_nil)))) (pdb_one (pds_raise1 rfl ⟨T.x_BadNumber.k, T.iC_BadNumber, T.tI_BadNumber⟩ (init_BadNumber T) (hr.mono (by first | decide | omega)) (bi_BadNumber T) T.gc_BadNumber (pdn_cons pd_str pdn_nil))) pdb_nil) (pdb_one (pds_ret (pd_lc (own := [("value", 1)]) (gd := (gNameD 1)) rfl sc_all_raw.nd (pdi_seq (pd_var 0)) (blkOk_by (N := ["values", "value"]) (sc := defScope s_all_raw) (by decide +kernel)) (fun _ _ _ _ _ => pg_name (i := 1) sc_all_raw.nd rfl (Or.inl rfl)) (tgt_name (by decide)) (fun _ _ _ _ _ => pdts_nil) (fun _ _ _ _ _ => (pd_callZ (ok_raw T TS) (hr.mono (by first | decide | omega)) hgd T.g_raw T.F_raw.kp (b_raw T) (pda_cons (pd_var 1) pda_nil))))))))) (wp_all_raw AA)
theorem ok_plus {AA : Ad} (T : Txt K mg AA) (TS : ∀ p ∈ AA.ts, LamX.TabB base mg p.1 p.2.1) : FnZ P w K mg base 5 AA.a_plus T.d_plus ["one", "other"] (sp_plus AA) :=
  fnZ (k := 4) (t := (t_plus AA)) T.F_plus sc_plus (len_plus AA) (fun cdv A outer s H E hr hgd => by exact (pdb_cons (pds_asg (pd_callZ (ok_both_raw T TS) (hr.mono (by first | decide | omega)) hgd T.g_both_raw T.F_both_raw.kp (b_both_raw T) (pda_cons (pd_var 0) (pda_cons (pd_var 1) pda_nil))) (pdg_tup rfl (pdgs_cons (pdg_name (i := 2) sc_plus.nd) (pdgs_cons (pdg_name (i := 3) sc_plus.nd) pdgs_nil)))) (pdb_one (pds_ret (pd_callZ (ok_told T TS) (hr.mono (by first | decide | omega)) hgd T.g_told T.F_told.kp (b_told T) (pda_cons (pd_callZ (ok_add T TS) (hr.mono (by first | decide | omega)) hgd T.g_add T.F_add.kp (b_add T) (pda_cons (pd_var 2) (pda_cons (pd_var 3) pda_nil))) pda_nil)))))) (wp_plus AA)
theorem ok_minus {AA : Ad} (T : Txt K mg AA) (TS : ∀ p ∈ AA.ts, LamX.TabB base mg p.1 p.2.1) : FnZ P w K mg base 5 AA.a_minus T.d_minus ["one", "other"] (sp_minus AA) :=
  fnZ (k := 4) (t := (t_minus AA)) T.F_minus sc_minus (len_minus AA) (fun cdv A outer s H E hr hgd => by exact (pdb_cons (pds_asg (pd_callZ (ok_both_raw T TS) (hr.mono (by first | decide | omega)) hgd T.g_both_raw T.F_both_raw.kp (b_both_raw T) (pda_cons (pd_var 0) (pda_cons (pd_var 1) pda_nil))) (pdg_tup rfl (pdgs_cons (pdg_name (i := 2) sc_minus.nd) (pdgs_cons (pdg_name (i := 3) sc_minus.nd) pdgs_nil)))) (pdb_one (pds_ret (pd_callZ (ok_told T TS) (hr.mono (by first | decide | omega)) hgd T.g_told T.F_told.kp (b_told T) (pda_cons (pd_callZ (ok_subtract T TS) (hr.mono (by first | decide | omega)) hgd T.g_subtract T.F_subtract.kp (b_subtract T) (pda_cons (pd_var 2) (pda_cons (pd_var 3) pda_nil))) pda_nil)))))) (wp_minus AA)
theorem ok_times {AA : Ad} (T : Txt K mg AA) (TS : ∀ p ∈ AA.ts, LamX.TabB base mg p.1 p.2.1) : FnZ P w K mg base 5 AA.a_times T.d_times ["one", "other"] (sp_times AA) :=
  fnZ (k := 4) (t := (t_times AA)) T.F_times sc_times (len_times AA) (fun cdv A outer s H E hr hgd => by exact (pdb_cons (pds_asg (pd_callZ (ok_both_raw T TS) (hr.mono (by first | decide | omega)) hgd T.g_both_raw T.F_both_raw.kp (b_both_raw T) (pda_cons (pd_var 0) (pda_cons (pd_var 1) pda_nil))) (pdg_tup rfl (pdgs_cons (pdg_name (i := 2) sc_times.nd) (pdgs_cons (pdg_name (i := 3) sc_times.nd) pdgs_nil)))) (pdb_one (pds_ret (pd_callZ (ok_told T TS) (hr.mono (by first | decide | omega)) hgd T.g_told T.F_told.kp (b_told T) (pda_cons (pd_callZ (ok_multiply T TS) (hr.mono (by first | decide | omega)) hgd T.g_multiply T.F_multiply.kp (b_multiply T) (pda_cons (pd_var 2) (pda_cons (pd_var 3) pda_nil))) pda_nil)))))) (wp_times AA)
theorem ok_over {AA : Ad} (T : Txt K mg AA) (TS : ∀ p ∈ AA.ts, LamX.TabB base mg p.1 p.2.1) : FnZ P w K mg base 5 AA.a_over T.d_over ["one", "other"] (sp_over AA) :=
  fnZ (k := 4) (t := (t_over AA)) T.F_over sc_over (len_over AA) (fun cdv A outer s H E hr hgd => by exact (pdb_cons (pds_asg (pd_callZ (ok_both_raw T TS) (hr.mono (by first | decide | omega)) hgd T.g_both_raw T.F_both_raw.kp (b_both_raw T) (pda_cons (pd_var 0) (pda_cons (pd_var 1) pda_nil))) (pdg_tup rfl (pdgs_cons (pdg_name (i := 2) sc_over.nd) (pdgs_cons (pdg_name (i := 3) sc_over.nd) pdgs_nil)))) (pdb_cons (pds_if (pdt_eq (hrU hr) (pd_ix (pd_var 3) pd_int) pd_int) (pdb_one (pds_raise1 rfl ⟨T.x_Misfit.k, T.iC_Misfit, T.tI_Misfit⟩ (init_Misfit T) (hr.mono (by first | decide | omega)) (bi_Misfit T) T.gc_Misfit (pdn_cons pd_str pdn_nil))) pdb_nil) (pdb_one (pds_ret (pd_callZ (ok_told T TS) (hr.mono (by first | decide | omega)) hgd T.g_told T.F_told.kp (b_told T) (pda_cons (pd_callZ (ok_divide T TS) (hr.mono (by first | decide | omega)) hgd T.g_divide T.F_divide.kp (b_divide T) (pda_cons (pd_var 2) (pda_cons (pd_var 3) pda_nil))) pda_nil))))))) (wp_over AA)
theorem ok_distance {AA : Ad} (T : Txt K mg AA) (TS : ∀ p ∈ AA.ts, LamX.TabB base mg p.1 p.2.1) : FnZ P w K mg base 5 AA.a_distance T.d_distance ["one", "other"] (sp_distance AA) :=
  fnZ (k := 4) (t := (t_distance AA)) T.F_distance sc_distance (len_distance AA) (fun cdv A outer s H E hr hgd => by exact (pdb_cons (pds_asg (pd_callZ (ok_both_raw T TS) (hr.mono (by first | decide | omega)) hgd T.g_both_raw T.F_both_raw.kp (b_both_raw T) (pda_cons (pd_var 0) (pda_cons (pd_var 1) pda_nil))) (pdg_tup rfl (pdgs_cons (pdg_name (i := 2) sc_distance.nd) (pdgs_cons (pdg_name (i := 3) sc_distance.nd) pdgs_nil)))) (pdb_one (pds_ret (pd_callZ (ok_told T TS) (hr.mono (by first | decide | omega)) hgd T.g_told T.F_told.kp (b_told T) (pda_cons (pd_callZ (ok_subtract T TS) (hr.mono (by first | decide | omega)) hgd T.g_subtract T.F_subtract.kp (b_subtract T) (pda_cons (pd_callZ (ok_greater T TS) (hr.mono (by first | decide | omega)) hgd T.g_greater T.F_greater.kp (b_greater T) (pda_cons (pd_var 2) (pda_cons (pd_var 3) pda_nil))) (pda_cons (pd_callZ (ok_smaller T TS) (hr.mono (by first | decide | omega)) hgd T.g_smaller T.F_smaller.kp (b_smaller T) (pda_cons (pd_var 2) (pda_cons (pd_var 3) pda_nil))) pda_nil))) pda_nil)))))) (wp_distance AA)
theorem ok_is_less {AA : Ad} (T : Txt K mg AA) (TS : ∀ p ∈ AA.ts, LamX.TabB base mg p.1 p.2.1) : FnZ P w K mg base 5 AA.a_is_less T.d_is_less ["one", "other"] (sp_is_less AA) :=
  fnZ (k := 4) (t := (t_is_less AA)) T.F_is_less sc_is_less (len_is_less AA) (fun cdv A outer s H E hr hgd => by exact (pdb_cons (pds_asg (pd_callZ (ok_both_raw T TS) (hr.mono (by first | decide | omega)) hgd T.g_both_raw T.F_both_raw.kp (b_both_raw T) (pda_cons (pd_var 0) (pda_cons (pd_var 1) pda_nil))) (pdg_tup rfl (pdgs_cons (pdg_name (i := 2) sc_is_less.nd) (pdgs_cons (pdg_name (i := 3) sc_is_less.nd) pdgs_nil)))) (pdb_one (pds_ret (pd_callZ (ok_is_smaller T TS) (hr.mono (by first | decide | omega)) hgd T.g_is_smaller T.F_is_smaller.kp (b_is_smaller T) (pda_cons (pd_var 2) (pda_cons (pd_var 3) pda_nil))))))) (wp_is_less AA)
theorem ok_least {AA : Ad} (T : Txt K mg AA) (TS : ∀ p ∈ AA.ts, LamX.TabB base mg p.1 p.2.1) : FnZ P w K mg base 5 AA.a_least T.d_least ["values"] (sp_least AA) :=
  fnZ (k := 4) (t := (t_least AA)) T.F_least sc_least (len_least AA) (fun cdv A outer s H E hr hgd => by exact (pdb_cons (pds_set (i := 1) (pd_callZ (ok_all_raw T TS) (hr.mono (by first | decide | omega)) hgd T.g_all_raw T.F_all_raw.kp (b_all_raw T) (pda_cons (pd_var 0) pda_nil)) sc_least.nd) (pdb_cons (pds_set (i := 2) (pd_ix (pd_var 1) pd_int) sc_least.nd) (pdb_cons (pds_for rfl (pdi_seq (pd_var 1)) (pdg_name (i := 3) sc_least.nd) (pdb_one (pds_set (i := 2) (pd_callZ (ok_smaller T TS) (hr.mono (by first | decide | omega)) hgd T.g_smaller T.F_smaller.kp (b_smaller T) (pda_cons (pd_var 2) (pda_cons (pd_var 3) pda_nil))) sc_least.nd))) (pdb_one (pds_ret (pd_callZ (ok_told T TS) (hr.mono (by first | decide | omega)) hgd T.g_told T.F_told.kp (b_told T) (pda_cons (pd_var 2) pda_nil)))))))) (wp_least AA)
theorem ok_greatest {AA : Ad} (T : Txt K mg AA) (TS : ∀ p ∈ AA.ts, LamX.TabB base mg p.1 p.2.1) : FnZ P w K mg base 5 AA.a_greatest T.d_greatest ["values"] (sp_greatest AA) :=
  fnZ (k := 4) (t := (t_greatest AA)) T.F_greatest sc_greatest (len_greatest AA) (fun cdv A outer s H E hr hgd => by exact (pdb_cons (pds_set (i := 1) (pd_callZ (ok_all_raw T TS) (hr.mono (by first | decide | omega)) hgd T.g_all_raw T.F_all_raw.kp (b_all_raw T) (pda_cons (pd_var 0) pda_nil)) sc_greatest.nd) (pdb_cons (pds_set (i := 2) (pd_ix (pd_var 1) pd_int) sc_greatest.nd) (pdb_cons (pds_for rfl (pdi_seq (pd_var 1)) (pdg_name (i := 3) sc_greatest.nd) (pdb_one (pds_set (i := 2) (pd_callZ (ok_greater T TS) (hr.mono (by first | decide | omega)) hgd T.g_greater T.F_greater.kp (b_greater T) (pda_cons (pd_var 2) (pda_cons (pd_var 3) pda_nil))) sc_greatest.nd))) (pdb_one (pds_ret (pd_callZ (ok_told T TS) (hr.mono (by first | decide | omega)) hgd T.g_told T.F_told.kp (b_told T) (pda_cons (pd_var 2) pda_nil)))))))) (wp_greatest AA)
theorem ok__law_some_right {AA : Ad} (T : Txt K mg AA) (TS : ∀ p ∈ AA.ts, LamX.TabB base mg p.1 p.2.1) : FnZ P w K mg base 6 AA.a__law_some_right T.d__law_some_right ["_law_bead_here"] (sp__law_some_right AA) :=
  fnZ (k := 5) (t := (t__law_some_right AA)) T.F__law_some_right sc__law_some_right (len__law_some_right AA) (fun cdv A outer s H E hr hgd => by exact (pdb_cons (pds_setLc (i := 1) sc__law_some_right.nd rfl rfl rfl (sw_true rfl rfl rfl (by decide +kernel)) (own := [("_law_turn", 7)]) (gd := (gNameD 7)) (pdi_rng1 T.n_range (pdn_cons (pd_addA pd_int (pd_callZ (ok__law_string T TS) (hr.mono (by first | decide | omega)) hgd T.g__law_string T.F__law_string.kp (b__law_string T) (pda_cons (pd_var 0) (pda_cons pd_int pda_nil)))) pdn_nil)) (blkOk_by (N := ["_law_bead_here", "_law_some", "_law_low_here", "_law_high", "_law_pair_here", "_law_handed_here", "_law_told_here", "_law_turn"]) (sc := defScope s__law_some_right) (by decide +kernel)) (fun _ _ _ _ _ => pg_name (i := 7) sc__law_some_right.nd rfl (Or.inl rfl)) (tgt_name (by decide)) (fun _ _ _ _ _ => pdts_nil) (fun _ _ _ _ _ => (pd_callZ (ok__law_number T TS) (hr.mono (by first | decide | omega)) hgd T.g__law_number T.F__law_number.kp (b__law_number T) (pda_cons (pd_var 0) pda_nil)))) (pdb_cons (pds_par (i := 2) (j := 3) rfl sc__law_some_right.nd (pda_cons (pd_ix (pd_var 1) pd_int) (pda_cons (pd_ix (pd_var 1) pd_int) pda_nil))) (pdb_cons (pds_for rfl (pdi_seq (pd_var 1)) (pdg_name (i := 4) sc__law_some_right.nd) (pdb_cons (pds_set (i := 2) (pd_ifE (pdt_lt (pd_mulA (pd_ix (pd_var 4) pd_int) (pd_ix (pd_var 2) pd_int)) (pd_mulA (pd_ix (pd_var 2) pd_int) (pd_ix (pd_var 4) pd_int))) (pd_var 4) (pd_var 2)) sc__law_some_right.nd) (pdb_one (pds_set (i := 3) (pd_ifE (pdt_lt (pd_mulA (pd_ix (pd_var 3) pd_int) (pd_ix (pd_var 4) pd_int)) (pd_mulA (pd_ix (pd_var 4) pd_int) (pd_ix (pd_var 3) pd_int))) (pd_var 4) (pd_var 3)) sc__law_some_right.nd)))) (pdb_cons (pds_setLc (i := 5) sc__law_some_right.nd rfl rfl rfl (sw_true rfl rfl rfl (by decide +kernel)) (own := [("_law_pair_here", 4)]) (gd := (gNameD 4)) (pdi_seq (pd_var 1)) (blkOk_by (N := ["_law_bead_here", "_law_some", "_law_low_here", "_law_high", "_law_pair_here", "_law_handed_here", "_law_told_here", "_law_turn"]) (sc := defScope s__law_some_right) (by decide +kernel)) (fun _ _ _ _ _ => pg_name (i := 4) sc__law_some_right.nd rfl (Or.inl rfl)) (tgt_name (by decide)) (fun _ _ _ _ _ => pdts_nil) (fun _ _ _ _ _ => (pd_callZ (ok__law_handed T TS) (hr.mono (by first | decide | omega)) hgd T.g__law_handed T.F__law_handed.kp (b__law_handed T) (pda_cons (pd_var 0) (pda_cons (pd_var 4) pda_nil))))) (pdb_cons (pds_set (i := 6) (pd_lst (pda_cons (pd_callZ (ok_least T TS) (hr.mono (by first | decide | omega)) hgd T.g_least T.F_least.kp (b_least T) (pda_cons (pd_var 5) pda_nil)) (pda_cons (pd_callZ (ok_greatest T TS) (hr.mono (by first | decide | omega)) hgd T.g_greatest T.F_greatest.kp (b_greatest T) (pda_cons (pd_var 5) pda_nil)) (pda_cons (pd_callKZ (ok_least T TS) (hr.mono (by first | decide | omega)) hgd T.g_least T.F_least.kp (bk_least_values T) (pdkn_cons (pd_tupOf T.n_tuple (pd_var 5)) pdkn_nil) rfl) (pda_cons (pd_callKZ (ok_greatest T TS) (hr.mono (by first | decide | omega)) hgd T.g_greatest T.F_greatest.kp (bk_greatest_values T) (pdkn_cons (pd_tupOf T.n_tuple (pd_var 5)) pdkn_nil) rfl) pda_nil))))) sc__law_some_right.nd) (pdb_one (pds_ret (pd_eq (hrU hr) (pd_repr hgd (hrV hr) T.n_repr (pd_var 6)) (pd_repr hgd (hrV hr) T.n_repr (pd_repL (pda_cons (pd_callZ (ok__law_told T TS) (hr.mono (by first | decide | omega)) hgd T.g__law_told T.F__law_told.kp (b__law_told T) (pda_cons (pd_var 2) pda_nil)) (pda_cons (pd_callZ (ok__law_told T TS) (hr.mono (by first | decide | omega)) hgd T.g__law_told T.F__law_told.kp (b__law_told T) (pda_cons (pd_var 3) pda_nil)) pda_nil))))))))))))) (wp__law_some_right AA)
theorem ok__law_two_right {AA : Ad} (T : Txt K mg AA) (TS : ∀ p ∈ AA.ts, LamX.TabB base mg p.1 p.2.1) : FnZ P w K mg base 8 AA.a__law_two_right T.d__law_two_right ["_law_bead_here", "_law_one", "_law_other"] (sp__law_two_right AA) :=
  fnZc (k := 7) (t := (t__law_two_right AA)) T.F__law_two_right sc__law_two_right (len__law_two_right AA) (fun A outer s H E hr hgd => by exact (pdb_cons (pds_asg (pd_tup (pda_cons (pd_var 1) (pda_cons (pd_var 2) pda_nil))) (pdg_tup rfl (pdgs_cons (pdg_tup rfl (pdgs_cons (pdg_name (i := 3) sc__law_two_right.nd) (pdgs_cons (pdg_name (i := 4) sc__law_two_right.nd) pdgs_nil))) (pdgs_cons (pdg_tup rfl (pdgs_cons (pdg_name (i := 5) sc__law_two_right.nd) (pdgs_cons (pdg_name (i := 6) sc__law_two_right.nd) pdgs_nil))) pdgs_nil)))) (pdb_cons (pds_asg (pd_tup (pda_cons (pd_callZ (ok__law_handed T TS) (hr.mono (by first | decide | omega)) hgd T.g__law_handed T.F__law_handed.kp (b__law_handed T) (pda_cons (pd_var 0) (pda_cons (pd_var 1) pda_nil))) (pda_cons (pd_callZ (ok__law_handed T TS) (hr.mono (by first | decide | omega)) hgd T.g__law_handed T.F__law_handed.kp (b__law_handed T) (pda_cons (pd_var 0) (pda_cons (pd_var 2) pda_nil))) pda_nil))) (pdg_tup rfl (pdgs_cons (pdg_name (i := 7) sc__law_two_right.nd) (pdgs_cons (pdg_name (i := 8) sc__law_two_right.nd) pdgs_nil)))) (pdb_cons (pds_set (i := 9) (pd_callZ (ok__law_low T TS) (hr.mono (by first | decide | omega)) hgd T.g__law_low T.F__law_low.kp (b__law_low T) (pda_cons (pd_abs T.n_abs (pda_cons (pd_sub (pd_mulA (pd_var 3) (pd_var 6)) (pd_mulA (pd_var 5) (pd_var 4))) pda_nil)) (pda_cons (pd_mulA (pd_var 4) (pd_var 6)) pda_nil))) sc__law_two_right.nd) (pdb_cons (pds_set (i := 10) (pd_lst (pda_cons (pd_callZ (ok__law_told T TS) (hr.mono (by first | decide | omega)) hgd T.g__law_told T.F__law_told.kp (b__law_told T) (pda_cons (pd_callZ (ok__law_low T TS) (hr.mono (by first | decide | omega)) hgd T.g__law_low T.F__law_low.kp (b__law_low T) (pda_cons (pd_addA (pd_mulA (pd_var 3) (pd_var 6)) (pd_mulA (pd_var 5) (pd_var 4))) (pda_cons (pd_mulA (pd_var 4) (pd_var 6)) pda_nil))) pda_nil)) (pda_cons (pd_callZ (ok__law_told T TS) (hr.mono (by first | decide | omega)) hgd T.g__law_told T.F__law_told.kp (b__law_told T) (pda_cons (pd_callZ (ok__law_low T TS) (hr.mono (by first | decide | omega)) hgd T.g__law_low T.F__law_low.kp (b__law_low T) (pda_cons (pd_sub (pd_mulA (pd_var 3) (pd_var 6)) (pd_mulA (pd_var 5) (pd_var 4))) (pda_cons (pd_mulA (pd_var 4) (pd_var 6)) pda_nil))) pda_nil)) (pda_cons (pd_callZ (ok__law_told T TS) (hr.mono (by first | decide | omega)) hgd T.g__law_told T.F__law_told.kp (b__law_told T) (pda_cons (pd_callZ (ok__law_low T TS) (hr.mono (by first | decide | omega)) hgd T.g__law_low T.F__law_low.kp (b__law_low T) (pda_cons (pd_mulA (pd_var 3) (pd_var 5)) (pda_cons (pd_mulA (pd_var 4) (pd_var 6)) pda_nil))) pda_nil)) (pda_cons (pd_callZ (ok__law_told T TS) (hr.mono (by first | decide | omega)) hgd T.g__law_told T.F__law_told.kp (b__law_told T) (pda_cons (pd_var 9) pda_nil)) (pda_cons (pd_lt (pd_mulA (pd_var 3) (pd_var 6)) (pd_mulA (pd_var 5) (pd_var 4))) pda_nil)))))) sc__law_two_right.nd) (pdb_cons (pds_set (i := 11) (pd_lst (pda_cons (pd_callZ (ok_plus T TS) (hr.mono (by first | decide | omega)) hgd T.g_plus T.F_plus.kp (b_plus T) (pda_cons (pd_var 7) (pda_cons (pd_var 8) pda_nil))) (pda_cons (pd_callZ (ok_minus T TS) (hr.mono (by first | decide | omega)) hgd T.g_minus T.F_minus.kp (b_minus T) (pda_cons (pd_var 7) (pda_cons (pd_var 8) pda_nil))) (pda_cons (pd_callZ (ok_times T TS) (hr.mono (by first | decide | omega)) hgd T.g_times T.F_times.kp (b_times T) (pda_cons (pd_var 7) (pda_cons (pd_var 8) pda_nil))) (pda_cons (pd_callZ (ok_distance T TS) (hr.mono (by first | decide | omega)) hgd T.g_distance T.F_distance.kp (b_distance T) (pda_cons (pd_var 7) (pda_cons (pd_var 8) pda_nil))) (pda_cons (pd_callZ (ok_is_less T TS) (hr.mono (by first | decide | omega)) hgd T.g_is_less T.F_is_less.kp (b_is_less T) (pda_cons (pd_var 7) (pda_cons (pd_var 8) pda_nil))) pda_nil)))))) sc__law_two_right.nd) (pdb_cons (pds_set (i := 12) (pd_lst (pda_cons (pd_callKZ (ok_plus T TS) (hr.mono (by first | decide | omega)) hgd T.g_plus T.F_plus.kp (bk_plus_other_one T) (pdkn_cons (pd_var 8) (pdkn_cons (pd_var 7) pdkn_nil)) rfl) (pda_cons (pd_callKZ (ok_minus T TS) (hr.mono (by first | decide | omega)) hgd T.g_minus T.F_minus.kp (bk_minus_other_one T) (pdkn_cons (pd_var 8) (pdkn_cons (pd_var 7) pdkn_nil)) rfl) (pda_cons (pd_callKZ (ok_times T TS) (hr.mono (by first | decide | omega)) hgd T.g_times T.F_times.kp (bk_times_other_one T) (pdkn_cons (pd_var 8) (pdkn_cons (pd_var 7) pdkn_nil)) rfl) (pda_cons (pd_callKZ (ok_distance T TS) (hr.mono (by first | decide | omega)) hgd T.g_distance T.F_distance.kp (bk_distance_other_one T) (pdkn_cons (pd_var 8) (pdkn_cons (pd_var 7) pdkn_nil)) rfl) (pda_cons (pd_callKZ (ok_is_less T TS) (hr.mono (by first | decide | omega)) hgd T.g_is_less T.F_is_less.kp (bk_is_less_other_one T) (pdkn_cons (pd_var 8) (pdkn_cons (pd_var 7) pdkn_nil)) rfl) pda_nil)))))) sc__law_two_right.nd) (pdb_cons (pds_if (pdt_w (pdw_or (pdt_ne (hrU hr) (pd_repr hgd (hrV hr) T.n_repr (pd_var 11)) (pd_repr hgd (hrV hr) T.n_repr (pd_var 10))) (pdw_or1 (pdt_ne (hrU hr) (pd_repr hgd (hrV hr) T.n_repr (pd_var 12)) (pd_repr hgd (hrV hr) T.n_repr (pd_var 10)))))) (pdb_one (pds_ret pd_bl)) pdb_nil) (pdb_cons (pds_if (pdt_eq (hrU hr) (pd_var 5) pd_int) (pdb_one (pds_ret (pd_eq (hrU hr) (pd_lamcall (k' := 5) (N := ["_law_mine", "_law_its"]) (own := []) (fr := ["_law_mine", "_law_its"]) (js := [7, 8]) (o := none) (okg__law_heard T TS) (hr.mono (by first | decide | omega)) (hr.mono (by first | decide | omega)) hgd T.g__law_heard T.F__law_heard.kp (b__law_heard T) rfl (Or.inl rfl) (tb__law_two_right TS) rfl (.no rfl) (NdefX.nscope_by (by decide +kernel)) (.no fun _ _ _ _ => rfl) (NdefX.ndef_free (sc := defScope s__law_two_right) (fr := ["_law_mine", "_law_its"]) (by decide +kernel)) (NdefX.ndef_fr (sc := defScope s__law_two_right) (by decide +kernel)) rfl (fun f_ c_ A_ outer_ s_ H_ E_ hr hgd => by exact (pd_callZ (ok_over T TS) (hr.mono (by first | decide | omega)) hgd T.g_over T.F_over.kp (b_over T) (pda_cons (pd_var 0) (pda_cons (pd_var 1) pda_nil))))) (pd_tup (pda_cons pd_str (pda_cons pd_str pda_nil)))))) pdb_nil) (pdb_one (pds_ret (pd_and (pd_eq (hrU hr) (pd_repr hgd (hrV hr) T.n_repr (pd_callZ (ok_over T TS) (hr.mono (by first | decide | omega)) hgd T.g_over T.F_over.kp (b_over T) (pda_cons (pd_var 7) (pda_cons (pd_var 8) pda_nil)))) (pd_repr hgd (hrV hr) T.n_repr (pd_callZ (ok__law_told T TS) (hr.mono (by first | decide | omega)) hgd T.g__law_told T.F__law_told.kp (b__law_told T) (pda_cons (pd_callZ (ok__law_low T TS) (hr.mono (by first | decide | omega)) hgd T.g__law_low T.F__law_low.kp (b__law_low T) (pda_cons (pd_mulA (pd_var 3) (pd_var 6)) (pda_cons (pd_mulA (pd_var 4) (pd_var 5)) pda_nil))) pda_nil)))) (pd_one (pd_eq (hrU hr) (pd_repr hgd (hrV hr) T.n_repr (pd_callKZ (ok_over T TS) (hr.mono (by first | decide | omega)) hgd T.g_over T.F_over.kp (bk_over_other_one T) (pdkn_cons (pd_var 8) (pdkn_cons (pd_var 7) pdkn_nil)) rfl)) (pd_repr hgd (hrV hr) T.n_repr (pd_callZ (ok_over T TS) (hr.mono (by first | decide | omega)) hgd T.g_over T.F_over.kp (b_over T) (pda_cons (pd_var 7) (pda_cons (pd_var 8) pda_nil)))))))))))))))))) (wp__law_two_right AA)
theorem ok__law_refused_right {AA : Ad} (T : Txt K mg AA) (TS : ∀ p ∈ AA.ts, LamX.TabB base mg p.1 p.2.1) : FnZ P w K mg base 8 AA.a__law_refused_right T.d__law_refused_right ["_law_bead_here"] (sp__law_refused_right AA) :=
  fnZc (k := 7) (t := (t__law_refused_right AA)) T.F__law_refused_right sc__law_refused_right (len__law_refused_right AA) (fun A outer s H E hr hgd => by exact (pdb_cons (pds_set (i := 1) (pd_lst (pda_cons pd_non (pda_cons pd_bl (pda_cons pd_str (pda_cons (pd_tup (pda_cons pd_int (pda_cons pd_int pda_nil))) (pda_cons (pd_tup (pda_cons pd_int (pda_cons pd_int pda_nil))) (pda_cons (pd_tup (pda_cons pd_int (pda_cons pd_int pda_nil))) (pda_cons (pd_tup (pda_cons pd_int (pda_cons (pd_neg pd_int) pda_nil))) (pda_cons (pd_tup (pda_cons pd_int (pda_cons pd_int pda_nil))) (pda_cons (pd_tup (pda_cons pd_int (pda_cons pd_int (pda_cons pd_int pda_nil)))) (pda_cons (pd_tup (pda_cons pd_int pda_nil)) (pda_cons (pd_lst pda_nil) (pda_cons pd_dict0 (pda_cons (pd_tup (pda_cons pd_bl (pda_cons pd_int pda_nil))) (pda_cons pd_str pda_nil))))))))))))))) sc__law_refused_right.nd) (pdb_cons (pds_asg (pd_tup (pda_cons (pd_callZ (ok__law_pick T TS) (hr.mono (by first | decide | omega)) hgd T.g__law_pick T.F__law_pick.kp (b__law_pick T) (pda_cons (pd_var 0) (pda_cons (pd_var 1) pda_nil))) (pda_cons (pd_callZ (ok__law_pick T TS) (hr.mono (by first | decide | omega)) hgd T.g__law_pick T.F__law_pick.kp (b__law_pick T) (pda_cons (pd_var 0) (pda_cons (pd_var 1) pda_nil))) pda_nil))) (pdg_tup rfl (pdgs_cons (pdg_name (i := 2) sc__law_refused_right.nd) (pdgs_cons (pdg_name (i := 3) sc__law_refused_right.nd) pdgs_nil)))) (pdb_cons (pds_for rfl (pdi_seq (pd_tup (pda_cons (pd_glob T.g_plus) (pda_cons (pd_glob T.g_minus) (pda_cons (pd_glob T.g_times) (pda_cons (pd_glob T.g_over) (pda_cons (pd_glob T.g_distance) (pda_cons (pd_glob T.g_is_less) pda_nil)))))))) (pdg_name (i := 4) sc__law_refused_right.nd) (pdb_cons (pds_set (i := 5) (pd_lst (pda_cons (pd_lamcall (k' := 5) (N := ["_law_ask", "_law_none", "_law_also"]) (own := []) (fr := ["_law_ask", "_law_none", "_law_also"]) (js := [4, 2, 3]) (o := none) (okg__law_heard T TS) (hr.mono (by first | decide | omega)) (hr.mono (by first | decide | omega)) hgd T.g__law_heard T.F__law_heard.kp (b__law_heard T) rfl (Or.inl rfl) (tb__law_refused_right TS) rfl (.no rfl) (NdefX.nscope_by (by decide +kernel)) (.no fun _ _ _ _ => rfl) (NdefX.ndef_free (sc := defScope s__law_refused_right) (fr := ["_law_ask", "_law_none", "_law_also"]) (by decide +kernel)) (NdefX.ndef_fr (sc := defScope s__law_refused_right) (by decide +kernel)) rfl (fun f_ c_ A_ outer_ s_ H_ E_ hr hgd => by exact (pd_callV (k := 5) (i := 0) [⟨AA.a_plus, T.d_plus, ["one", "other"], (sp_plus AA), (ok_plus T TS).mono (by decide), T.F_plus.kp, b_plus T⟩, ⟨AA.a_minus, T.d_minus, ["one", "other"], (sp_minus AA), (ok_minus T TS).mono (by decide), T.F_minus.kp, b_minus T⟩, ⟨AA.a_times, T.d_times, ["one", "other"], (sp_times AA), (ok_times T TS).mono (by decide), T.F_times.kp, b_times T⟩, ⟨AA.a_over, T.d_over, ["one", "other"], (sp_over AA), (ok_over T TS).mono (by decide), T.F_over.kp, b_over T⟩, ⟨AA.a_distance, T.d_distance, ["one", "other"], (sp_distance AA), (ok_distance T TS).mono (by decide), T.F_distance.kp, b_distance T⟩, ⟨AA.a_is_less, T.d_is_less, ["one", "other"], (sp_is_less AA), (ok_is_less T TS).mono (by decide), T.F_is_less.kp, b_is_less T⟩, ⟨AA.a_least, T.d_least, ["values"], (sp_least AA), (ok_least T TS).mono (by decide), T.F_least.kp, b_least T⟩, ⟨AA.a_greatest, T.d_greatest, ["values"], (sp_greatest AA), (ok_greatest T TS).mono (by decide), T.F_greatest.kp, b_greatest T⟩] (hr.mono (by first | decide | omega)) hgd (pda_cons (pd_var 1) (pda_cons (pd_var 2) pda_nil))))) (pda_cons (pd_lamcall (k' := 5) (N := ["_law_x1", "_law_ask", "_law_also"]) (own := ["_law_x1"]) (fr := ["_law_ask", "_law_also"]) (js := [4, 3]) (o := (some 0)) (okg__law_heard T TS) (hr.mono (by first | decide | omega)) (hr.mono (by first | decide | omega)) hgd T.g__law_heard T.F__law_heard.kp (b__law_heard T) rfl (Or.inl rfl) (tb__law_refused_right TS) rfl (.int rfl) (NdefX.nscope_by (by decide +kernel)) (.int fun _ _ _ _ _ _ => ⟨_, rfl, rfl⟩) (NdefX.ndef_free (sc := defScope s__law_refused_right) (fr := ["_law_ask", "_law_also"]) (by decide +kernel)) (NdefX.ndef_fr (sc := defScope s__law_refused_right) (by decide +kernel)) rfl (fun f_ c_ A_ outer_ s_ H_ E_ hr hgd => by exact (pd_callV (k := 5) (i := 1) [⟨AA.a_plus, T.d_plus, ["one", "other"], (sp_plus AA), (ok_plus T TS).mono (by decide), T.F_plus.kp, b_plus T⟩, ⟨AA.a_minus, T.d_minus, ["one", "other"], (sp_minus AA), (ok_minus T TS).mono (by decide), T.F_minus.kp, b_minus T⟩, ⟨AA.a_times, T.d_times, ["one", "other"], (sp_times AA), (ok_times T TS).mono (by decide), T.F_times.kp, b_times T⟩, ⟨AA.a_over, T.d_over, ["one", "other"], (sp_over AA), (ok_over T TS).mono (by decide), T.F_over.kp, b_over T⟩, ⟨AA.a_distance, T.d_distance, ["one", "other"], (sp_distance AA), (ok_distance T TS).mono (by decide), T.F_distance.kp, b_distance T⟩, ⟨AA.a_is_less, T.d_is_less, ["one", "other"], (sp_is_less AA), (ok_is_less T TS).mono (by decide), T.F_is_less.kp, b_is_less T⟩, ⟨AA.a_least, T.d_least, ["values"], (sp_least AA), (ok_least T TS).mono (by decide), T.F_least.kp, b_least T⟩, ⟨AA.a_greatest, T.d_greatest, ["values"], (sp_greatest AA), (ok_greatest T TS).mono (by decide), T.F_greatest.kp, b_greatest T⟩] (hr.mono (by first | decide | omega)) hgd (pda_cons pd_int (pda_cons (pd_var 2) pda_nil))))) (pda_cons (pd_lamcall (k' := 5) (N := ["_law_x2", "_law_ask"]) (own := ["_law_x2"]) (fr := ["_law_ask"]) (js := [4]) (o := (some 0)) (okg__law_heard T TS) (hr.mono (by first | decide | omega)) (hr.mono (by first | decide | omega)) hgd T.g__law_heard T.F__law_heard.kp (b__law_heard T) rfl (Or.inl rfl) (tb__law_refused_right TS) rfl (.int rfl) (NdefX.nscope_by (by decide +kernel)) (.int fun _ _ _ _ _ _ => ⟨_, rfl, rfl⟩) (NdefX.ndef_free (sc := defScope s__law_refused_right) (fr := ["_law_ask"]) (by decide +kernel)) (NdefX.ndef_fr (sc := defScope s__law_refused_right) (by decide +kernel)) rfl (fun f_ c_ A_ outer_ s_ H_ E_ hr hgd => by exact (pd_callV (k := 5) (i := 1) [⟨AA.a_plus, T.d_plus, ["one", "other"], (sp_plus AA), (ok_plus T TS).mono (by decide), T.F_plus.kp, b_plus T⟩, ⟨AA.a_minus, T.d_minus, ["one", "other"], (sp_minus AA), (ok_minus T TS).mono (by decide), T.F_minus.kp, b_minus T⟩, ⟨AA.a_times, T.d_times, ["one", "other"], (sp_times AA), (ok_times T TS).mono (by decide), T.F_times.kp, b_times T⟩, ⟨AA.a_over, T.d_over, ["one", "other"], (sp_over AA), (ok_over T TS).mono (by decide), T.F_over.kp, b_over T⟩, ⟨AA.a_distance, T.d_distance, ["one", "other"], (sp_distance AA), (ok_distance T TS).mono (by decide), T.F_distance.kp, b_distance T⟩, ⟨AA.a_is_less, T.d_is_less, ["one", "other"], (sp_is_less AA), (ok_is_less T TS).mono (by decide), T.F_is_less.kp, b_is_less T⟩, ⟨AA.a_least, T.d_least, ["values"], (sp_least AA), (ok_least T TS).mono (by decide), T.F_least.kp, b_least T⟩, ⟨AA.a_greatest, T.d_greatest, ["values"], (sp_greatest AA), (ok_greatest T TS).mono (by decide), T.F_greatest.kp, b_greatest T⟩] (hr.mono (by first | decide | omega)) hgd (pda_cons (pd_tup (pda_cons pd_int (pda_cons pd_int pda_nil))) (pda_cons (pd_lst (pda_cons pd_int (pda_cons pd_int pda_nil))) pda_nil))))) pda_nil)))) sc__law_refused_right.nd) (pdb_one (pds_if (pdt_ne (hrU hr) (pd_var 5) (pd_lst (pda_cons (pd_tup (pda_cons pd_str (pda_cons pd_str pda_nil))) (pda_cons (pd_tup (pda_cons pd_str (pda_cons pd_str pda_nil))) (pda_cons pd_non pda_nil))))) (pdb_one (pds_ret pd_bl)) pdb_nil)))) (pdb_cons (pds_for rfl (pdi_seq (pd_tup (pda_cons (pd_glob T.g_least) (pda_cons (pd_glob T.g_greatest) pda_nil)))) (pdg_name (i := 4) sc__law_refused_right.nd) (pdb_one (pds_for rfl (pdi_seq (pd_tup (pda_cons pd_non (pda_cons pd_int (pda_cons (pd_tup pda_nil) (pda_cons (pd_lst pda_nil) (pda_cons (pd_lst (pda_cons pd_int (pda_cons (pd_var 2) pda_nil))) (pda_cons (pd_tup (pda_cons (pd_var 2) pda_nil)) (pda_cons pd_str (pda_cons pd_dict0 pda_nil)))))))))) (pdg_name (i := 6) sc__law_refused_right.nd) (pdb_one (pds_if (pdt_ne (hrU hr) (pd_lamcall (k' := 5) (N := ["_law_ask", "_law_rows"]) (own := []) (fr := ["_law_ask", "_law_rows"]) (js := [4, 6]) (o := none) (okg__law_heard T TS) (hr.mono (by first | decide | omega)) (hr.mono (by first | decide | omega)) hgd T.g__law_heard T.F__law_heard.kp (b__law_heard T) rfl (Or.inl rfl) (tb__law_refused_right TS) rfl (.no rfl) (NdefX.nscope_by (by decide +kernel)) (.no fun _ _ _ _ => rfl) (NdefX.ndef_free (sc := defScope s__law_refused_right) (fr := ["_law_ask", "_law_rows"]) (by decide +kernel)) (NdefX.ndef_fr (sc := defScope s__law_refused_right) (by decide +kernel)) rfl (fun f_ c_ A_ outer_ s_ H_ E_ hr hgd => by exact (pd_callV (k := 5) (i := 0) [⟨AA.a_plus, T.d_plus, ["one", "other"], (sp_plus AA), (ok_plus T TS).mono (by decide), T.F_plus.kp, b_plus T⟩, ⟨AA.a_minus, T.d_minus, ["one", "other"], (sp_minus AA), (ok_minus T TS).mono (by decide), T.F_minus.kp, b_minus T⟩, ⟨AA.a_times, T.d_times, ["one", "other"], (sp_times AA), (ok_times T TS).mono (by decide), T.F_times.kp, b_times T⟩, ⟨AA.a_over, T.d_over, ["one", "other"], (sp_over AA), (ok_over T TS).mono (by decide), T.F_over.kp, b_over T⟩, ⟨AA.a_distance, T.d_distance, ["one", "other"], (sp_distance AA), (ok_distance T TS).mono (by decide), T.F_distance.kp, b_distance T⟩, ⟨AA.a_is_less, T.d_is_less, ["one", "other"], (sp_is_less AA), (ok_is_less T TS).mono (by decide), T.F_is_less.kp, b_is_less T⟩, ⟨AA.a_least, T.d_least, ["values"], (sp_least AA), (ok_least T TS).mono (by decide), T.F_least.kp, b_least T⟩, ⟨AA.a_greatest, T.d_greatest, ["values"], (sp_greatest AA), (ok_greatest T TS).mono (by decide), T.F_greatest.kp, b_greatest T⟩] (hr.mono (by first | decide | omega)) hgd (pda_cons (pd_var 1) pda_nil)))) (pd_tup (pda_cons pd_str (pda_cons pd_str pda_nil)))) (pdb_one (pds_ret pd_bl)) pdb_nil))))) (pdb_cons (pds_set (i := 7) (pd_callZ (ok__law_pick T TS) (hr.mono (by first | decide | omega)) hgd T.g__law_pick T.F__law_pick.kp (b__law_pick T) (pda_cons (pd_var 0) (pda_cons (pd_lst (pda_cons pd_non (pda_cons pd_bl (pda_cons pd_str (pda_cons (pd_tup (pda_cons pd_int (pda_cons pd_int pda_nil))) (pda_cons (pd_lst pda_nil) pda_nil)))))) pda_nil))) sc__law_refused_right.nd) (pdb_cons (pds_set (i := 5) (pd_lst (pda_cons (pd_lamcall (k' := 3) (N := ["_law_few"]) (own := []) (fr := ["_law_few"]) (js := [7]) (o := none) (okg__law_heard T TS) (hr.mono (by first | decide | omega)) (hr.mono (by first | decide | omega)) hgd T.g__law_heard T.F__law_heard.kp (b__law_heard T) rfl (Or.inl rfl) (tb__law_refused_right TS) rfl (.no rfl) (NdefX.nscope_by (by decide +kernel)) (.no fun _ _ _ _ => rfl) (NdefX.ndef_free (sc := defScope s__law_refused_right) (fr := ["_law_few"]) (by decide +kernel)) (NdefX.ndef_fr (sc := defScope s__law_refused_right) (by decide +kernel)) rfl (fun f_ c_ A_ outer_ s_ H_ E_ hr hgd => by exact (pd_callZ (ok_ratio T TS) (hr.mono (by first | decide | omega)) hgd T.g_ratio T.F_ratio.kp (b_ratio T) (pda_cons (pd_var 0) (pda_cons pd_int pda_nil))))) (pda_cons (pd_lamcall (k' := 3) (N := ["_law_x1", "_law_few"]) (own := ["_law_x1"]) (fr := ["_law_few"]) (js := [7]) (o := (some 0)) (okg__law_heard T TS) (hr.mono (by first | decide | omega)) (hr.mono (by first | decide | omega)) hgd T.g__law_heard T.F__law_heard.kp (b__law_heard T) rfl (Or.inl rfl) (tb__law_refused_right TS) rfl (.int rfl) (NdefX.nscope_by (by decide +kernel)) (.int fun _ _ _ _ _ _ => ⟨_, rfl, rfl⟩) (NdefX.ndef_free (sc := defScope s__law_refused_right) (fr := ["_law_few"]) (by decide +kernel)) (NdefX.ndef_fr (sc := defScope s__law_refused_right) (by decide +kernel)) rfl (fun f_ c_ A_ outer_ s_ H_ E_ hr hgd => by exact (pd_callZ (ok_ratio T TS) (hr.mono (by first | decide | omega)) hgd T.g_ratio T.F_ratio.kp (b_ratio T) (pda_cons pd_int (pda_cons (pd_var 1) pda_nil))))) (pda_cons (pd_lamcall (k' := 3) (N := ["_law_x2"]) (own := ["_law_x2"]) (fr := []) (js := []) (o := (some 0)) (okg__law_heard T TS) (hr.mono (by first | decide | omega)) (hr.mono (by first | decide | omega)) hgd T.g__law_heard T.F__law_heard.kp (b__law_heard T) rfl (Or.inl rfl) (tb__law_refused_right TS) rfl (.int rfl) (NdefX.nscope_by (by decide +kernel)) (.int fun _ _ _ _ _ _ => ⟨_, rfl, rfl⟩) (NdefX.ndef_free (sc := defScope s__law_refused_right) (fr := []) (by decide +kernel)) (NdefX.ndef_fr (sc := defScope s__law_refused_right) (by decide +kernel)) rfl (fun f_ c_ A_ outer_ s_ H_ E_ hr hgd => by exact (pd_callZ (ok_ratio T TS) (hr.mono (by first | decide | omega)) hgd T.g_ratio T.F_ratio.kp (b_ratio T) (pda_cons pd_int (pda_cons pd_int pda_nil))))) pda_nil)))) sc__law_refused_right.nd) (pdb_one (pds_ret (pd_eq (hrU hr) (pd_var 5) (pd_lst (pda_cons (pd_tup (pda_cons pd_str (pda_cons pd_str pda_nil))) (pda_cons (pd_tup (pda_cons pd_str (pda_cons pd_str pda_nil))) (pda_cons (pd_tup (pda_cons pd_str (pda_cons pd_str pda_nil))) pda_nil)))))))))))))) (wp__law_refused_right AA)
theorem ok_law {AA : Ad} (T : Txt K mg AA) (TS : ∀ p ∈ AA.ts, LamX.TabB base mg p.1 p.2.1) : FnZ P w K mg base 9 AA.a_law T.d_law ["_law_script"] (spLawT AA.ts) :=
  fnZ (k := 8) (t := (t_law AA)) T.F_law sc_law (len_law AA) (fun cdv A outer s H E hr hgd => by exact (pdb_cons (pds_set (i := 1) (pd_callZ (ok__law_bead T TS) (hr.mono (by first | decide | omega)) hgd T.g__law_bead T.F__law_bead.kp (b__law_bead T) (pda_cons (pd_var 0) pda_nil)) sc_law.nd) (pdb_cons (pds_for rfl (pdi_rng1 T.n_range (pdn_cons pd_int pdn_nil)) (pdg_name (i := 2) sc_law.nd) (pdb_cons (pds_par (i := 3) (j := 4) rfl sc_law.nd (pda_cons (pd_callZ (ok__law_number T TS) (hr.mono (by first | decide | omega)) hgd T.g__law_number T.F__law_number.kp (b__law_number T) (pda_cons (pd_var 1) pda_nil)) (pda_cons (pd_callZ (ok__law_number T TS) (hr.mono (by first | decide | omega)) hgd T.g__law_number T.F__law_number.kp (b__law_number T) (pda_cons (pd_var 1) pda_nil)) pda_nil))) (pdb_cons (pds_set (i := 4) (pd_callZ (ok__law_pick T TS) (hr.mono (by first | decide | omega)) hgd T.g__law_pick T.F__law_pick.kp (b__law_pick T) (pda_cons (pd_var 1) (pda_cons (pd_lst (pda_cons (pd_var 4) (pda_cons (pd_var 4) (pda_cons (pd_var 3) (pda_cons (pd_callZ (ok__law_low T TS) (hr.mono (by first | decide | omega)) hgd T.g__law_low T.F__law_low.kp (b__law_low T) (pda_cons (pd_neg (pd_ix (pd_var 3) pd_int)) (pda_cons (pd_ix (pd_var 3) pd_int) pda_nil))) (pda_cons (pd_tup (pda_cons pd_int (pda_cons pd_int pda_nil))) (pda_cons (pd_callZ (ok__law_low T TS) (hr.mono (by first | decide | omega)) hgd T.g__law_low T.F__law_low.kp (b__law_low T) (pda_cons (pd_addA (pd_mulA (pd_ix (pd_var 3) pd_int) (pd_pow pd_int pd_int)) pd_int) (pda_cons (pd_mulA (pd_ix (pd_var 3) pd_int) (pd_pow pd_int pd_int)) pda_nil))) pda_nil))))))) pda_nil))) sc_law.nd) (pdb_cons (pds_if (pdt_not (pdt_tru (pd_callZ (ok__law_two_right T TS) (hr.mono (by first | decide | omega)) hgd T.g__law_two_right T.F__law_two_right.kp (b__law_two_right T) (pda_cons (pd_var 1) (pda_cons (pd_var 3) (pda_cons (pd_var 4) pda_nil)))))) (pdb_one (pds_ret pd_bl)) pdb_nil) (pdb_cons (pds_par (i := 5) (j := 6) rfl sc_law.nd (pda_cons (pd_sub (pd_callZ (ok__law_string T TS) (hr.mono (by first | decide | omega)) hgd T.g__law_string T.F__law_string.kp (b__law_string T) (pda_cons (pd_var 1) (pda_cons (pd_pow pd_int pd_int) pda_nil))) (pd_pow pd_int pd_int)) (pda_cons (pd_mulA (pd_callZ (ok__law_pick T TS) (hr.mono (by first | decide | omega)) hgd T.g__law_pick T.F__law_pick.kp (b__law_pick T) (pda_cons (pd_var 1) (pda_cons (pd_lst (pda_cons pd_int (pda_cons (pd_neg pd_int) (pda_cons pd_int (pda_cons (pd_neg pd_int) (pda_cons (pd_pow pd_int pd_int) (pda_cons (pd_neg pd_int) pda_nil))))))) pda_nil))) (pd_addA pd_int (pd_callZ (ok__law_string T TS) (hr.mono (by first | decide | omega)) hgd T.g__law_string T.F__law_string.kp (b__law_string T) (pda_cons (pd_var 1) (pda_cons pd_int pda_nil))))) pda_nil))) (pdb_one (pds_if (pdt_ne (hrU hr) (pd_repr hgd (hrV hr) T.n_repr (pd_lst (pda_cons (pd_callZ (ok_ratio T TS) (hr.mono (by first | decide | omega)) hgd T.g_ratio T.F_ratio.kp (b_ratio T) (pda_cons (pd_var 5) (pda_cons (pd_var 6) pda_nil))) (pda_cons (pd_callKZ (ok_ratio T TS) (hr.mono (by first | decide | omega)) hgd T.g_ratio T.F_ratio.kp (bk_ratio_below_above T) (pdkn_cons (pd_var 6) (pdkn_cons (pd_var 5) pdkn_nil)) rfl) pda_nil)))) (pd_repr hgd (hrV hr) T.n_repr (pd_repL (pda_cons (pd_callZ (ok__law_told T TS) (hr.mono (by first | decide | omega)) hgd T.g__law_told T.F__law_told.kp (b__law_told T) (pda_cons (pd_callZ (ok__law_low T TS) (hr.mono (by first | decide | omega)) hgd T.g__law_low T.F__law_low.kp (b__law_low T) (pda_cons (pd_var 5) (pda_cons (pd_var 6) pda_nil))) pda_nil)) pda_nil)))) (pdb_one (pds_ret pd_bl)) pdb_nil))))))) (pdb_one (pds_ret (pd_and (pd_callZ (ok__law_some_right T TS) (hr.mono (by first | decide | omega)) hgd T.g__law_some_right T.F__law_some_right.kp (b__law_some_right T) (pda_cons (pd_var 1) pda_nil)) (pd_one (pd_callZ (ok__law_refused_right T TS) (hr.mono (by first | decide | omega)) hgd T.g__law_refused_right T.F__law_refused_right.kp (b__law_refused_right T) (pda_cons (pd_var 1) pda_nil))))))))) (wp_law AA T.ndt)
end
theorem all_mk {P : Program} {w : World} {K : PySem.W.Frag} {h : Heap} {mg : Str → Option Value} {q : Program} {k__law_two_right P__law_two_right k__law_refused_right P__law_refused_right : Addr} {ke__law_two_right ke__law_refused_right : Value} {kd__law_two_right kd__law_refused_right : Option Addr} {kv__law_two_right kv__law_refused_right : Array Value} {ks__law_two_right ks__law_refused_right : Array (Option Value)} {c_LaneError c_BadNumber c_Misfit i_BadNumber i_Misfit : Addr} {iod_BadNumber ian_BadNumber iod_Misfit ian_Misfit : Option Addr} {isl_BadNumber isl_Misfit : Array (Option Value)} {ioc_BadNumber ikV_BadNumber idc_BadNumber ipm_BadNumber icd_BadNumber ict_BadNumber ioc_Misfit ikV_Misfit idc_Misfit ipm_Misfit icd_Misfit ict_Misfit : Value} {fa a_is_integer a_is_within a_is_row_of a_is_number a_raw a_told a_made a_add a_subtract a_multiply a_divide a_is_smaller a_smaller a_greater a_ratio a_both_raw a_plus a_minus a_times a_over a_distance a_is_less a_all_raw a_least a_greatest a__law_bead a__law_string a__law_pick a__law_low a__law_told a__law_number a__law_handed a__law_two_right a__law_heard a__law_some_right a__law_refused_right a_law : Addr} {od_is_integer an_is_integer od_is_within an_is_within od_is_row_of an_is_row_of od_is_number an_is_number od_raw an_raw od_told an_told od_made an_made od_add an_add od_subtract an_subtract od_multiply an_multiply od_divide an_divide od_is_smaller an_is_smaller od_smaller an_smaller od_greater an_greater od_ratio an_ratio od_both_raw an_both_raw od_plus an_plus od_minus an_minus od_times an_times od_over an_over od_distance an_distance od_is_less an_is_less od_all_raw an_all_raw od_least an_least od_greatest an_greatest od__law_bead an__law_bead od__law_string an__law_string od__law_pick an__law_pick od__law_low an__law_low od__law_told an__law_told od__law_number an__law_number od__law_handed an__law_handed od__law_two_right an__law_two_right od__law_heard an__law_heard od__law_some_right an__law_some_right od__law_refused_right an__law_refused_right od_law an_law : Option Addr} {sl_is_integer sl_is_within sl_is_row_of sl_is_number sl_raw sl_told sl_made sl_add sl_subtract sl_multiply sl_divide sl_is_smaller sl_smaller sl_greater sl_ratio sl_both_raw sl_plus sl_minus sl_times sl_over sl_distance sl_is_less sl_all_raw sl_least sl_greatest sl__law_bead sl__law_string sl__law_pick sl__law_low sl__law_told sl__law_number sl__law_handed sl__law_two_right sl__law_heard sl__law_some_right sl__law_refused_right sl_law : Array (Option Value)} {oc_is_integer kV_is_integer dc_is_integer pm_is_integer cd_is_integer ct_is_integer oc_is_within kV_is_within dc_is_within pm_is_within cd_is_within ct_is_within oc_is_row_of kV_is_row_of dc_is_row_of pm_is_row_of cd_is_row_of ct_is_row_of oc_is_number kV_is_number dc_is_number pm_is_number cd_is_number ct_is_number oc_raw kV_raw dc_raw pm_raw cd_raw ct_raw oc_told kV_told dc_told pm_told cd_told ct_told oc_made kV_made dc_made pm_made cd_made ct_made oc_add kV_add dc_add pm_add cd_add ct_add oc_subtract kV_subtract dc_subtract pm_subtract cd_subtract ct_subtract oc_multiply kV_multiply dc_multiply pm_multiply cd_multiply ct_multiply oc_divide kV_divide dc_divide pm_divide cd_divide ct_divide oc_is_smaller kV_is_smaller dc_is_smaller pm_is_smaller cd_is_smaller ct_is_smaller oc_smaller kV_smaller dc_smaller pm_smaller cd_smaller ct_smaller oc_greater kV_greater dc_greater pm_greater cd_greater ct_greater oc_ratio kV_ratio dc_ratio pm_ratio cd_ratio ct_ratio oc_both_raw kV_both_raw dc_both_raw pm_both_raw cd_both_raw ct_both_raw oc_plus kV_plus dc_plus pm_plus cd_plus ct_plus oc_minus kV_minus dc_minus pm_minus cd_minus ct_minus oc_times kV_times dc_times pm_times cd_times ct_times oc_over kV_over dc_over pm_over cd_over ct_over oc_distance kV_distance dc_distance pm_distance cd_distance ct_distance oc_is_less kV_is_less dc_is_less pm_is_less cd_is_less ct_is_less oc_all_raw kV_all_raw dc_all_raw pm_all_raw cd_all_raw ct_all_raw oc_least kV_least dc_least pm_least cd_least ct_least oc_greatest kV_greatest dc_greatest pm_greatest cd_greatest ct_greatest oc__law_bead kV__law_bead dc__law_bead pm__law_bead cd__law_bead ct__law_bead oc__law_string kV__law_string dc__law_string pm__law_string cd__law_string ct__law_string oc__law_pick kV__law_pick dc__law_pick pm__law_pick cd__law_pick ct__law_pick oc__law_low kV__law_low dc__law_low pm__law_low cd__law_low ct__law_low oc__law_told kV__law_told dc__law_told pm__law_told cd__law_told ct__law_told oc__law_number kV__law_number dc__law_number pm__law_number cd__law_number ct__law_number oc__law_handed kV__law_handed dc__law_handed pm__law_handed cd__law_handed ct__law_handed oc__law_two_right kV__law_two_right dc__law_two_right pm__law_two_right ct__law_two_right oc__law_heard kV__law_heard dc__law_heard pm__law_heard cd__law_heard ct__law_heard oc__law_some_right kV__law_some_right dc__law_some_right pm__law_some_right cd__law_some_right ct__law_some_right oc__law_refused_right kV__law_refused_right dc__law_refused_right pm__law_refused_right ct__law_refused_right oc_law kV_law dc_law pm_law cd_law ct_law : Value} (X : K.In h) (G : h.Ns mainGlobals mg)
    (hfa : mg "law" = some (.ref fa)) (own : ∀ (y : Str) (a : Addr), ((PyProof.Rows.recsOf q).any fun e => e.name == y) = true → mg y = some (.ref a) → LamX.OwnTab K a h)
    (gc_LaneError : PySem.W.nsIn K mainGlobals "LaneError" = some (some (.ref c_LaneError)))
    (gc_BadNumber : PySem.W.nsIn K mainGlobals "BadNumber" = some (some (.ref c_BadNumber)))
    (iC_BadNumber : PySem.W.findIn K (.ref c_BadNumber) "__init__" = some (some (.ref i_BadNumber))) (li_BadNumber : K.lookup i_BadNumber = some ⟨ioc_BadNumber, iod_BadNumber, .func (PySem.W.fnOf "__init__" "BadNumber.__init__" (defArgs si_BadNumber) (defBody si_BadNumber) (defScope si_BadNumber) .none ikV_BadNumber idc_BadNumber ipm_BadNumber ian_BadNumber icd_BadNumber ict_BadNumber), isl_BadNumber⟩) (ci_BadNumber : PySem.W.codeIn K icd_BadNumber "BadNumber.__init__" = true) (ki_BadNumber : PySem.W.keepIn K (.ref i_BadNumber) = true) (tI_BadNumber : PySem.W.typeIn K (.ref i_BadNumber) = some (.type "function"))
    (gc_Misfit : PySem.W.nsIn K mainGlobals "Misfit" = some (some (.ref c_Misfit)))
    (iC_Misfit : PySem.W.findIn K (.ref c_Misfit) "__init__" = some (some (.ref i_Misfit))) (li_Misfit : K.lookup i_Misfit = some ⟨ioc_Misfit, iod_Misfit, .func (PySem.W.fnOf "__init__" "Misfit.__init__" (defArgs si_Misfit) (defBody si_Misfit) (defScope si_Misfit) .none ikV_Misfit idc_Misfit ipm_Misfit ian_Misfit icd_Misfit ict_Misfit), isl_Misfit⟩) (ci_Misfit : PySem.W.codeIn K icd_Misfit "Misfit.__init__" = true) (ki_Misfit : PySem.W.keepIn K (.ref i_Misfit) = true) (tI_Misfit : PySem.W.typeIn K (.ref i_Misfit) = some (.type "function"))
    (b_LaneError : PySem.W.subIn K (.ref c_LaneError) (.type "BaseException") = some true) (h_LaneError : PySem.W.hasDictIn K c_LaneError = true) (t_LaneError : PySem.W.typeIn K (.ref c_LaneError) = some (.type "type"))
    (x_BadNumber : exB K c_LaneError c_BadNumber FL = true)
    (x_Misfit : exB K c_LaneError c_Misfit FL = true)
    (nd : [c_LaneError, c_BadNumber, c_Misfit].Nodup)
    (g_is_integer : PySem.W.nsIn K mainGlobals "is_integer" = some (some (.ref a_is_integer))) (l_is_integer : K.lookup a_is_integer = some ⟨oc_is_integer, od_is_integer, .func (PySem.W.fnOf "is_integer" "is_integer" (defArgs s_is_integer) (defBody s_is_integer) (defScope s_is_integer) .none kV_is_integer dc_is_integer pm_is_integer an_is_integer cd_is_integer ct_is_integer), sl_is_integer⟩) (c_is_integer : PySem.W.codeIn K cd_is_integer "is_integer" = true) (kp_is_integer : PySem.W.keepIn K (.ref a_is_integer) = true)
    (g_is_within : PySem.W.nsIn K mainGlobals "is_within" = some (some (.ref a_is_within))) (l_is_within : K.lookup a_is_within = some ⟨oc_is_within, od_is_within, .func (PySem.W.fnOf "is_within" "is_within" (defArgs s_is_within) (defBody s_is_within) (defScope s_is_within) .none kV_is_within dc_is_within pm_is_within an_is_within cd_is_within ct_is_within), sl_is_within⟩) (c_is_within : PySem.W.codeIn K cd_is_within "is_within" = true) (kp_is_within : PySem.W.keepIn K (.ref a_is_within) = true)
    (g_is_row_of : PySem.W.nsIn K mainGlobals "is_row_of" = some (some (.ref a_is_row_of))) (l_is_row_of : K.lookup a_is_row_of = some ⟨oc_is_row_of, od_is_row_of, .func (PySem.W.fnOf "is_row_of" "is_row_of" (defArgs s_is_row_of) (defBody s_is_row_of) (defScope s_is_row_of) .none kV_is_row_of dc_is_row_of pm_is_row_of an_is_row_of cd_is_row_of ct_is_row_of), sl_is_row_of⟩) (c_is_row_of : PySem.W.codeIn K cd_is_row_of "is_row_of" = true) (kp_is_row_of : PySem.W.keepIn K (.ref a_is_row_of) = true)
    (g_is_number : PySem.W.nsIn K mainGlobals "is_number" = some (some (.ref a_is_number))) (l_is_number : K.lookup a_is_number = some ⟨oc_is_number, od_is_number, .func (PySem.W.fnOf "is_number" "is_number" (defArgs s_is_number) (defBody s_is_number) (defScope s_is_number) .none kV_is_number dc_is_number pm_is_number an_is_number cd_is_number ct_is_number), sl_is_number⟩) (c_is_number : PySem.W.codeIn K cd_is_number "is_number" = true) (kp_is_number : PySem.W.keepIn K (.ref a_is_number) = true)
    (g_raw : PySem.W.nsIn K mainGlobals "raw" = some (some (.ref a_raw))) (l_raw : K.lookup a_raw = some ⟨oc_raw, od_raw, .func (PySem.W.fnOf "raw" "raw" (defArgs s_raw) (defBody s_raw) (defScope s_raw) .none kV_raw dc_raw pm_raw an_raw cd_raw ct_raw), sl_raw⟩) (c_raw : PySem.W.codeIn K cd_raw "raw" = true) (kp_raw : PySem.W.keepIn K (.ref a_raw) = true)
    (g_told : PySem.W.nsIn K mainGlobals "told" = some (some (.ref a_told))) (l_told : K.lookup a_told = some ⟨oc_told, od_told, .func (PySem.W.fnOf "told" "told" (defArgs s_told) (defBody s_told) (defScope s_told) .none kV_told dc_told pm_told an_told cd_told ct_told), sl_told⟩) (c_told : PySem.W.codeIn K cd_told "told" = true) (kp_told : PySem.W.keepIn K (.ref a_told) = true)
    (g_made : PySem.W.nsIn K mainGlobals "made" = some (some (.ref a_made))) (l_made : K.lookup a_made = some ⟨oc_made, od_made, .func (PySem.W.fnOf "made" "made" (defArgs s_made) (defBody s_made) (defScope s_made) .none kV_made dc_made pm_made an_made cd_made ct_made), sl_made⟩) (c_made : PySem.W.codeIn K cd_made "made" = true) (kp_made : PySem.W.keepIn K (.ref a_made) = true)
    (g_add : PySem.W.nsIn K mainGlobals "add" = some (some (.ref a_add))) (l_add : K.lookup a_add = some ⟨oc_add, od_add, .func (PySem.W.fnOf "add" "add" (defArgs s_add) (defBody s_add) (defScope s_add) .none kV_add dc_add pm_add an_add cd_add ct_add), sl_add⟩) (c_add : PySem.W.codeIn K cd_add "add" = true) (kp_add : PySem.W.keepIn K (.ref a_add) = true)
    (g_subtract : PySem.W.nsIn K mainGlobals "subtract" = some (some (.ref a_subtract))) (l_subtract : K.lookup a_subtract = some ⟨oc_subtract, od_subtract, .func (PySem.W.fnOf "subtract" "subtract" (defArgs s_subtract) (defBody s_subtract) (defScope s_subtract) .none kV_subtract dc_subtract pm_subtract an_subtract cd_subtract ct_subtract), sl_subtract⟩) (c_subtract : PySem.W.codeIn K cd_subtract "subtract" = true) (kp_subtract : PySem.W.keepIn K (.ref a_subtract) = true)
    (g_multiply : PySem.W.nsIn K mainGlobals "multiply" = some (some (.ref a_multiply))) (l_multiply : K.lookup a_multiply = some ⟨oc_multiply, od_multiply, .func (PySem.W.fnOf "multiply" "multiply" (defArgs s_multiply) (defBody s_multiply) (defScope s_multiply) .none kV_multiply dc_multiply pm_multiply an_multiply cd_multiply ct_multiply), sl_multiply⟩) (c_multiply : PySem.W.codeIn K cd_multiply "multiply" = true) (kp_multiply : PySem.W.keepIn K (.ref a_multiply) = true)
    (g_divide : PySem.W.nsIn K mainGlobals "divide" = some (some (.ref a_divide))) (l_divide : K.lookup a_divide = some ⟨oc_divide, od_divide, .func (PySem.W.fnOf "divide" "divide" (defArgs s_divide) (defBody s_divide) (defScope s_divide) .none kV_divide dc_divide pm_divide an_divide cd_divide ct_divide), sl_divide⟩) (c_divide : PySem.W.codeIn K cd_divide "divide" = true) (kp_divide : PySem.W.keepIn K (.ref a_divide) = true)
    (g_is_smaller : PySem.W.nsIn K mainGlobals "is_smaller" = some (some (.ref a_is_smaller))) (l_is_smaller : K.lookup a_is_smaller = some ⟨oc_is_smaller, od_is_smaller, .func (PySem.W.fnOf "is_smaller" "is_smaller" (defArgs s_is_smaller) (defBody s_is_smaller) (defScope s_is_smaller) .none kV_is_smaller dc_is_smaller pm_is_smaller an_is_smaller cd_is_smaller ct_is_smaller), sl_is_smaller⟩) (c_is_smaller : PySem.W.codeIn K cd_is_smaller "is_smaller" = true) (kp_is_smaller : PySem.W.keepIn K (.ref a_is_smaller) = true)
    (g_smaller : PySem.W.nsIn K mainGlobals "smaller" = some (some (.ref a_smaller))) (l_smaller : K.lookup a_smaller = some ⟨oc_smaller, od_smaller, .func (PySem.W.fnOf "smaller" "smaller" (defArgs s_smaller) (defBody s_smaller) (defScope s_smaller) .none kV_smaller dc_smaller pm_smaller an_smaller cd_smaller ct_smaller), sl_smaller⟩) (c_smaller : PySem.W.codeIn K cd_smaller "smaller" = true) (kp_smaller : PySem.W.keepIn K (.ref a_smaller) = true)
    (g_greater : PySem.W.nsIn K mainGlobals "greater" = some (some (.ref a_greater))) (l_greater : K.lookup a_greater = some ⟨oc_greater, od_greater, .func (PySem.W.fnOf "greater" "greater" (defArgs s_greater) (defBody s_greater) (defScope s_greater) .none kV_greater dc_greater pm_greater an_greater cd_greater ct_greater), sl_greater⟩) (c_greater : PySem.W.codeIn K cd_greater "greater" = true) (kp_greater : PySem.W.keepIn K (.ref a_greater) = true)
    (g_ratio : PySem.W.nsIn K mainGlobals "ratio" = some (some (.ref a_ratio))) (l_ratio : K.lookup a_ratio = some ⟨oc_ratio, od_ratio, .func (PySem.W.fnOf "ratio" "ratio" (defArgs s_ratio) (defBody s_ratio) (defScope s_ratio) .none kV_ratio dc_ratio pm_ratio an_ratio cd_ratio ct_ratio), sl_ratio⟩) (c_ratio : PySem.W.codeIn K cd_ratio "ratio" = true) (kp_ratio : PySem.W.keepIn K (.ref a_ratio) = true)
    (g_both_raw : PySem.W.nsIn K mainGlobals "both_raw" = some (some (.ref a_both_raw))) (l_both_raw : K.lookup a_both_raw = some ⟨oc_both_raw, od_both_raw, .func (PySem.W.fnOf "both_raw" "both_raw" (defArgs s_both_raw) (defBody s_both_raw) (defScope s_both_raw) .none kV_both_raw dc_both_raw pm_both_raw an_both_raw cd_both_raw ct_both_raw), sl_both_raw⟩) (c_both_raw : PySem.W.codeIn K cd_both_raw "both_raw" = true) (kp_both_raw : PySem.W.keepIn K (.ref a_both_raw) = true)
    (g_plus : PySem.W.nsIn K mainGlobals "plus" = some (some (.ref a_plus))) (l_plus : K.lookup a_plus = some ⟨oc_plus, od_plus, .func (PySem.W.fnOf "plus" "plus" (defArgs s_plus) (defBody s_plus) (defScope s_plus) .none kV_plus dc_plus pm_plus an_plus cd_plus ct_plus), sl_plus⟩) (c_plus : PySem.W.codeIn K cd_plus "plus" = true) (kp_plus : PySem.W.keepIn K (.ref a_plus) = true)
    (g_minus : PySem.W.nsIn K mainGlobals "minus" = some (some (.ref a_minus))) (l_minus : K.lookup a_minus = some ⟨oc_minus, od_minus, .func (PySem.W.fnOf "minus" "minus" (defArgs s_minus) (defBody s_minus) (defScope s_minus) .none kV_minus dc_minus pm_minus an_minus cd_minus ct_minus), sl_minus⟩) (c_minus : PySem.W.codeIn K cd_minus "minus" = true) (kp_minus : PySem.W.keepIn K (.ref a_minus) = true)
    (g_times : PySem.W.nsIn K mainGlobals "times" = some (some (.ref a_times))) (l_times : K.lookup a_times = some ⟨oc_times, od_times, .func (PySem.W.fnOf "times" "times" (defArgs s_times) (defBody s_times) (defScope s_times) .none kV_times dc_times pm_times an_times cd_times ct_times), sl_times⟩) (c_times : PySem.W.codeIn K cd_times "times" = true) (kp_times : PySem.W.keepIn K (.ref a_times) = true)
    (g_over : PySem.W.nsIn K mainGlobals "over" = some (some (.ref a_over))) (l_over : K.lookup a_over = some ⟨oc_over, od_over, .func (PySem.W.fnOf "over" "over" (defArgs s_over) (defBody s_over) (defScope s_over) .none kV_over dc_over pm_over an_over cd_over ct_over), sl_over⟩) (c_over : PySem.W.codeIn K cd_over "over" = true) (kp_over : PySem.W.keepIn K (.ref a_over) = true)
    (g_distance : PySem.W.nsIn K mainGlobals "distance" = some (some (.ref a_distance))) (l_distance : K.lookup a_distance = some ⟨oc_distance, od_distance, .func (PySem.W.fnOf "distance" "distance" (defArgs s_distance) (defBody s_distance) (defScope s_distance) .none kV_distance dc_distance pm_distance an_distance cd_distance ct_distance), sl_distance⟩) (c_distance : PySem.W.codeIn K cd_distance "distance" = true) (kp_distance : PySem.W.keepIn K (.ref a_distance) = true)
    (g_is_less : PySem.W.nsIn K mainGlobals "is_less" = some (some (.ref a_is_less))) (l_is_less : K.lookup a_is_less = some ⟨oc_is_less, od_is_less, .func (PySem.W.fnOf "is_less" "is_less" (defArgs s_is_less) (defBody s_is_less) (defScope s_is_less) .none kV_is_less dc_is_less pm_is_less an_is_less cd_is_less ct_is_less), sl_is_less⟩) (c_is_less : PySem.W.codeIn K cd_is_less "is_less" = true) (kp_is_less : PySem.W.keepIn K (.ref a_is_less) = true)
    (g_all_raw : PySem.W.nsIn K mainGlobals "all_raw" = some (some (.ref a_all_raw))) (l_all_raw : K.lookup a_all_raw = some ⟨oc_all_raw, od_all_raw, .func (PySem.W.fnOf "all_raw" "all_raw" (defArgs s_all_raw) (defBody s_all_raw) (defScope s_all_raw) .none kV_all_raw dc_all_raw pm_all_raw an_all_raw cd_all_raw ct_all_raw), sl_all_raw⟩) (c_all_raw : PySem.W.codeIn K cd_all_raw "all_raw" = true) (kp_all_raw : PySem.W.keepIn K (.ref a_all_raw) = true)
    (g_least : PySem.W.nsIn K mainGlobals "least" = some (some (.ref a_least))) (l_least : K.lookup a_least = some ⟨oc_least, od_least, .func (PySem.W.fnOf "least" "least" (defArgs s_least) (defBody s_least) (defScope s_least) .none kV_least dc_least pm_least an_least cd_least ct_least), sl_least⟩) (c_least : PySem.W.codeIn K cd_least "least" = true) (kp_least : PySem.W.keepIn K (.ref a_least) = true)
    (g_greatest : PySem.W.nsIn K mainGlobals "greatest" = some (some (.ref a_greatest))) (l_greatest : K.lookup a_greatest = some ⟨oc_greatest, od_greatest, .func (PySem.W.fnOf "greatest" "greatest" (defArgs s_greatest) (defBody s_greatest) (defScope s_greatest) .none kV_greatest dc_greatest pm_greatest an_greatest cd_greatest ct_greatest), sl_greatest⟩) (c_greatest : PySem.W.codeIn K cd_greatest "greatest" = true) (kp_greatest : PySem.W.keepIn K (.ref a_greatest) = true)
    (g__law_bead : PySem.W.nsIn K mainGlobals "_law_bead" = some (some (.ref a__law_bead))) (l__law_bead : K.lookup a__law_bead = some ⟨oc__law_bead, od__law_bead, .func (PySem.W.fnOf "_law_bead" "_law_bead" (defArgs s__law_bead) (defBody s__law_bead) (defScope s__law_bead) .none kV__law_bead dc__law_bead pm__law_bead an__law_bead cd__law_bead ct__law_bead), sl__law_bead⟩) (c__law_bead : PySem.W.codeIn K cd__law_bead "_law_bead" = true) (kp__law_bead : PySem.W.keepIn K (.ref a__law_bead) = true)
    (g__law_string : PySem.W.nsIn K mainGlobals "_law_string" = some (some (.ref a__law_string))) (l__law_string : K.lookup a__law_string = some ⟨oc__law_string, od__law_string, .func (PySem.W.fnOf "_law_string" "_law_string" (defArgs s__law_string) (defBody s__law_string) (defScope s__law_string) .none kV__law_string dc__law_string pm__law_string an__law_string cd__law_string ct__law_string), sl__law_string⟩) (c__law_string : PySem.W.codeIn K cd__law_string "_law_string" = true) (kp__law_string : PySem.W.keepIn K (.ref a__law_string) = true)
    (g__law_pick : PySem.W.nsIn K mainGlobals "_law_pick" = some (some (.ref a__law_pick))) (l__law_pick : K.lookup a__law_pick = some ⟨oc__law_pick, od__law_pick, .func (PySem.W.fnOf "_law_pick" "_law_pick" (defArgs s__law_pick) (defBody s__law_pick) (defScope s__law_pick) .none kV__law_pick dc__law_pick pm__law_pick an__law_pick cd__law_pick ct__law_pick), sl__law_pick⟩) (c__law_pick : PySem.W.codeIn K cd__law_pick "_law_pick" = true) (kp__law_pick : PySem.W.keepIn K (.ref a__law_pick) = true)
    (g__law_low : PySem.W.nsIn K mainGlobals "_law_low" = some (some (.ref a__law_low))) (l__law_low : K.lookup a__law_low = some ⟨oc__law_low, od__law_low, .func (PySem.W.fnOf "_law_low" "_law_low" (defArgs s__law_low) (defBody s__law_low) (defScope s__law_low) .none kV__law_low dc__law_low pm__law_low an__law_low cd__law_low ct__law_low), sl__law_low⟩) (c__law_low : PySem.W.codeIn K cd__law_low "_law_low" = true) (kp__law_low : PySem.W.keepIn K (.ref a__law_low) = true)
    (g__law_told : PySem.W.nsIn K mainGlobals "_law_told" = some (some (.ref a__law_told))) (l__law_told : K.lookup a__law_told = some ⟨oc__law_told, od__law_told, .func (PySem.W.fnOf "_law_told" "_law_told" (defArgs s__law_told) (defBody s__law_told) (defScope s__law_told) .none kV__law_told dc__law_told pm__law_told an__law_told cd__law_told ct__law_told), sl__law_told⟩) (c__law_told : PySem.W.codeIn K cd__law_told "_law_told" = true) (kp__law_told : PySem.W.keepIn K (.ref a__law_told) = true)
    (g__law_number : PySem.W.nsIn K mainGlobals "_law_number" = some (some (.ref a__law_number))) (l__law_number : K.lookup a__law_number = some ⟨oc__law_number, od__law_number, .func (PySem.W.fnOf "_law_number" "_law_number" (defArgs s__law_number) (defBody s__law_number) (defScope s__law_number) .none kV__law_number dc__law_number pm__law_number an__law_number cd__law_number ct__law_number), sl__law_number⟩) (c__law_number : PySem.W.codeIn K cd__law_number "_law_number" = true) (kp__law_number : PySem.W.keepIn K (.ref a__law_number) = true)
    (g__law_handed : PySem.W.nsIn K mainGlobals "_law_handed" = some (some (.ref a__law_handed))) (l__law_handed : K.lookup a__law_handed = some ⟨oc__law_handed, od__law_handed, .func (PySem.W.fnOf "_law_handed" "_law_handed" (defArgs s__law_handed) (defBody s__law_handed) (defScope s__law_handed) .none kV__law_handed dc__law_handed pm__law_handed an__law_handed cd__law_handed ct__law_handed), sl__law_handed⟩) (c__law_handed : PySem.W.codeIn K cd__law_handed "_law_handed" = true) (kp__law_handed : PySem.W.keepIn K (.ref a__law_handed) = true)
    (g__law_two_right : PySem.W.nsIn K mainGlobals "_law_two_right" = some (some (.ref a__law_two_right))) (l__law_two_right : K.lookup a__law_two_right = some ⟨oc__law_two_right, od__law_two_right, .func (PySem.W.fnOf "_law_two_right" "_law_two_right" (defArgs s__law_two_right) (defBody s__law_two_right) (defScope s__law_two_right) .none kV__law_two_right dc__law_two_right pm__law_two_right an__law_two_right (.ref k__law_two_right) ct__law_two_right), sl__law_two_right⟩) (c__law_two_right : PySem.W.codeIn K (.ref k__law_two_right) "_law_two_right" = true) (kp__law_two_right : PySem.W.keepIn K (.ref a__law_two_right) = true)
    (lk__law_two_right : K.lookup k__law_two_right = some ⟨ke__law_two_right, kd__law_two_right, .fields kv__law_two_right, ks__law_two_right⟩) (lp__law_two_right : kv__law_two_right[11]? = some (.ref P__law_two_right)) (hd__law_two_right : PySem.W.codeHdIn K k__law_two_right P__law_two_right = true) (np__law_two_right : K.lookup P__law_two_right = none) (rc__law_two_right : ((PyProof.Rows.recsOf q).any fun e => e.name == "_law_two_right") = true)
    (g__law_heard : PySem.W.nsIn K mainGlobals "_law_heard" = some (some (.ref a__law_heard))) (l__law_heard : K.lookup a__law_heard = some ⟨oc__law_heard, od__law_heard, .func (PySem.W.fnOf "_law_heard" "_law_heard" (defArgs s__law_heard) (defBody s__law_heard) (defScope s__law_heard) .none kV__law_heard dc__law_heard pm__law_heard an__law_heard cd__law_heard ct__law_heard), sl__law_heard⟩) (c__law_heard : PySem.W.codeIn K cd__law_heard "_law_heard" = true) (kp__law_heard : PySem.W.keepIn K (.ref a__law_heard) = true)
    (g__law_some_right : PySem.W.nsIn K mainGlobals "_law_some_right" = some (some (.ref a__law_some_right))) (l__law_some_right : K.lookup a__law_some_right = some ⟨oc__law_some_right, od__law_some_right, .func (PySem.W.fnOf "_law_some_right" "_law_some_right" (defArgs s__law_some_right) (defBody s__law_some_right) (defScope s__law_some_right) .none kV__law_some_right dc__law_some_right pm__law_some_right an__law_some_right cd__law_some_right ct__law_some_right), sl__law_some_right⟩) (c__law_some_right : PySem.W.codeIn K cd__law_some_right "_law_some_right" = true) (kp__law_some_right : PySem.W.keepIn K (.ref a__law_some_right) = true)
    (g__law_refused_right : PySem.W.nsIn K mainGlobals "_law_refused_right" = some (some (.ref a__law_refused_right))) (l__law_refused_right : K.lookup a__law_refused_right = some ⟨oc__law_refused_right, od__law_refused_right, .func (PySem.W.fnOf "_law_refused_right" "_law_refused_right" (defArgs s__law_refused_right) (defBody s__law_refused_right) (defScope s__law_refused_right) .none kV__law_refused_right dc__law_refused_right pm__law_refused_right an__law_refused_right (.ref k__law_refused_right) ct__law_refused_right), sl__law_refused_right⟩) (c__law_refused_right : PySem.W.codeIn K (.ref k__law_refused_right) "_law_refused_right" = true) (kp__law_refused_right : PySem.W.keepIn K (.ref a__law_refused_right) = true)
    (lk__law_refused_right : K.lookup k__law_refused_right = some ⟨ke__law_refused_right, kd__law_refused_right, .fields kv__law_refused_right, ks__law_refused_right⟩) (lp__law_refused_right : kv__law_refused_right[11]? = some (.ref P__law_refused_right)) (hd__law_refused_right : PySem.W.codeHdIn K k__law_refused_right P__law_refused_right = true) (np__law_refused_right : K.lookup P__law_refused_right = none) (rc__law_refused_right : ((PyProof.Rows.recsOf q).any fun e => e.name == "_law_refused_right") = true)
    (g_law : PySem.W.nsIn K mainGlobals "law" = some (some (.ref a_law))) (l_law : K.lookup a_law = some ⟨oc_law, od_law, .func (PySem.W.fnOf "law" "law" (defArgs s_law) (defBody s_law) (defScope s_law) .none kV_law dc_law pm_law an_law cd_law ct_law), sl_law⟩) (c_law : PySem.W.codeIn K cd_law "law" = true) (kp_law : PySem.W.keepIn K (.ref a_law) = true)
    (ndt : [P__law_two_right, P__law_refused_right].Nodup)
    (n_abs : PySem.W.nsIn K mainGlobals "abs" = some none)
    (n_all : PySem.W.nsIn K mainGlobals "all" = some none)
    (n_bool : PySem.W.nsIn K mainGlobals "bool" = some none)
    (n_gcd : PySem.W.nsIn K mainGlobals "gcd" = some (some (.builtin "math.gcd")))
    (n_int : PySem.W.nsIn K mainGlobals "int" = some none)
    (n_isinstance : PySem.W.nsIn K mainGlobals "isinstance" = some none)
    (n_len : PySem.W.nsIn K mainGlobals "len" = some none)
    (n_list : PySem.W.nsIn K mainGlobals "list" = some none)
    (n_range : PySem.W.nsIn K mainGlobals "range" = some none)
    (n_repr : PySem.W.nsIn K mainGlobals "repr" = some none)
    (n_tuple : PySem.W.nsIn K mainGlobals "tuple" = some none) :
    ∃ (fd : FuncData) (ts : List Tb), (∀ p ∈ ts, h.get? p.2.1 = some (tabO #[])) ∧ (∀ p ∈ ts, K.lookup p.2.1 = none) ∧ (∀ p ∈ ts, PySem.W.CodeHd h p.1 p.2.1) ∧ (∀ (s : Shared) (v : Value), BindsTo s fd ⟨[v], []⟩ [("_law_script", v)]) ∧
      ∀ base : Heap, K.In base → base.Ns mainGlobals mg → (∀ p ∈ ts, LamX.TabB base mg p.1 p.2.1) → FnZ P w K mg base 9 fa fd ["_law_script"] (spLawT ts) := by
  have e := hfa.symm.trans (PySem.W.mg_of X G g_law)
  cases e
  let AA : Ad := ⟨c_LaneError, c_BadNumber, c_Misfit, a_is_integer, a_is_within, a_is_row_of, a_is_number, a_raw, a_told, a_made, a_add, a_subtract, a_multiply, a_divide, a_is_smaller, a_smaller, a_greater, a_ratio, a_both_raw, a_plus, a_minus, a_times, a_over, a_distance, a_is_less, a_all_raw, a_least, a_greatest, a__law_bead, a__law_string, a__law_pick, a__law_low, a__law_told, a__law_number, a__law_handed, a__law_two_right, a__law_heard, a__law_some_right, a__law_refused_right, fa, k__law_two_right, P__law_two_right, k__law_refused_right, P__law_refused_right⟩
  let T : Txt K mg AA := { gc_LaneError := PySem.W.mg_of X G gc_LaneError, gc_BadNumber := PySem.W.mg_of X G gc_BadNumber, i_BadNumber := i_BadNumber, e_BadNumber := _, F_BadNumber := fun_mk (st := si_BadNumber) li_BadNumber ci_BadNumber ki_BadNumber, iC_BadNumber := iC_BadNumber, tI_BadNumber := tI_BadNumber, gc_Misfit := PySem.W.mg_of X G gc_Misfit, i_Misfit := i_Misfit, e_Misfit := _, F_Misfit := fun_mk (st := si_Misfit) li_Misfit ci_Misfit ki_Misfit, iC_Misfit := iC_Misfit, tI_Misfit := tI_Misfit, b_LaneError := b_LaneError, h_LaneError := h_LaneError, t_LaneError := t_LaneError, x_BadNumber := exB_ok x_BadNumber, x_Misfit := exB_ok x_Misfit, nd := nd, d_is_integer := _, F_is_integer := fun_mk (st := s_is_integer) l_is_integer c_is_integer kp_is_integer, g_is_integer := PySem.W.mg_of X G g_is_integer, d_is_within := _, F_is_within := fun_mk (st := s_is_within) l_is_within c_is_within kp_is_within, g_is_within := PySem.W.mg_of X G g_is_within, d_is_row_of := _, F_is_row_of := fun_mk (st := s_is_row_of) l_is_row_of c_is_row_of kp_is_row_of, g_is_row_of := PySem.W.mg_of X G g_is_row_of, d_is_number := _, F_is_number := fun_mk (st := s_is_number) l_is_number c_is_number kp_is_number, g_is_number := PySem.W.mg_of X G g_is_number, d_raw := _, F_raw := fun_mk (st := s_raw) l_raw c_raw kp_raw, g_raw := PySem.W.mg_of X G g_raw, d_told := _, F_told := fun_mk (st := s_told) l_told c_told kp_told, g_told := PySem.W.mg_of X G g_told, d_made := _, F_made := fun_mk (st := s_made) l_made c_made kp_made, g_made := PySem.W.mg_of X G g_made, d_add := _, F_add := fun_mk (st := s_add) l_add c_add kp_add, g_add := PySem.W.mg_of X G g_add, d_subtract := _, F_subtract := fun_mk (st := s_subtract) l_subtract c_subtract kp_subtract, g_subtract := PySem.W.mg_of X G g_subtract, d_multiply := _, F_multiply := fun_mk (st := s_multiply) l_multiply c_multiply kp_multiply, g_multiply := PySem.W.mg_of X G g_multiply, d_divide := _, F_divide := fun_mk (st := s_divide) l_divide c_divide kp_divide, g_divide := PySem.W.mg_of X G g_divide, d_is_smaller := _, F_is_smaller := fun_mk (st := s_is_smaller) l_is_smaller c_is_smaller kp_is_smaller, g_is_smaller := PySem.W.mg_of X G g_is_smaller, d_smaller := _, F_smaller := fun_mk (st := s_smaller) l_smaller c_smaller kp_smaller, g_smaller := PySem.W.mg_of X G g_smaller, d_greater := _, F_greater := fun_mk (st := s_greater) l_greater c_greater kp_greater, g_greater := PySem.W.mg_of X G g_greater, d_ratio := _, F_ratio := fun_mk (st := s_ratio) l_ratio c_ratio kp_ratio, g_ratio := PySem.W.mg_of X G g_ratio, d_both_raw := _, F_both_raw := fun_mk (st := s_both_raw) l_both_raw c_both_raw kp_both_raw, g_both_raw := PySem.W.mg_of X G g_both_raw, d_plus := _, F_plus := fun_mk (st := s_plus) l_plus c_plus kp_plus, g_plus := PySem.W.mg_of X G g_plus, d_minus := _, F_minus := fun_mk (st := s_minus) l_minus c_minus kp_minus, g_minus := PySem.W.mg_of X G g_minus, d_times := _, F_times := fun_mk (st := s_times) l_times c_times kp_times, g_times := PySem.W.mg_of X G g_times, d_over := _, F_over := fun_mk (st := s_over) l_over c_over kp_over, g_over := PySem.W.mg_of X G g_over, d_distance := _, F_distance := fun_mk (st := s_distance) l_distance c_distance kp_distance, g_distance := PySem.W.mg_of X G g_distance, d_is_less := _, F_is_less := fun_mk (st := s_is_less) l_is_less c_is_less kp_is_less, g_is_less := PySem.W.mg_of X G g_is_less, d_all_raw := _, F_all_raw := fun_mk (st := s_all_raw) l_all_raw c_all_raw kp_all_raw, g_all_raw := PySem.W.mg_of X G g_all_raw, d_least := _, F_least := fun_mk (st := s_least) l_least c_least kp_least, g_least := PySem.W.mg_of X G g_least, d_greatest := _, F_greatest := fun_mk (st := s_greatest) l_greatest c_greatest kp_greatest, g_greatest := PySem.W.mg_of X G g_greatest, d__law_bead := _, F__law_bead := fun_mk (st := s__law_bead) l__law_bead c__law_bead kp__law_bead, g__law_bead := PySem.W.mg_of X G g__law_bead, d__law_string := _, F__law_string := fun_mk (st := s__law_string) l__law_string c__law_string kp__law_string, g__law_string := PySem.W.mg_of X G g__law_string, d__law_pick := _, F__law_pick := fun_mk (st := s__law_pick) l__law_pick c__law_pick kp__law_pick, g__law_pick := PySem.W.mg_of X G g__law_pick, d__law_low := _, F__law_low := fun_mk (st := s__law_low) l__law_low c__law_low kp__law_low, g__law_low := PySem.W.mg_of X G g__law_low, d__law_told := _, F__law_told := fun_mk (st := s__law_told) l__law_told c__law_told kp__law_told, g__law_told := PySem.W.mg_of X G g__law_told, d__law_number := _, F__law_number := fun_mk (st := s__law_number) l__law_number c__law_number kp__law_number, g__law_number := PySem.W.mg_of X G g__law_number, d__law_handed := _, F__law_handed := fun_mk (st := s__law_handed) l__law_handed c__law_handed kp__law_handed, g__law_handed := PySem.W.mg_of X G g__law_handed, d__law_two_right := _, F__law_two_right := ⟨⟨_, _, _, _, _, _, _, _, rfl, l__law_two_right, c__law_two_right⟩, kp__law_two_right⟩, g__law_two_right := PySem.W.mg_of X G g__law_two_right, d__law_heard := _, F__law_heard := fun_mk (st := s__law_heard) l__law_heard c__law_heard kp__law_heard, g__law_heard := PySem.W.mg_of X G g__law_heard, d__law_some_right := _, F__law_some_right := fun_mk (st := s__law_some_right) l__law_some_right c__law_some_right kp__law_some_right, g__law_some_right := PySem.W.mg_of X G g__law_some_right, d__law_refused_right := _, F__law_refused_right := ⟨⟨_, _, _, _, _, _, _, _, rfl, l__law_refused_right, c__law_refused_right⟩, kp__law_refused_right⟩, g__law_refused_right := PySem.W.mg_of X G g__law_refused_right, d_law := _, F_law := fun_mk (st := s_law) l_law c_law kp_law, g_law := PySem.W.mg_of X G g_law, ndt := ndt, n_abs := PySem.W.mg_none_of X G n_abs, n_all := PySem.W.mg_none_of X G n_all, n_bool := PySem.W.mg_none_of X G n_bool, n_gcd := PySem.W.mg_of X G n_gcd, n_int := PySem.W.mg_none_of X G n_int, n_isinstance := PySem.W.mg_none_of X G n_isinstance, n_len := PySem.W.mg_none_of X G n_len, n_list := PySem.W.mg_none_of X G n_list, n_range := PySem.W.mg_none_of X G n_range, n_repr := PySem.W.mg_none_of X G n_repr, n_tuple := PySem.W.mg_none_of X G n_tuple }
  exact ⟨T.d_law, AA.ts, List.forall_mem_cons.mpr ⟨own "_law_two_right" _ rc__law_two_right (PySem.W.mg_of X G g__law_two_right) k__law_two_right P__law_two_right _ _ _ _ _ _ l__law_two_right rfl rfl lk__law_two_right lp__law_two_right, List.forall_mem_cons.mpr ⟨own "_law_refused_right" _ rc__law_refused_right (PySem.W.mg_of X G g__law_refused_right) k__law_refused_right P__law_refused_right _ _ _ _ _ _ l__law_refused_right rfl rfl lk__law_refused_right lp__law_refused_right, fun _ z => absurd z List.not_mem_nil⟩⟩, List.forall_mem_cons.mpr ⟨np__law_two_right, List.forall_mem_cons.mpr ⟨np__law_refused_right, fun _ z => absurd z List.not_mem_nil⟩⟩, List.forall_mem_cons.mpr ⟨PySem.W.codeHd_of_K X hd__law_two_right, List.forall_mem_cons.mpr ⟨PySem.W.codeHd_of_K X hd__law_refused_right, fun _ z => absurd z List.not_mem_nil⟩⟩, fun s v => .of_eq rfl, fun base _ _ TS => ok_law T TS⟩
end Z
open PySem PySem.W PyProof.Rows in
set_option maxRecDepth 100000 in
set_option maxHeartbeats 0 in
theorem PySem.Challenge.cw_lanecross_k03_numbers_reckoned_holds : PySem.Challenge.rw_lanecross_k03_numbers_reckoned.Holds := by
  w_on; o_law; k_head; (case hw => w_witness2)
  k_fill
  refine Z.walkZT (l := PySem.Challenge.rw_lanecross_k03_numbers_reckoned) (k := 9) (x := "_law_script") rfl rfl ⟨rfl, by decide, by decide⟩ (fun w h Y => PySem.W.km_in_of Y) ?F
  case F =>
    intro w mg fa h KX G hmg own
    refine' Z.all_mk KX G hmg own ?gc_LaneError ?gc_BadNumber ?iC_BadNumber ?li_BadNumber ?ci_BadNumber ?ki_BadNumber ?tI_BadNumber ?gc_Misfit ?iC_Misfit ?li_Misfit ?ci_Misfit ?ki_Misfit ?tI_Misfit ?b_LaneError ?h_LaneError ?t_LaneError ?x_BadNumber ?x_Misfit ?nd ?g_is_integer ?l_is_integer ?c_is_integer ?kp_is_integer ?g_is_within ?l_is_within ?c_is_within ?kp_is_within ?g_is_row_of ?l_is_row_of ?c_is_row_of ?kp_is_row_of ?g_is_number ?l_is_number ?c_is_number ?kp_is_number ?g_raw ?l_raw ?c_raw ?kp_raw ?g_told ?l_told ?c_told ?kp_told ?g_made ?l_made ?c_made ?kp_made ?g_add ?l_add ?c_add ?kp_add ?g_subtract ?l_subtract ?c_subtract ?kp_subtract ?g_multiply ?l_multiply ?c_multiply ?kp_multiply ?g_divide ?l_divide ?c_divide ?kp_divide ?g_is_smaller ?l_is_smaller ?c_is_smaller ?kp_is_smaller ?g_smaller ?l_smaller ?c_smaller ?kp_smaller ?g_greater ?l_greater ?c_greater ?kp_greater ?g_ratio ?l_ratio ?c_ratio ?kp_ratio ?g_both_raw ?l_both_raw ?c_both_raw ?kp_both_raw ?g_plus ?l_plus ?c_plus ?kp_plus ?g_minus ?l_minus ?c_minus ?kp_minus ?g_times ?l_times ?c_times ?kp_times ?g_over ?l_over ?c_over ?kp_over ?g_distance ?l_distance ?c_distance ?kp_distance ?g_is_less ?l_is_less ?c_is_less ?kp_is_less ?g_all_raw ?l_all_raw ?c_all_raw ?kp_all_raw ?g_least ?l_least ?c_least ?kp_least ?g_greatest ?l_greatest ?c_greatest ?kp_greatest ?g__law_bead ?l__law_bead ?c__law_bead ?kp__law_bead ?g__law_string ?l__law_string ?c__law_string ?kp__law_string ?g__law_pick ?l__law_pick ?c__law_pick ?kp__law_pick ?g__law_low ?l__law_low ?c__law_low ?kp__law_low ?g__law_told ?l__law_told ?c__law_told ?kp__law_told ?g__law_number ?l__law_number ?c__law_number ?kp__law_number ?g__law_handed ?l__law_handed ?c__law_handed ?kp__law_handed ?g__law_two_right ?l__law_two_right ?c__law_two_right ?kp__law_two_right ?lk__law_two_right ?lp__law_two_right ?hd__law_two_right ?np__law_two_right ?rc__law_two_right ?g__law_heard ?l__law_heard ?c__law_heard ?kp__law_heard ?g__law_some_right ?l__law_some_right ?c__law_some_right ?kp__law_some_right ?g__law_refused_right ?l__law_refused_right ?c__law_refused_right ?kp__law_refused_right ?lk__law_refused_right ?lp__law_refused_right ?hd__law_refused_right ?np__law_refused_right ?rc__law_refused_right ?g_law ?l_law ?c_law ?kp_law ?ndt ?n_abs ?n_all ?n_bool ?n_gcd ?n_int ?n_isinstance ?n_len ?n_list ?n_range ?n_repr ?n_tuple
    (case gc_LaneError => k_is)
    (case gc_BadNumber => k_is)
    (case iC_BadNumber => k_is)
    (case li_BadNumber => k_is)
    (case ci_BadNumber => k_is)
    (case ki_BadNumber => k_is)
    (case tI_BadNumber => k_is)
    (case gc_Misfit => k_is)
    (case iC_Misfit => k_is)
    (case li_Misfit => k_is)
    (case ci_Misfit => k_is)
    (case ki_Misfit => k_is)
    (case tI_Misfit => k_is)
    (case b_LaneError => k_is)
    (case h_LaneError => kernel_rfl)
    (case t_LaneError => k_is)
    (case x_BadNumber => kernel_rfl)
    (case x_Misfit => kernel_rfl)
    (case nd => decide)
    (case g_is_integer => k_is)
    (case l_is_integer => k_is)
    (case c_is_integer => k_is)
    (case kp_is_integer => k_is)
    (case g_is_within => k_is)
    (case l_is_within => k_is)
    (case c_is_within => k_is)
    (case kp_is_within => k_is)
    (case g_is_row_of => k_is)
    (case l_is_row_of => k_is)
    (case c_is_row_of => k_is)
    (case kp_is_row_of => k_is)
    (case g_is_number => k_is)
    (case l_is_number => k_is)
    (case c_is_number => k_is)
    (case kp_is_number => k_is)
    (case g_raw => k_is)
    (case l_raw => k_is)
    (case c_raw => k_is)
    (case kp_raw => k_is)
    (case g_told => k_is)
    (case l_told => k_is)
    (case c_told => k_is)
    (case kp_told => k_is)
    (case g_made => k_is)
    (case l_made => k_is)
    (case c_made => k_is)
    (case kp_made => k_is)
    (case g_add => k_is)
    (case l_add => k_is)
    (case c_add => k_is)
    (case kp_add => k_is)
    (case g_subtract => k_is)
    (case l_subtract => k_is)
    (case c_subtract => k_is)
    (case kp_subtract => k_is)
    (case g_multiply => k_is)
    (case l_multiply => k_is)
    (case c_multiply => k_is)
    (case kp_multiply => k_is)
    (case g_divide => k_is)
    (case l_divide => k_is)
    (case c_divide => k_is)
    (case kp_divide => k_is)
    (case g_is_smaller => k_is)
    (case l_is_smaller => k_is)
    (case c_is_smaller => k_is)
    (case kp_is_smaller => k_is)
    (case g_smaller => k_is)
    (case l_smaller => k_is)
    (case c_smaller => k_is)
    (case kp_smaller => k_is)
    (case g_greater => k_is)
    (case l_greater => k_is)
    (case c_greater => k_is)
    (case kp_greater => k_is)
    (case g_ratio => k_is)
    (case l_ratio => k_is)
    (case c_ratio => k_is)
    (case kp_ratio => k_is)
    (case g_both_raw => k_is)
    (case l_both_raw => k_is)
    (case c_both_raw => k_is)
    (case kp_both_raw => k_is)
    (case g_plus => k_is)
    (case l_plus => k_is)
    (case c_plus => k_is)
    (case kp_plus => k_is)
    (case g_minus => k_is)
    (case l_minus => k_is)
    (case c_minus => k_is)
    (case kp_minus => k_is)
    (case g_times => k_is)
    (case l_times => k_is)
    (case c_times => k_is)
    (case kp_times => k_is)
    (case g_over => k_is)
    (case l_over => k_is)
    (case c_over => k_is)
    (case kp_over => k_is)
    (case g_distance => k_is)
    (case l_distance => k_is)
    (case c_distance => k_is)
    (case kp_distance => k_is)
    (case g_is_less => k_is)
    (case l_is_less => k_is)
    (case c_is_less => k_is)
    (case kp_is_less => k_is)
    (case g_all_raw => k_is)
    (case l_all_raw => k_is)
    (case c_all_raw => k_is)
    (case kp_all_raw => k_is)
    (case g_least => k_is)
    (case l_least => k_is)
    (case c_least => k_is)
    (case kp_least => k_is)
    (case g_greatest => k_is)
    (case l_greatest => k_is)
    (case c_greatest => k_is)
    (case kp_greatest => k_is)
    (case g__law_bead => k_is)
    (case l__law_bead => k_is)
    (case c__law_bead => k_is)
    (case kp__law_bead => k_is)
    (case g__law_string => k_is)
    (case l__law_string => k_is)
    (case c__law_string => k_is)
    (case kp__law_string => k_is)
    (case g__law_pick => k_is)
    (case l__law_pick => k_is)
    (case c__law_pick => k_is)
    (case kp__law_pick => k_is)
    (case g__law_low => k_is)
    (case l__law_low => k_is)
    (case c__law_low => k_is)
    (case kp__law_low => k_is)
    (case g__law_told => k_is)
    (case l__law_told => k_is)
    (case c__law_told => k_is)
    (case kp__law_told => k_is)
    (case g__law_number => k_is)
    (case l__law_number => k_is)
    (case c__law_number => k_is)
    (case kp__law_number => k_is)
    (case g__law_handed => k_is)
    (case l__law_handed => k_is)
    (case c__law_handed => k_is)
    (case kp__law_handed => k_is)
    (case g__law_two_right => k_is)
    (case l__law_two_right => k_is)
    (case c__law_two_right => k_is)
    (case kp__law_two_right => k_is)
    (case lk__law_two_right => k_is)
    (case lp__law_two_right => rfl)
    (case hd__law_two_right => kernel_rfl)
    (case np__law_two_right => kernel_rfl)
    (case rc__law_two_right => kernel_rfl)
    (case g__law_heard => k_is)
    (case l__law_heard => k_is)
    (case c__law_heard => k_is)
    (case kp__law_heard => k_is)
    (case g__law_some_right => k_is)
    (case l__law_some_right => k_is)
    (case c__law_some_right => k_is)
    (case kp__law_some_right => k_is)
    (case g__law_refused_right => k_is)
    (case l__law_refused_right => k_is)
    (case c__law_refused_right => k_is)
    (case kp__law_refused_right => k_is)
    (case lk__law_refused_right => k_is)
    (case lp__law_refused_right => rfl)
    (case hd__law_refused_right => kernel_rfl)
    (case np__law_refused_right => kernel_rfl)
    (case rc__law_refused_right => kernel_rfl)
    (case g_law => k_is)
    (case l_law => k_is)
    (case c_law => k_is)
    (case kp_law => k_is)
    (case ndt => decide)
    (case n_abs => k_is)
    (case n_all => k_is)
    (case n_bool => k_is)
    (case n_gcd => k_is)
    (case n_int => k_is)
    (case n_isinstance => k_is)
    (case n_len => k_is)
    (case n_list => k_is)
    (case n_range => k_is)
    (case n_repr => k_is)
    (case n_tuple => k_is)


