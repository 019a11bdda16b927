import PyProof.Rows.All
import PySem.Challenge.RW_rowtypes_k16_runs_told
import HandS.ForMost
import HandS.TupAny
import HandS.Rev
import HandS.Zip
import HandS.NoneIn
import HandS.Flow
import HandS.Lambda
import HandS.EndTab
import HandS.More
import HandS.WordsDict
import HandS.Style
import HandS.Wide
import KE.GoesMore
import KE.GoesEnum
import HandS.Defaults
import HandS.HeadHook1
import HandS.HeadHook2
import HandS.HeadHook4
import HandS.HeadNt
import KE.SortKeyHeap
import KE.KSortKey
import KE.KNestM
import HandS.Head0
import HandS.Head1
import HandS.Head2
import PyProof.ReprRoads
import PyProof.CallFns
import HandS.IsInst
import HandS.RevRange
import HandS.Conv
import HandS.List
import HandS.Strs
import PyProof.NeKinds
import PyProof.ReprLen
set_option Elab.async false
set_option linter.all false
set_option maxRecDepth 100000
namespace TL
open PySem PySem.Spec PyProof.Rows L2

inductive T where
  | non | bl (b : Bool) | int (i : Int) | str (x : Str) | ref (a : Addr) | ty (n : String) | tup (xs : List T)
  /-- a list that is read alone, for good (the script, a list of the module's top) -/
  | fl (xs : List T)
  /-- a tuple that is known to be a plain object -/
  | ptup (xs : List T)

/-- such a list at a -/
def FrL (K : PySem.W.Frag) (H : Hp) (a : Addr) (xs : List V) : Prop := (∃ o, H a = some (.frz o (.lst xs))) ∨
  ∃ (o : Obj) (its : Array Value) (n : Nat), K.lookup a = some o ∧ o.cls = .type "list" ∧ o.dict = none ∧ o.data = .seq its n ∧ its.size ≤ sizeLine ∧ Vals xs its.toList
theorem FrL.seq {K H a xs} (h : FrL K H a xs) : SqL K H a xs := by
  rcases h with ⟨o, h⟩ | h
  · exact .inl (.inr ⟨o, h⟩)
  · exact .inr h

/-- a plain tuple at a -/
def PlT (H : Hp) (a : Addr) (xs : List V) : Prop := ∃ o, H a = some (.frz o (.tup xs)) ∧ o.dict = none
theorem PlT.seq {K H a xs} (h : PlT H a xs) : SqT K H a xs := let ⟨o, h, _⟩ := h; .inl (.inr ⟨o, h⟩)
mutual
def Rep (K : PySem.W.Frag) (H : Hp) : T → V → Prop
  | .non, v => v = .non
  | .bl b, v => v = .bl b
  | .int i, v => v = .int i
  | .str x, v => v = .str x
  | .ref a, v => v = .ref a
  | .ty n, v => v = .ty n
  | .tup xs, v => ∃ a vs, v = .ref a ∧ SqT K H a vs ∧ Reps K H xs vs
  | .fl xs, v => ∃ a vs, v = .ref a ∧ FrL K H a vs ∧ Reps K H xs vs
  | .ptup xs, v => ∃ a vs, v = .ref a ∧ PlT H a vs ∧ Reps K H xs vs
def Reps (K : PySem.W.Frag) (H : Hp) : List T → List V → Prop
  | [], vs => vs = []
  | t :: ts, vs => ∃ v r, vs = v :: r ∧ Rep K H t v ∧ Reps K H ts r
end

/-- tuples that can be read stay -/
structure Stay (K : PySem.W.Frag) (H H' : Hp) : Prop where
  t : ∀ a xs, SqT K H a xs → SqT K H' a xs
  f : ∀ a xs, FrL K H a xs → FrL K H' a xs
  x : ∀ a φ, H a = some (.ext φ) → H' a = some (.ext φ)
  p : ∀ a o xs, H a = some (.frz o (.tup xs)) → H' a = some (.frz o (.tup xs))
theorem Stay.refl {K H} : Stay K H H := ⟨fun _ _ h => h, fun _ _ h => h, fun _ _ h => h, fun _ _ _ h => h⟩
theorem Stay.trans {K H H1 H2} (a : Stay K H H1) (b : Stay K H1 H2) : Stay K H H2 := ⟨fun _ _ h => b.t _ _ (a.t _ _ h), fun _ _ h => b.f _ _ (a.f _ _ h), fun _ _ h => b.x _ _ (a.x _ _ h), fun _ _ _ h => b.p _ _ _ (a.p _ _ _ h)⟩

section
variable {K : PySem.W.Frag} {H H' : Hp}
mutual
theorem Rep.stay (S : Stay K H H') : ∀ {t : T} {v : V}, Rep K H t v → Rep K H' t v
  | .non, _, h => h
  | .bl _, _, h => h
  | .int _, _, h => h
  | .str _, _, h => h
  | .ref _, _, h => h
  | .ty _, _, h => h
  | .tup _, _, h => by
    simp only [Rep] at h ⊢
    obtain ⟨a, vs, e, q, r⟩ := h
    exact ⟨a, vs, e, S.t _ _ q, Reps.stay S r⟩
  | .fl _, _, h => by
    simp only [Rep] at h ⊢
    obtain ⟨a, vs, e, q, r⟩ := h
    exact ⟨a, vs, e, S.f _ _ q, Reps.stay S r⟩
  | .ptup _, _, h => by
    simp only [Rep] at h ⊢
    obtain ⟨a, vs, e, ⟨o, q, n⟩, r⟩ := h
    exact ⟨a, vs, e, ⟨o, S.p _ _ _ q, n⟩, Reps.stay S r⟩
theorem Reps.stay (S : Stay K H H') : ∀ {ts : List T} {vs : List V}, Reps K H ts vs → Reps K H' ts vs
  | [], _, h => by simpa only [Reps] using h
  | _ :: _, _, h => by
    simp only [Reps] at h ⊢
    obtain ⟨v, r, e, q, s⟩ := h
    exact ⟨v, r, e, Rep.stay S q, Reps.stay S s⟩
end
theorem Reps.length : ∀ {ts : List T} {vs : List V}, Reps K H ts vs → vs.length = ts.length
  | [], _, h => by simp only [Reps] at h; simp [h]
  | _ :: _, _, h => by
    simp only [Reps] at h
    obtain ⟨v, r, e, q, s⟩ := h
    subst e
    simp [Reps.length s]
theorem Reps.get : ∀ {ts : List T} {vs : List V} {i : Nat} {t : T}, Reps K H ts vs → ts[i]? = some t → ∃ v, vs[i]? = some v ∧ Rep K H t v
  | [], _, _, _, _, e => by simp at e
  | _ :: _, _, 0, _, h, e => by
    simp only [Reps] at h
    obtain ⟨v, r, e1, q, s⟩ := h
    subst e1
    simp at e; subst e
    exact ⟨v, rfl, q⟩
  | _ :: _, _, i + 1, _, h, e => by
    simp only [Reps] at h
    obtain ⟨v, r, e1, q, s⟩ := h
    subst e1
    exact Reps.get (i := i) s (by simpa using e)
theorem Reps.append : ∀ {ts us : List T} {vs ws : List V}, Reps K H ts vs → Reps K H us ws → Reps K H (ts ++ us) (vs ++ ws)
  | [], _, _, _, h, g => by simp only [Reps] at h; subst h; exact g
  | _ :: _, _, _, _, h, g => by
    simp only [Reps] at h
    obtain ⟨v, r, e1, q, s⟩ := h
    subst e1
    simp only [List.cons_append, Reps]
    exact ⟨v, _, rfl, q, Reps.append s g⟩
theorem Reps.cons {t : T} {v : V} {ts : List T} {vs : List V} (h : Rep K H t v) (g : Reps K H ts vs) : Reps K H (t :: ts) (v :: vs) := by
  simp only [Reps]; exact ⟨v, vs, rfl, h, g⟩
theorem Reps.nil : Reps K H [] [] := by simp only [Reps]
theorem Reps.one {t : T} {v : V} (h : Rep K H t v) : Reps K H [t] [v] := .cons h .nil
theorem Reps.of_one {t : T} {vs : List V} (h : Reps K H [t] vs) : ∃ v, vs = [v] ∧ Rep K H t v := by
  simp only [Reps] at h
  obtain ⟨v, r, e, q, rfl⟩ := h
  exact ⟨v, e, q⟩
theorem Reps.of_nil {vs : List V} (h : Reps K H [] vs) : vs = [] := by simpa only [Reps] using h
theorem Reps.of_cons {t : T} {ts : List T} {vs : List V} (h : Reps K H (t :: ts) vs) : ∃ v r, vs = v :: r ∧ Rep K H t v ∧ Reps K H ts r := by simpa only [Reps] using h
theorem Reps.of_two {t u : T} {vs : List V} (h : Reps K H [t, u] vs) : ∃ v w, vs = [v, w] ∧ Rep K H t v ∧ Rep K H u w := by
  obtain ⟨v, r, e, q, s⟩ := h.of_cons
  obtain ⟨w, rfl, q2⟩ := s.of_one
  exact ⟨v, w, e, q, q2⟩
theorem Reps.take : ∀ {ts : List T} {vs : List V} (n : Nat), Reps K H ts vs → Reps K H (ts.take n) (vs.take n)
  | _, _, 0, _ => by simp only [List.take_zero]; exact .nil
  | [], _, _ + 1, h => by simp only [Reps] at h; subst h; simp only [List.take_nil]; exact .nil
  | _ :: _, _, n + 1, h => by
    obtain ⟨v, r, rfl, q, s⟩ := h.of_cons
    simp only [List.take_succ_cons]
    exact .cons q (Reps.take n s)
theorem Reps.drop : ∀ {ts : List T} {vs : List V} (n : Nat), Reps K H ts vs → Reps K H (ts.drop n) (vs.drop n)
  | _, _, 0, h => h
  | [], _, _ + 1, h => by simp only [Reps] at h; subst h; simp only [List.drop_nil]; exact .nil
  | _ :: _, _, n + 1, h => by
    obtain ⟨v, r, rfl, q, s⟩ := h.of_cons
    simp only [List.drop_succ_cons]
    exact Reps.drop n s
theorem Reps.reverse {ts : List T} {vs : List V} (h : Reps K H ts vs) : Reps K H ts.reverse vs.reverse := by
  induction ts generalizing vs with
  | nil => simp only [Reps] at h; subst h; exact .nil
  | cons t ts ih =>
    obtain ⟨v, r, rfl, q, s⟩ := h.of_cons
    rw [List.reverse_cons, List.reverse_cons]
    exact (ih s).append (.one q)
theorem Reps.set {t : T} {v : V} (q : Rep K H t v) : ∀ {ts : List T} {vs : List V} (i : Nat), Reps K H ts vs → Reps K H (ts.set i t) (vs.set i v)
  | [], _, _, h => by simp only [Reps] at h; subst h; exact .nil
  | _ :: _, _, 0, h => by
    obtain ⟨v', r, rfl, _, s⟩ := h.of_cons
    exact .cons q s
  | _ :: _, _, i + 1, h => by
    obtain ⟨v', r, rfl, q', s⟩ := h.of_cons
    exact .cons q' (Reps.set q i s)
end

inductive GO where
  | lst (xs : List T)
  | dK (kvs : List (Key × T))
  /-- a dict while it is walked -/
  | dKr (kvs : List (Key × T)) (r : HO)
  | dT (kvs : List (List Key × T))
  | ins (C : Addr) (fs : List (Str × T))
  /-- a def's table of code objects, which all bear the name q -/
  | tab (q : Str)
abbrev GH := Addr → Option GO
def gupd (G : GH) (a : Addr) (o : GO) : GH := fun b => if b = a then some o else G b
theorem gupd_same {G : GH} {a : Addr} {o : GO} : gupd G a o a = some o := by unfold gupd; rw [if_pos rfl]
theorem gupd_ne {G : GH} {a b : Addr} {o : GO} (h : b ≠ a) : gupd G a o b = G b := by unfold gupd; rw [if_neg h]
theorem gupd_gupd {G : GH} {a : Addr} {o u : GO} : gupd (gupd G a o) a u = gupd G a u := by
  funext b; unfold gupd; split <;> rfl
theorem gupd_comm {G : GH} {a b : Addr} {o u : GO} (h : a ≠ b) : gupd (gupd G a o) b u = gupd (gupd G b u) a o := by
  funext c; unfold gupd
  by_cases e : c = a
  · subst e; simp [h]
  · simp [e]
theorem gupd_self {G : GH} {a : Addr} {o : GO} (h : G a = some o) : gupd G a o = G := by
  funext c; unfold gupd
  by_cases e : c = a
  · subst e; simp [h]
  · simp [e]

def KVR {κ : Type} (K : PySem.W.Frag) (H : Hp) : List (κ × T) → List (κ × V) → Prop := Paired fun (p : κ × T) (q : κ × V) => p.1 = q.1 ∧ Rep K H p.2 q.2
theorem KVR.stay {κ : Type} {K : PySem.W.Frag} {H H' : Hp} (S : Stay K H H') {ks : List (κ × T)} {ws : List (κ × V)} (h : KVR K H ks ws) : KVR K H' ks ws :=
  Paired.mapP h fun _ _ q => ⟨q.1, q.2.stay S⟩

def RO (K : PySem.W.Frag) (H : Hp) (a : Addr) : GO → Prop
  | .lst xs => ∃ vs, H a = some (.lst vs) ∧ Reps K H xs vs
  | .dK kvs => ∃ ws, H a = some (.dK ws) ∧ KVR K H kvs ws
  | .dKr kvs r => H a = some r ∧ ∃ ws, (r = .dK ws ∨ ∃ o, r = .frz o (.dK ws)) ∧ KVR K H kvs ws
  | .dT kvs => ∃ ws, H a = some (.dT ws) ∧ KVR K H kvs ws
  | .ins C fs => ∃ dx ws, H a = some (.ins C dx ws) ∧ H dx = some (.own a) ∧ KVR K H fs ws
  | .tab q => LamX.TabS H a q
def RG (K : PySem.W.Frag) (H : Hp) (G : GH) : Prop := ∀ a o, G a = some o → RO K H a o
/-- fewer things are told -/
def Sub (G G' : GH) : Prop := ∀ a o, G a = some o → G' a = some o
theorem RG.sub {K H G G'} (h : RG K H G') (s : Sub G G') : RG K H G := fun a o e => h a o (s a o e)
theorem Sub.refl {G} : Sub G G := fun _ _ h => h
theorem Sub.trans {G G1 G2} (a : Sub G G1) (b : Sub G1 G2) : Sub G G2 := fun _ _ h => b _ _ (a _ _ h)
theorem Sub.gupd {G : GH} {p : Addr} {o : GO} (h : G p = none) : Sub G (gupd G p o) := fun a u e => by
  rw [gupd_ne (fun z => by subst z; rw [h] at e; cases e)]; exact e
theorem Sub.put {G G' : GH} {p : Addr} {o : GO} (s : Sub G G') : Sub (TL.gupd G p o) (TL.gupd G' p o) := fun a u e => by
  by_cases z : a = p
  · subst z; rw [gupd_same] at e ⊢; exact e
  · rw [gupd_ne z] at e ⊢; exact s a u e
/-- a tracked address is held -/
theorem RG.free {K H G} (h : RG K H G) {p : Addr} (e : H p = none) : G p = none := by
  cases q : G p with
  | none => rfl
  | some o =>
    exfalso
    have r := h p o q
    cases o with
    | lst xs => obtain ⟨vs, e', _⟩ := r; rw [e] at e'; cases e'
    | dK xs => obtain ⟨vs, e', _⟩ := r; rw [e] at e'; cases e'
    | dKr xs u => rw [r.1] at e; cases e
    | dT xs => obtain ⟨vs, e', _⟩ := r; rw [e] at e'; cases e'
    | ins C fs => obtain ⟨dx, vs, e', _⟩ := r; rw [e] at e'; cases e'
    | tab q => obtain ⟨ps, e', _⟩ := r; rw [e] at e'; cases e'

/-- what may stand where something is written -/
def Wr : Option HO → Prop
  | none => True
  | some (.lst _) => True
  | some (.dK _) => True
  | some (.dT _) => True
  | some (.ins _ _ _) => True
  | some (.frz _ (.dK _)) => True
  | _ => False
theorem stay_upd {K H a o} (w : Wr (H a)) : Stay K H (upd H a o) := by
  refine ⟨fun b xs h => ?_, fun b xs h => ?_, fun b φ h => by rw [upd_ne (fun z => by subst z; rw [h] at w; exact w)]; exact h, fun b o xs h => by rw [upd_ne (fun z => by subst z; rw [h] at w; exact w)]; exact h⟩
  · rcases h with (h | ⟨ob, h⟩) | h
    · by_cases e : b = a
      · subst e; rw [h] at w; exact w.elim
      · exact .inl (.inl (by rw [upd_ne e]; exact h))
    · by_cases e : b = a
      · subst e; rw [h] at w; exact w.elim
      · exact .inl (.inr ⟨ob, by rw [upd_ne e]; exact h⟩)
    · exact .inr h
  · rcases h with ⟨ob, h⟩ | h
    · by_cases e : b = a
      · subst e; rw [h] at w; exact w.elim
      · exact .inl ⟨ob, by rw [upd_ne e]; exact h⟩
    · exact .inr h
theorem RO.upd {K H a b o g} (w : Wr (H a)) (e : b ≠ a) (h : RO K H b g) : RO K (L2.upd H a o) b g := by
  have S : Stay K H (L2.upd H a o) := stay_upd w
  cases g with
  | lst xs => obtain ⟨vs, q, r⟩ := h; exact ⟨vs, by rw [upd_ne e]; exact q, r.stay S⟩
  | dK xs => obtain ⟨vs, q, r⟩ := h; exact ⟨vs, by rw [upd_ne e]; exact q, r.stay S⟩
  | dKr xs u =>
    obtain ⟨q, vs, qe, r⟩ := h
    exact ⟨by rw [upd_ne e]; exact q, vs, qe, r.stay S⟩
  | dT xs => obtain ⟨vs, q, r⟩ := h; exact ⟨vs, by rw [upd_ne e]; exact q, r.stay S⟩
  | ins C fs =>
    obtain ⟨dx, ws, q, q2, r⟩ := h
    refine ⟨dx, ws, by rw [upd_ne e]; exact q, ?_, r.stay S⟩
    rw [upd_ne (fun z => by subst z; rw [q2] at w; exact w)]; exact q2
  | tab q =>
    obtain ⟨ps, h1, h2, h3⟩ := h
    refine ⟨ps, by rw [upd_ne e]; exact h1, h2, fun pos cv hc => ?_⟩
    obtain ⟨c, e1, e2⟩ := h3 pos cv hc
    exact ⟨c, e1, S.x _ _ e2⟩
theorem RG.put {K H G a o g} (R : RG K H G) (w : Wr (H a)) (h : RO K (L2.upd H a o) a g) : RG K (L2.upd H a o) (gupd G a g) := fun b u e => by
  by_cases z : b = a
  · subst z; rw [gupd_same] at e; cases e; exact h
  · rw [gupd_ne z] at e; exact RO.upd w z (R b u e)
/-- something new that is not told -/
theorem RG.new {K H G a o} (R : RG K H G) (n : H a = none) : RG K (L2.upd H a o) G := fun b u e => by
  have z : b ≠ a := fun z => by subst z; rw [R.free n] at e; cases e
  exact RO.upd (by rw [n]; exact True.intro) z (R b u e)
theorem wr_none {H : Hp} {a : Addr} (n : H a = none) : Wr (H a) := by rw [n]; exact True.intro
theorem wr_lst {H : Hp} {a : Addr} {xs} (n : H a = some (.lst xs)) : Wr (H a) := by rw [n]; exact True.intro
theorem wr_dK {H : Hp} {a : Addr} {xs} (n : H a = some (.dK xs)) : Wr (H a) := by rw [n]; exact True.intro
theorem RG.lst {K H G a xs} (R : RG K H G) (e : G a = some (.lst xs)) : ∃ vs, H a = some (.lst vs) ∧ Reps K H xs vs := R a _ e
theorem RG.dK {K H G a xs} (R : RG K H G) (e : G a = some (.dK xs)) : ∃ vs, H a = some (.dK vs) ∧ KVR K H xs vs := R a _ e
/-- a dict that can be read -/
def gd (G : GH) (p : Addr) (kvs : List (Key × T)) : Prop := G p = some (.dK kvs) ∨ ∃ r, G p = some (.dKr kvs r)
theorem gd_dK {G : GH} {p : Addr} {ks kvs : List (Key × T)} (h : G p = some (.dK ks)) : gd G p kvs ↔ ks = kvs := by
  unfold gd; rw [h]; constructor
  · rintro (h | ⟨r, h⟩)
    · cases h; rfl
    · cases h
  · rintro rfl; exact .inl rfl
theorem gd_dKr {G : GH} {p : Addr} {ks kvs : List (Key × T)} {r} (h : G p = some (.dKr ks r)) : gd G p kvs ↔ ks = kvs := by
  unfold gd; rw [h]; constructor
  · rintro (h | ⟨r, h⟩)
    · cases h
    · cases h; rfl
  · rintro rfl; exact .inr ⟨r, rfl⟩
theorem RG.gd {K H G p kvs} (R : RG K H G) (e : TL.gd G p kvs) : ∃ ws, Rd H p (.dK ws) ∧ KVR K H kvs ws := by
  rcases e with e | ⟨r, e⟩
  · obtain ⟨ws, h, q⟩ := R.dK e; exact ⟨ws, .inl h, q⟩
  · obtain ⟨h, ws, h2, q⟩ := R p _ e
    rcases h2 with rfl | ⟨o, rfl⟩
    · exact ⟨ws, .inl h, q⟩
    · exact ⟨ws, .inr ⟨o, h⟩, q⟩
/-- a new list -/
theorem RG.newL {K H G a xs vs} (R : RG K H G) (n : H a = none) (r : Reps K H xs vs) : RG K (L2.upd H a (.lst vs)) (gupd G a (.lst xs)) :=
  R.put (wr_none n) ⟨vs, upd_same, r.stay (stay_upd (wr_none n))⟩
/-- a list stored anew -/
theorem RG.setL {K H G a xs vs vs0} (R : RG K H G) (n : H a = some (.lst vs0)) (r : Reps K H xs vs) : RG K (L2.upd H a (.lst vs)) (gupd G a (.lst xs)) :=
  R.put (wr_lst n) ⟨vs, upd_same, r.stay (stay_upd (wr_lst n))⟩
/-- a new tuple -/
theorem rep_tup {K H a xs vs} (n : H a = none) (r : Reps K H xs vs) : Rep K (upd H a (.tup vs)) (.tup xs) (.ref a) := by
  simp only [Rep]
  exact ⟨a, vs, rfl, .inl (.inl upd_same), r.stay (stay_upd (wr_none n))⟩
end TL

namespace TL
open PySem PySem.Spec PyProof.Rows L2
abbrev St := L2.St

abbrev TSt := List (Option T)
abbrev TK := T → GH → Prop
abbrev TTE := TSt → GH → TK → Prop
abbrev TTT := TSt → GH → (Bool → GH → Prop) → Prop
abbrev TTA := TSt → GH → (List T → GH → Prop) → Prop
abbrev TR2 := T → T → GH → TK → Prop
abbrev TR1 := T → GH → TK → Prop
abbrev TRN := List T → GH → TK → Prop
structure TEnds where
  nx : TSt → GH → Prop
  rt : TK
  bk : TSt → GH → Prop := fun _ _ => False
  ct : TSt → GH → Prop := fun _ _ => False
abbrev TTS := TEnds → TSt → GH → Prop

def RS (K : PySem.W.Frag) (H : Hp) (st : TSt) (σ : St) : Prop := st.length = σ.length ∧ ∀ (i : Nat) (t : T), st[i]? = some (some t) → ∃ v, σ[i]? = some (some v) ∧ Rep K H t v
theorem RS.stay {K H H' st σ} (S : Stay K H H') (h : RS K H st σ) : RS K H' st σ := ⟨h.1, fun i t e => let ⟨v, a, b⟩ := h.2 i t e; ⟨v, a, b.stay S⟩⟩
theorem RS.set {K H st σ i t v} (h : RS K H st σ) (r : Rep K H t v) : RS K H (st.set i (some t)) (σ.set i (some v)) := by
  refine ⟨by simp [h.1], fun j u e => ?_⟩
  by_cases z : i = j
  · subst z
    rw [List.getElem?_set] at e ⊢
    simp only [if_true] at e ⊢
    split at e
    · rename_i hl
      cases e
      rw [if_pos (by rw [← h.1]; exact hl)]
      exact ⟨v, rfl, r⟩
    · cases e
  · rw [List.getElem?_set_ne z] at e ⊢
    exact h.2 j u e
/-- fewer slots are told -/
def Less (st0 st : TSt) : Prop := st0.length = st.length ∧ ∀ (i : Nat) (t : T), st0[i]? = some (some t) → st[i]? = some (some t)
theorem Less.refl {st} : Less st st := ⟨rfl, fun _ _ h => h⟩
theorem RS.less {K H st0 st σ} (h : RS K H st σ) (l : Less st0 st) : RS K H st0 σ := ⟨l.1.trans h.1, fun i t e => h.2 i t (l.2 i t e)⟩

/-- what follows an expression, over trees and over the heap -/
def Kont (K : PySem.W.Frag) (H : Hp) (R : TK) (Q : VK) : Prop := ∀ t v G' H', Rep K H' t v → RG K H' G' → Stay K H H' → R t G' → Q v H'
theorem Kont.stay {K H H' R Q} (S : Stay K H H') (k : Kont K H R Q) : Kont K H' R Q := fun t v G1 H1 a b c d => k t v G1 H1 a b (S.trans c) d
def KontB (K : PySem.W.Frag) (H : Hp) (R : Bool → GH → Prop) (Q : Bool → Hp → Prop) : Prop := ∀ b G' H', RG K H' G' → Stay K H H' → R b G' → Q b H'
theorem KontB.stay {K H H' R Q} (S : Stay K H H') (k : KontB K H R Q) : KontB K H' R Q := fun t G1 H1 b c d => k t G1 H1 b (S.trans c) d
def KontA (K : PySem.W.Frag) (H : Hp) (R : List T → GH → Prop) (Q : List V → Hp → Prop) : Prop := ∀ t v G' H', Reps K H' t v → RG K H' G' → Stay K H H' → R t G' → Q v H'
theorem KontA.stay {K H H' R Q} (S : Stay K H H') (k : KontA K H R Q) : KontA K H' R Q := fun t v G1 H1 a b c d => k t v G1 H1 a b (S.trans c) d
def KontS (K : PySem.W.Frag) (H : Hp) (R : TSt → GH → Prop) (Q : St → Hp → Prop) : Prop := ∀ st σ G' H', RS K H' st σ → RG K H' G' → Stay K H H' → R st G' → Q σ H'
theorem KontS.stay {K H H' R Q} (S : Stay K H H') (k : KontS K H R Q) : KontS K H' R Q := fun t v G1 H1 a b c d => k t v G1 H1 a b (S.trans c) d
structure KontD (K : PySem.W.Frag) (H : Hp) (R : TEnds) (Q : Ends) : Prop where
  nx : KontS K H R.nx Q.nx
  rt : Kont K H R.rt Q.rt
  bk : KontS K H R.bk Q.bk
  ct : KontS K H R.ct Q.ct
theorem KontD.stay {K H H' R Q} (S : Stay K H H') (k : KontD K H R Q) : KontD K H' R Q := ⟨k.nx.stay S, k.rt.stay S, k.bk.stay S, k.ct.stay S⟩

def LE (K : PySem.W.Frag) (τ : TTE) : TE := fun σ H Q => ∃ st G R, RS K H st σ ∧ RG K H G ∧ τ st G R ∧ Kont K H R Q
def LT (K : PySem.W.Frag) (τ : TTT) : TT := fun σ H Q => ∃ st G R, RS K H st σ ∧ RG K H G ∧ τ st G R ∧ KontB K H R Q
def LA (K : PySem.W.Frag) (τ : TTA) : TA := fun σ H Q => ∃ st G R, RS K H st σ ∧ RG K H G ∧ τ st G R ∧ KontA K H R Q
def LS (K : PySem.W.Frag) (τ : TTS) : TS := fun D σ H => ∃ st G R, RS K H st σ ∧ RG K H G ∧ τ R st G ∧ KontD K H R D

section
variable {X : Cx} {e a b c : Expr} {pos : Pos}
theorem _root_.L2.PE.imp {t t' : TE} (h : PE X e t) (m : ∀ σ H Q, t' σ H Q → t σ H Q) : PE X e t' := ⟨fun pins s σ H Q I q => h.run pins s σ H Q I (m _ _ _ q)⟩
theorem _root_.L2.PT.imp {t t' : TT} (h : PT X e t) (m : ∀ σ H Q, t' σ H Q → t σ H Q) : PT X e t' := ⟨fun pins s σ H Q I q => h.run pins s σ H Q I (m _ _ _ q)⟩
theorem _root_.L2.PW.imp {t t' : TT} (h : PW X e t) (m : ∀ σ H Q, t' σ H Q → t σ H Q) : PW X e t' := ⟨fun w pins s σ H Q I q => h.run w pins s σ H Q I (m _ _ _ q)⟩
theorem _root_.L2.PA.imp {es : List Expr} {t t' : TA} (h : PA X es t) (m : ∀ σ H Q, t' σ H Q → t σ H Q) : PA X es t' := ⟨fun p pins s σ H Q I q => h.run p pins s σ H Q I (m _ _ _ q)⟩
theorem _root_.L2.PS.imp {st : Stmt} {t t' : TS} (h : PS X st t) (m : ∀ D σ H, t' D σ H → t D σ H) : PS X st t' := ⟨fun pins s σ H D I q => h.run pins s σ H D I (m _ _ _ q)⟩
theorem _root_.L2.PSs.imp {st : List Stmt} {t t' : TS} (h : PSs X st t) (m : ∀ D σ H, t' D σ H → t D σ H) : PSs X st t' := ⟨fun pins s σ H D I q => h.run pins s σ H D I (m _ _ _ q)⟩
theorem _root_.L2.PG.imp {t t' : TG} (h : PG X e t) (m : ∀ v σ H Q, t' v σ H Q → t v σ H Q) : PG X e t' := ⟨fun pins s σ H v u Q I r q => h.run pins s σ H v u Q I r (m _ _ _ _ q)⟩
theorem _root_.L2.PGs.imp {es : List Expr} {t t' : TGs} (h : PGs X es t) (m : ∀ v σ H Q, t' v σ H Q → t v σ H Q) : PGs X es t' := ⟨fun pins s σ H v u Q I r q => h.run pins s σ H v u Q I r (m _ _ _ _ q)⟩
theorem _root_.L2.PI.imp {tg : Expr} {t t' : TI} (h : PI X tg e t) (m : ∀ σ H Q, t' σ H Q → t σ H Q) : PI X tg e t' := ⟨fun pins s σ H Q I q => h.run pins s σ H Q I (m _ _ _ q)⟩
theorem _root_.L2.PC.imp {op : CmpOp} {t t' : TE} (h : PC X op a b t) (m : ∀ σ H Q, t' σ H Q → t σ H Q) : PC X op a b t' := ⟨fun pins s σ H Q I q => h.run pins s σ H Q I (m _ _ _ q)⟩

def tvar (i : Nat) : TTE := fun st G R => ∃ t, st[i]? = some (some t) ∧ R t G
def tcon (t : T) : TTE := fun _ G R => R t G
theorem LE_var {K i σ H Q} (h : LE K (tvar i) σ H Q) : L2.tVar i σ H Q := by
  obtain ⟨st, G, R, rs, rg, ⟨t, e, q⟩, k⟩ := h
  obtain ⟨v, e2, r⟩ := rs.2 i t e
  exact ⟨v, e2, k t v G H r rg .refl q⟩
theorem LE_con {K t v σ H Q} (hr : ∀ H, Rep K H t v) (h : LE K (tcon t) σ H Q) : L2.tC v σ H Q := by
  obtain ⟨st, G, R, rs, rg, q, k⟩ := h
  exact k t v G H (hr H) rg .refl q
theorem w_var (i : Nat) {x : Str} (h : PE X (.Name x pos) (L2.tVar i)) : PE X (.Name x pos) (LE X.K (tvar i)) := h.imp fun _ _ _ => LE_var
theorem w_int {i j} : PE X (.Constant (.int i) j pos) (LE X.K (tcon (.int i))) := pe_int.imp fun _ _ _ => LE_con fun _ => rfl
theorem w_bl {i j} : PE X (.Constant (.bool i) j pos) (LE X.K (tcon (.bl i))) := pe_bl.imp fun _ _ _ => LE_con fun _ => rfl
theorem w_non {j} : PE X (.Constant .none j pos) (LE X.K (tcon .non)) := pe_non.imp fun _ _ _ => LE_con fun _ => rfl
theorem w_str {x j} : PE X (.Constant (.str x) j pos) (LE X.K (tcon (.str x))) := pe_str.imp fun _ _ _ => LE_con fun _ => rfl

def Up2 (K : PySem.W.Frag) (r : TR2) (r' : R2) : Prop := ∀ x y vx vy G H R Q, Rep K H x vx → Rep K H y vy → RG K H G → r x y G R → Kont K H R Q → r' vx vy H Q
def Up1 (K : PySem.W.Frag) (r : TR1) (r' : V → Hp → VK → Prop) : Prop := ∀ x vx G H R Q, Rep K H x vx → RG K H G → r x G R → Kont K H R Q → r' vx H Q
def UpN (K : PySem.W.Frag) (r : TRN) (r' : List V → Hp → VK → Prop) : Prop := ∀ x vx G H R Q, Reps K H x vx → RG K H G → r x G R → Kont K H R Q → r' vx H Q
def top (r : TR2) (ta tb : TTE) : TTE := fun st G R => ta st G fun x G1 => tb st G1 fun y G2 => r x y G2 R
theorem LE_op {K r r' ta tb σ H Q} (u : Up2 K r r') (h : LE K (top r ta tb) σ H Q) : tOp r' (LE K ta) (LE K tb) σ H Q := by
  obtain ⟨st, G, R, rs, rg, q, k⟩ := h
  refine ⟨st, G, _, rs, rg, q, fun x vx G1 H1 rx rg1 s1 q1 => ?_⟩
  refine ⟨st, G1, _, rs.stay s1, rg1, q1, fun y vy G2 H2 ry rg2 s2 q2 => ?_⟩
  exact u x y vx vy G2 H2 R Q (rx.stay s2) ry rg2 q2 (k.stay (s1.trans s2))
theorem w_op {op : Operator} {r : TR2} {r' : R2} {ta tb : TTE} (o : OpR X (binaryOp op) r') (u : Up2 X.K r r') (ha : PE X a (LE X.K ta)) (hb : PE X b (LE X.K tb)) : PE X (.BinOp a op b pos) (LE X.K (top r ta tb)) :=
  (pe_op o ha hb).imp fun _ _ _ => LE_op u
theorem w_cmp {op : CmpOp} {r : TR2} {r' : R2} {ta tb : TTE} (o : OpR X (compareOp op) r') (u : Up2 X.K r r') (ha : PE X a (LE X.K ta)) (hb : PE X b (LE X.K tb)) (h1 : behindInMarks op b = false) : PE X (.Compare a [op] [b] pos) (LE X.K (top r ta tb)) :=
  (pe_cmpR o ha hb h1).imp fun _ _ _ => LE_op u
theorem w_ix {r : TR2} {r' : R2} {ta tb : TTE} (o : IxR X r') (u : Up2 X.K r r') (ha : PE X a (LE X.K ta)) (hb : PE X b (LE X.K tb)) (hs : PlainIx b) : PE X (.Subscript a b pos) (LE X.K (top r ta tb)) :=
  (pe_ix o ha hb hs).imp fun _ _ _ => LE_op u

def tbool (ta : TTE) : TTT := fun st G R => ta st G fun x G1 => ∃ c, x = .bl c ∧ R c G1
theorem LT_bool {K ta σ H Q} (h : LT K (tbool ta) σ H Q) : tB (LE K ta) σ H Q := by
  obtain ⟨st, G, R, rs, rg, q, k⟩ := h
  refine ⟨st, G, _, rs, rg, q, fun x vx G1 H1 rx rg1 s1 ⟨c, e, q1⟩ => ?_⟩
  subst e
  exact ⟨c, rx, k c G1 H1 rg1 s1 q1⟩
theorem w_test {t : TTE} (h : PE X e (LE X.K t)) (he : ∀ whole, isTrue e X.env whole = (do let v ← whole; standAt e.pos; holding [v] (truthy v)) := by intro _; rfl) : PT X e (LT X.K (tbool t)) := (pt_val h he).imp fun _ _ _ => LT_bool
/-- truth of any value -/
def truth (G : GH) : T → Bool → Prop
  | .non, k => k = false
  | .bl b, k => k = b
  | .int i, k => k = (i != 0)
  | .str y, k => y.length ≤ sizeLine ∧ k = ((y.length : Int) != 0)
  | .tup xs, k => k = !xs.isEmpty
  | .fl xs, k => k = !xs.isEmpty
  | .ref p, k => (∃ xs, G p = some (.lst xs) ∧ k = !xs.isEmpty) ∨ ∃ kvs, G p = some (.dK kvs) ∧ k = !kvs.isEmpty
  | _, _ => False
def ttruth (ta : TTE) : TTT := fun st G R => ta st G fun x G1 => ∃ c, truth G1 x c ∧ R c G1
theorem Reps.isEmpty {K H ts vs} (h : Reps K H ts vs) : vs.isEmpty = ts.isEmpty := by
  have := h.length
  cases ts <;> cases vs <;> first | rfl | (simp at this)
theorem KVR.isEmpty {κ : Type} {K H} {ts : List (κ × T)} {vs : List (κ × V)} (h : KVR K H ts vs) : vs.isEmpty = ts.isEmpty := by
  cases h <;> rfl
theorem truth_up {K H G x vx k} (r : Rep K H x vx) (rg : RG K H G) (h : truth G x k) : TruV K vx H k := by
  cases x with
  | non => cases r; exact h
  | bl b => cases r; exact h
  | int i => cases r; exact h
  | str x => cases r; exact h
  | ref p =>
    cases r
    rcases h with ⟨xs, e, q⟩ | ⟨xs, e, q⟩
    · obtain ⟨vs, e2, r⟩ := rg.lst e
      exact .inl ⟨vs, .of e2, by rw [r.isEmpty]; exact q⟩
    · obtain ⟨vs, e2, r⟩ := rg.dK e
      exact .inr (.inr ⟨vs, e2, by rw [r.isEmpty]; exact q⟩)
  | ty n => exact h.elim
  | tup xs =>
    simp only [Rep] at r
    obtain ⟨a, vs, rfl, q, r⟩ := r
    exact .inr (.inl ⟨vs, q, by rw [r.isEmpty]; exact h⟩)
  | fl xs =>
    simp only [Rep] at r
    obtain ⟨a, vs, rfl, q, r⟩ := r
    exact .inl ⟨vs, q.seq, by rw [r.isEmpty]; exact h⟩
  | ptup xs => exact h.elim
theorem w_truth {t : TTE} (h : PE X e (LE X.K t)) (he : ∀ whole, isTrue e X.env whole = (do let v ← whole; standAt e.pos; holding [v] (truthy v)) := by intro _; rfl) : PT X e (LT X.K (ttruth t)) := (pt_truth h he).imp fun σ H Q => by
  rintro ⟨st, G, R, rs, rg, q, k⟩
  refine ⟨st, G, _, rs, rg, q, fun x vx G1 H1 rx rg1 s1 ⟨c, e, q1⟩ => ?_⟩
  exact ⟨c, truth_up rx rg1 e, k c G1 H1 rg1 s1 q1⟩
def tand (t u : TTT) : TTT := fun st G R => t st G fun c G1 => if c = true then u st G1 R else R false G1
def tor (t u : TTT) : TTT := fun st G R => t st G fun c G1 => if c = true then R true G1 else u st G1 R
def tnot (t : TTT) : TTT := fun st G R => t st G fun c G1 => R (!c) G1
theorem LT_and {K t u σ H Q} (h : LT K (tand t u) σ H Q) : tAnd (LT K t) (LT K u) σ H Q := by
  obtain ⟨st, G, R, rs, rg, q, k⟩ := h
  refine ⟨st, G, _, rs, rg, q, fun c G1 H1 rg1 s1 q1 => ?_⟩
  cases c with
  | true => exact ⟨st, G1, R, rs.stay s1, rg1, q1, k.stay s1⟩
  | false => exact k false G1 H1 rg1 s1 q1
theorem LT_or {K t u σ H Q} (h : LT K (tor t u) σ H Q) : tOr (LT K t) (LT K u) σ H Q := by
  obtain ⟨st, G, R, rs, rg, q, k⟩ := h
  refine ⟨st, G, _, rs, rg, q, fun c G1 H1 rg1 s1 q1 => ?_⟩
  cases c with
  | false => exact ⟨st, G1, R, rs.stay s1, rg1, q1, k.stay s1⟩
  | true => exact k true G1 H1 rg1 s1 q1
theorem LT_not {K t σ H Q} (h : LT K (tnot t) σ H Q) : tNot (LT K t) σ H Q := by
  obtain ⟨st, G, R, rs, rg, q, k⟩ := h
  exact ⟨st, G, _, rs, rg, q, fun c G1 H1 rg1 s1 q1 => k (!c) G1 H1 rg1 s1 q1⟩
variable {rest : List Expr} {tA tB' : TTT}
theorem w_and1 (ha : PT X a (LT X.K tA)) : PW X (.BoolOp .And [a] pos) (LT X.K tA) := pw_and1 ha
theorem w_or1 (ha : PT X a (LT X.K tA)) : PW X (.BoolOp .Or [a] pos) (LT X.K tA) := pw_or1 ha
theorem w_and (ha : PT X a (LT X.K tA)) (hb : PW X (.BoolOp .And (b :: rest) pos) (LT X.K tB')) : PW X (.BoolOp .And (a :: b :: rest) pos) (LT X.K (tand tA tB')) := (pw_and ha hb).imp fun _ _ _ => LT_and
theorem w_or (ha : PT X a (LT X.K tA)) (hb : PW X (.BoolOp .Or (b :: rest) pos) (LT X.K tB')) : PW X (.BoolOp .Or (a :: b :: rest) pos) (LT X.K (tor tA tB')) := (pw_or ha hb).imp fun _ _ _ => LT_or
theorem w_not (ha : PT X a (LT X.K tA)) : PT X (.UnaryOp .Not a pos) (LT X.K (tnot tA)) := (pt_not ha).imp fun _ _ _ => LT_not
def tandV (ta tb : TTE) : TTE := fun st G R => ta st G fun x G1 => ∃ c, x = .bl c ∧ if c = true then tb st G1 R else R (.bl false) G1
def torV (ta tb : TTE) : TTE := fun st G R => ta st G fun x G1 => ∃ c, x = .bl c ∧ if c = true then R (.bl true) G1 else tb st G1 R
def tnotV (ta : TTE) : TTE := fun st G R => ta st G fun x G1 => ∃ c, x = .bl c ∧ R (.bl (!c)) G1
variable {ta tb : TTE}
theorem w_one {op} (h : PE X a (LE X.K ta)) : PE X (.BoolOp op [a] pos) (LE X.K ta) := pe_one h
theorem w_andV (ha : PE X a (LE X.K ta)) (hb : PE X (.BoolOp .And (b :: rest) pos) (LE X.K tb)) : PE X (.BoolOp .And (a :: b :: rest) pos) (LE X.K (tandV ta tb)) := (pe_and ha hb).imp fun σ H Q => by
  rintro ⟨st, G, R, rs, rg, q, k⟩
  refine ⟨st, G, _, rs, rg, q, fun x vx G1 H1 rx rg1 s1 ⟨c, e, q1⟩ => ?_⟩
  subst e
  refine ⟨c, rx, ?_⟩
  cases c with
  | true => exact ⟨st, G1, R, rs.stay s1, rg1, q1, k.stay s1⟩
  | false => exact k (.bl false) (.bl false) G1 H1 rfl rg1 s1 q1
theorem w_orV (ha : PE X a (LE X.K ta)) (hb : PE X (.BoolOp .Or (b :: rest) pos) (LE X.K tb)) : PE X (.BoolOp .Or (a :: b :: rest) pos) (LE X.K (torV ta tb)) := (pe_or ha hb).imp fun σ H Q => by
  rintro ⟨st, G, R, rs, rg, q, k⟩
  refine ⟨st, G, _, rs, rg, q, fun x vx G1 H1 rx rg1 s1 ⟨c, e, q1⟩ => ?_⟩
  subst e
  refine ⟨c, rx, ?_⟩
  cases c with
  | false => exact ⟨st, G1, R, rs.stay s1, rg1, q1, k.stay s1⟩
  | true => exact k (.bl true) (.bl true) G1 H1 rfl rg1 s1 q1
theorem w_notV (ha : PE X a (LE X.K ta)) : PE X (.UnaryOp .Not a pos) (LE X.K (tnotV ta)) := (pe_not ha).imp fun σ H Q => by
  rintro ⟨st, G, R, rs, rg, q, k⟩
  refine ⟨st, G, _, rs, rg, q, fun x vx G1 H1 rx rg1 s1 ⟨c, e, q1⟩ => ?_⟩
  subst e
  exact ⟨c, rx, k (.bl (!c)) (.bl (!c)) G1 H1 rfl rg1 s1 q1⟩
def tife (t : TTT) (ta tb : TTE) : TTE := fun st G R => t st G fun c G1 => if c = true then ta st G1 R else tb st G1 R
theorem w_ifExp (hc : PT X c (LT X.K tA)) (ha : PE X a (LE X.K ta)) (hb : PE X b (LE X.K tb)) : PE X (.IfExp c a b pos) (LE X.K (tife tA ta tb)) := (pe_ifExp hc ha hb).imp fun σ H Q => by
  rintro ⟨st, G, R, rs, rg, q, k⟩
  refine ⟨st, G, _, rs, rg, q, fun c G1 H1 rg1 s1 q1 => ?_⟩
  cases c with
  | true => exact ⟨st, G1, R, rs.stay s1, rg1, q1, k.stay s1⟩
  | false => exact ⟨st, G1, R, rs.stay s1, rg1, q1, k.stay s1⟩
/-- x is None, is not None -/
def T.isNon : T → Bool
  | .non => true
  | _ => false
def tisN (ta : TTE) : TTE := fun st G R => ta st G fun x G1 => R (.bl x.isNon) G1
def tnotN (ta : TTE) : TTE := fun st G R => ta st G fun x G1 => R (.bl (!x.isNon)) G1
theorem Rep.isN {K H x v} (r : Rep K H x v) : decide (v = V.non) = x.isNon := by
  cases x with
  | tup xs => simp only [Rep] at r; obtain ⟨a, vs, rfl, _⟩ := r; rfl
  | fl xs => simp only [Rep] at r; obtain ⟨a, vs, rfl, _⟩ := r; rfl
  | ptup xs => simp only [Rep] at r; obtain ⟨a, vs, rfl, _⟩ := r; rfl
  | _ => cases r; rfl
theorem c_isN {j pos'} (ha : PE X a (LE X.K ta)) : PE X (.Compare a [.Is] [.Constant .none j pos'] pos) (LE X.K (tisN ta)) := (pe_cmp (pc_isN ha) rfl).imp fun σ H Q => by
  rintro ⟨st, G, R, rs, rg, q, k⟩
  refine ⟨st, G, _, rs, rg, q, fun x vx G1 H1 rx rg1 s1 q1 => ?_⟩
  refine k _ _ G1 H1 ?_ rg1 s1 q1
  show V.bl _ = V.bl _
  rw [rx.isN]
theorem c_notN {j pos'} (ha : PE X a (LE X.K ta)) : PE X (.Compare a [.IsNot] [.Constant .none j pos'] pos) (LE X.K (tnotN ta)) := (pe_cmp (pc_notN ha) rfl).imp fun σ H Q => by
  rintro ⟨st, G, R, rs, rg, q, k⟩
  refine ⟨st, G, _, rs, rg, q, fun x vx G1 H1 rx rg1 s1 q1 => ?_⟩
  refine k _ _ G1 H1 ?_ rg1 s1 q1
  show V.bl _ = V.bl _
  rw [rx.isN]
end

def tanil : TTA := fun _ G R => R [] G
def tacons (t : TTE) (u : TTA) : TTA := fun st G R => t st G fun x G1 => u st G1 fun xs G2 => R (x :: xs) G2
section
variable {X : Cx} {e : Expr} {es : List Expr} {pos : Pos} {te : TTE} {t : TTA}
theorem a_nil : PA X [] (LA X.K tanil) := pa_nil.imp fun σ H Q => by
  rintro ⟨st, G, R, rs, rg, q, k⟩
  exact k [] [] G H .nil rg .refl q
theorem a_cons (ha : PE X e (LE X.K te)) (hr : PA X es (LA X.K t)) (hs : starEach (e :: es) X.env = (false, eval e X.env) :: starEach es X.env := by rfl) : PA X (e :: es) (LA X.K (tacons te t)) := (pa_cons ha hr hs).imp fun σ H Q => by
  rintro ⟨st, G, R, rs, rg, q, k⟩
  refine ⟨st, G, _, rs, rg, q, fun x vx G1 H1 rx rg1 s1 q1 => ?_⟩
  refine ⟨st, G1, _, rs.stay s1, rg1, q1, fun xs vs G2 H2 rxs rg2 s2 q2 => ?_⟩
  exact k (x :: xs) (vx :: vs) G2 H2 (.cons (rx.stay s2) rxs) rg2 (s1.trans s2) q2
def ttup (t : TTA) : TTE := fun st G R => t st G fun xs G1 => xs.length ≤ sizeLine ∧ R (.tup xs) G1
def tlst (t : TTA) : TTE := fun st G R => t st G fun xs G1 => xs.length ≤ sizeLine ∧ ∀ p, G1 p = none → R (.ref p) (gupd G1 p (.lst xs))
theorem w_tup {x1} (h : PA X es (LA X.K t)) : PE X (.Tuple es x1 pos) (LE X.K (ttup t)) := (pe_tup h).imp fun σ H Q => by
  rintro ⟨st, G, R, rs, rg, q, k⟩
  refine ⟨st, G, _, rs, rg, q, fun xs vs G1 H1 rx rg1 s1 ⟨z, q1⟩ => ⟨by rw [rx.length]; exact z, fun p hp => ?_⟩⟩
  exact k _ _ G1 _ (rep_tup hp rx) (rg1.new hp) (s1.trans (stay_upd (wr_none hp))) q1
theorem w_lst (h : PA X es (LA X.K t)) : PE X (.List es pos) (LE X.K (tlst t)) := (pe_lst h).imp fun σ H Q => by
  rintro ⟨st, G, R, rs, rg, q, k⟩
  refine ⟨st, G, _, rs, rg, q, fun xs vs G1 H1 rx rg1 s1 ⟨z, q1⟩ => ⟨by rw [rx.length]; exact z, fun p hp => ?_⟩⟩
  exact k (.ref p) (.ref p) _ _ rfl (rg1.newL hp rx) (s1.trans (stay_upd (wr_none hp))) (q1 p (rg1.free hp))
end

section
variable {X : Cx} {e c : Expr} {st : Stmt} {rest a b : List Stmt} {pos : Pos} {te : TTE} {tc : TTT} {t u : TTS}
def tnext : TTS := fun D st G => D.nx st G
def tseq (t u : TTS) : TTS := fun D st G => t { D with nx := u D } st G
theorem s_nil : PSs X [] (LS X.K tnext) := pss_nil.imp fun D σ H => by
  rintro ⟨st, G, R, rs, rg, q, k⟩
  exact k.nx st σ G H rs rg .refl q
theorem s_cons (h1 : PS X st (LS X.K t)) (h2 : PSs X rest (LS X.K u)) : PSs X (st :: rest) (LS X.K (tseq t u)) := (pss_cons h1 h2).imp fun D σ H => by
  rintro ⟨st, G, R, rs, rg, q, k⟩
  exact ⟨st, G, _, rs, rg, q, ⟨fun st' σ' G' H' rs' rg' s' q' => ⟨st', G', R, rs', rg', q', k.stay s'⟩, k.rt, k.bk, k.ct⟩⟩
theorem s_one (h1 : PS X st (LS X.K t)) : PSs X [st] (LS X.K t) := pss_one h1
theorem s_pass : PS X (.Pass pos) (LS X.K tnext) := ps_pass.imp fun D σ H => by
  rintro ⟨st, G, R, rs, rg, q, k⟩
  exact k.nx st σ G H rs rg .refl q
def tbreak : TTS := fun D st G => D.bk st G
def tcont : TTS := fun D st G => D.ct st G
theorem s_break : PS X (.Break pos) (LS X.K tbreak) := ps_break.imp fun D σ H => by
  rintro ⟨st, G, R, rs, rg, q, k⟩
  exact k.bk st σ G H rs rg .refl q
theorem s_continue : PS X (.Continue pos) (LS X.K tcont) := ps_continue.imp fun D σ H => by
  rintro ⟨st, G, R, rs, rg, q, k⟩
  exact k.ct st σ G H rs rg .refl q
def tdrop (te : TTE) : TTS := fun D st G => te st G fun _ G1 => D.nx st G1
theorem s_expr (he : PE X e (LE X.K te)) (hs : swapsWith e none pos.line X.env = pure false := by rfl) : PS X (.Expr e pos) (LS X.K (tdrop te)) := (ps_expr he hs).imp fun D σ H => by
  rintro ⟨st, G, R, rs, rg, q, k⟩
  exact ⟨st, G, _, rs, rg, q, fun x vx G1 H1 rx rg1 s1 q1 => k.nx st σ G1 H1 (rs.stay s1) rg1 s1 q1⟩
def tret (te : TTE) : TTS := fun D st G => te st G D.rt
theorem s_ret (he : PE X e (LE X.K te)) : PS X (.Return (some e) pos) (LS X.K (tret te)) := (ps_ret he).imp fun D σ H => by
  rintro ⟨st, G, R, rs, rg, q, k⟩
  exact ⟨st, G, _, rs, rg, q, k.rt⟩
def tretN : TTS := fun D _ G => D.rt .non G
theorem s_retN : PS X (.Return none pos) (LS X.K tretN) := ps_retN.imp fun D σ H => by
  rintro ⟨st, G, R, rs, rg, q, k⟩
  exact k.rt .non .non G H rfl rg .refl q
def tifs (c : TTT) (t u : TTS) : TTS := fun D st G => c st G fun b G1 => if b = true then t D st G1 else u D st G1
theorem s_if (hc : PT X c (LT X.K tc)) (ha : PSs X a (LS X.K t)) (hb : PSs X b (LS X.K u)) : PS X (.If c a b pos) (LS X.K (tifs tc t u)) := (ps_if hc ha hb).imp fun D σ H => by
  rintro ⟨st, G, R, rs, rg, q, k⟩
  refine ⟨st, G, _, rs, rg, q, fun c G1 H1 rg1 s1 q1 => ?_⟩
  cases c with
  | true => exact ⟨st, G1, R, rs.stay s1, rg1, q1, k.stay s1⟩
  | false => exact ⟨st, G1, R, rs.stay s1, rg1, q1, k.stay s1⟩
end

abbrev TTG := T → TSt → GH → (TSt → GH → Prop) → Prop
abbrev TTGs := List T → TSt → GH → (TSt → GH → Prop) → Prop
def LG (K : PySem.W.Frag) (τ : TTG) : TG := fun v σ H Q => ∃ t st G R, Rep K H t v ∧ RS K H st σ ∧ RG K H G ∧ τ t st G R ∧ KontS K H R Q
def LGs (K : PySem.W.Frag) (τ : TTGs) : TGs := fun v σ H Q => ∃ t st G R, Reps K H t v ∧ RS K H st σ ∧ RG K H G ∧ τ t st G R ∧ KontS K H R Q
def gname (i : Nat) : TTG := fun t st G R => R (st.set i (some t)) G
def gnil : TTGs := fun ts st G R => ts = [] ∧ R st G
def gcons (t : TTG) (u : TTGs) : TTGs := fun ts st G R => ∃ x r, ts = x :: r ∧ t x st G fun st' G' => u r st' G' R
def gtup (n : Nat) (t : TTGs) : TTG := fun x st G R => ∃ xs, x = .tup xs ∧ xs.length = n ∧ t xs st G R
section
variable {X : Cx} {e : Expr} {es : List Expr} {pos : Pos} {te : TTE} {g : TTG} {gs : TTGs}
theorem g_name {i : Nat} {x : Str} (h : PG X (.Name x pos) (gName i)) : PG X (.Name x pos) (LG X.K (gname i)) := h.imp fun v σ H Q => by
  rintro ⟨t, st, G, R, r, rs, rg, q, k⟩
  exact k _ _ G H (rs.set r) rg .refl q
theorem gs_nil : PGs X [] (LGs X.K gnil) := pgs_nil.imp fun v σ H Q => by
  rintro ⟨t, st, G, R, r, rs, rg, ⟨e, q⟩, k⟩
  subst e
  exact ⟨r.of_nil, k _ _ G H rs rg .refl q⟩
theorem gs_cons (h1 : PG X e (LG X.K g)) (h2 : PGs X es (LGs X.K gs)) (hs : (assignEach (e :: es) X.env).map (·.2) = assign e X.env :: (assignEach es X.env).map (·.2) := by rfl) : PGs X (e :: es) (LGs X.K (gcons g gs)) := (pgs_cons h1 h2 hs).imp fun v σ H Q => by
  rintro ⟨t, st, G, R, r, rs, rg, ⟨x, xr, e, q⟩, k⟩
  subst e
  obtain ⟨v1, vr, rfl, r1, r2⟩ := r.of_cons
  exact ⟨v1, vr, rfl, x, st, G, _, r1, rs, rg, q, fun st' σ' G' H' rs' rg' s' q' => ⟨xr, st', G', R, r2.stay s', rs', rg', q', k.stay s'⟩⟩
theorem g_tup {k : Nat} {n : Nat} (hc : X.calm = true) (h : PGs X es (LGs X.K gs)) (hn : (assignEach es X.env).length = n := by rfl) (hst : (assignEach es X.env).findIdx? (·.1) = none := by rfl) : PG X (.Tuple es k pos) (LG X.K (gtup n gs)) := (pg_tup hc h hn hst).imp fun v σ H Q => by
  rintro ⟨t, st, G, R, r, rs, rg, ⟨xs, e, l, q⟩, k⟩
  subst e
  simp only [Rep] at r
  obtain ⟨a, vs, rfl, hs, r⟩ := r
  exact ⟨a, vs, rfl, hs, by rw [r.length]; exact l, xs, st, G, R, r, rs, rg, q, k⟩
def tasg (te : TTE) (g : TTG) : TTS := fun D st G => te st G fun x G1 => g x st G1 D.nx
theorem LS_asg {K te g D σ H} (h : LS K (tasg te g) D σ H) : tAsg (LE K te) (LG K g) D σ H := by
  obtain ⟨st, G, R, rs, rg, q, k⟩ := h
  exact ⟨st, G, _, rs, rg, q, fun x vx G1 H1 rx rg1 s1 q1 => ⟨x, st, G1, _, rx, rs.stay s1, rg1, q1, k.nx.stay s1⟩⟩
theorem s_asg {tg e : Expr} (he : PE X e (LE X.K te)) (hg : PG X tg (LG X.K g)) (hs : swapsWithSole [tg] e pos.line X.env = pure false := by rfl) (hw : swappedStores [tg] e X.env = pure none := by rfl) (h1 : (assignEach [tg] X.env).map (·.2) = [assign tg X.env] := by rfl) : PS X (.Assign [tg] e pos) (LS X.K (tasg te g)) := (ps_asg he hg hs hw h1).imp fun D σ H => LS_asg
end
end TL

namespace TL
open PySem PySem.Spec PyProof.Rows L2

/-- weaker: some slots and things forgotten -/
def Wk (P : TSt → GH → Prop) : TSt → GH → Prop := fun st G => ∃ st0 G0, Less st0 st ∧ Sub G0 G ∧ P st0 G0
theorem Wk.of {P : TSt → GH → Prop} {st G} (h : P st G) : Wk P st G := ⟨st, G, .refl, .refl, h⟩

section
variable {X : Cx} {e c : Expr} {body : List Stmt} {pos : Pos} {te : TTE} {tc : TTT} {tb : TTS}
def twhile (c : TTT) (tb : TTS) : TTS := fun D st G => ∃ W : Nat → TSt → GH → Prop, (∃ m, W m st G) ∧ ∀ m st G, W m st G →
  c st G fun b G1 => if b = true then tb { D with nx := fun st' G' => ∃ m', m' < m ∧ Wk (W m') st' G', ct := fun st' G' => ∃ m', m' < m ∧ Wk (W m') st' G', bk := D.nx } st G1 else D.nx st G1
theorem s_while (hp : PassesOwn (model X.prog X.w) X.A X.env X.xe) (hc : PT X c (LT X.K tc)) (hb : PSs X body (LS X.K tb)) : PS X (.While c body [] pos) (LS X.K (twhile tc tb)) := (ps_while hp hc hb).imp fun D σ H0 => by
  rintro ⟨st0, G0, R, rs0, rg0, ⟨W, ⟨m0, w0⟩, turn⟩, k⟩
  refine ⟨fun m σ H => ∃ st G, RS X.K H st σ ∧ RG X.K H G ∧ Stay X.K H0 H ∧ W m st G, ⟨m0, st0, G0, rs0, rg0, .refl, w0⟩, ?_⟩
  rintro m σ H ⟨st, G, rs, rg, s, w⟩
  refine ⟨st, G, _, rs, rg, turn m st G w, fun b G1 H1 rg1 s1 q1 => ?_⟩
  cases b with
  | false => exact k.nx st σ G1 H1 (rs.stay s1) rg1 (s.trans s1) q1
  | true =>
    refine ⟨fun σ' H' => ∃ m', m' < m ∧ ∃ st G, RS X.K H' st σ' ∧ RG X.K H' G ∧ Stay X.K H0 H' ∧ W m' st G, fun _ _ q => q, ?_⟩
    have go : ∀ st' σ' G' H', RS X.K H' st' σ' → RG X.K H' G' → Stay X.K H1 H' → (∃ m', m' < m ∧ Wk (W m') st' G') → ∃ m', m' < m ∧ ∃ st G, RS X.K H' st σ' ∧ RG X.K H' G ∧ Stay X.K H0 H' ∧ W m' st G := by
      rintro st' σ' G' H' rs' rg' s' ⟨m', hm, st2, G2, l, sb, w2⟩
      exact ⟨m', hm, st2, G2, rs'.less l, rg'.sub sb, (s.trans s1).trans s', w2⟩
    exact ⟨st, G1, _, rs.stay s1, rg1, q1, ⟨go, k.rt.stay (s.trans s1), k.nx.stay (s.trans s1), go⟩⟩

/-- what is walked: the items, and what must stay true of the things meanwhile -/
structure Fits (K : PySem.W.Frag) (J : It) (items : List T) (keep : GH → Prop) (H0 : Hp) : Prop where
  go : ∀ H G i t, Stay K H0 H → RG K H G → keep G → items[i]? = some t → J.go i H ∧ ∀ x H', J.yld i H x H' → Rep K H' t x ∧ RG K H' G ∧ Stay K H H'
  stop : ∀ H G i, Stay K H0 H → RG K H G → keep G → i = items.length → J.stop i H
abbrev TTI := TSt → GH → (List T → (GH → Prop) → GH → Prop) → Prop
def LI (K : PySem.W.Frag) (τ : TTI) : TI := fun σ H R => ∃ st G RT, RS K H st σ ∧ RG K H G ∧ τ st G RT ∧ ∀ items keep J G' H', Fits K J items keep H' → RG K H' G' → Stay K H H' → RT items keep G' → R J H'
def forGo (keep : GH → Prop) (g : TTG) (tb : TTS) (D : TEnds) : List T → TSt → GH → Prop
  | [], st, G => keep G ∧ D.nx st G
  | x :: xs, st, G => keep G ∧ g x st G fun st2 G2 => tb { D with nx := Wk (forGo keep g tb D xs), ct := Wk (forGo keep g tb D xs), bk := D.nx } st2 G2
def tfor (wi : TTI) (g : TTG) (tb : TTS) : TTS := fun D st G => wi st G fun items keep G1 => forGo keep g tb D items st G1
theorem forGo_keep {keep g tb D xs st G} (h : forGo keep g tb D xs st G) : keep G := by cases xs <;> exact h.1
variable {tg iter : Expr} {wi : TTI} {g : TTG}
theorem for_core {K : PySem.W.Frag} {J : It} {items : List T} {keep : GH → Prop} {H1 : Hp} {G1 : GH} {st0 : TSt} {σ0 : St} {R : TEnds} {D : Ends} (fit : Fits K J items keep H1) (rs0 : RS K H1 st0 σ0) (rg1 : RG K H1 G1) (q1 : forGo keep g tb R items st0 G1) (k : KontD K H1 R D) :
    ∃ W : Nat → Nat → St → Hp → Prop, (∃ m, W 0 m σ0 H1) ∧ ∀ i m σ H, W i m σ H →
      (J.stop i H ∧ D.nx σ H) ∨ (J.go i H ∧ ∃ N : St → Hp → Prop, (∀ σ' H', N σ' H' → ∃ m', m' < m ∧ W (i + 1) m' σ' H') ∧ ∀ x H', J.yld i H x H' → LG K g x σ H' fun σ2 H2 => LS K tb { D with nx := N, ct := N, bk := D.nx } σ2 H2) := by
  refine ⟨fun i m σ H' => m = items.length - i ∧ i ≤ items.length ∧ ∃ st G, RS K H' st σ ∧ RG K H' G ∧ Stay K H1 H' ∧ forGo keep g tb R (items.drop i) st G, ⟨items.length, by simp, Nat.zero_le _, st0, G1, rs0, rg1, .refl, q1⟩, ?_⟩
  rintro i m σ H2 ⟨rfl, hi, st, G, rs, rg, s, q⟩
  have kp := forGo_keep q
  by_cases hlt : i < items.length
  · rw [List.drop_eq_getElem_cons hlt] at q
    obtain ⟨_, q⟩ := q
    obtain ⟨go, yl⟩ := fit.go H2 G i items[i] s rg kp (by simp [hlt])
    refine .inr ⟨go, fun σ' H' => ∃ st G, RS K H' st σ' ∧ RG K H' G ∧ Stay K H1 H' ∧ forGo keep g tb R (items.drop (i + 1)) st G, fun σ' H' p' => ⟨items.length - (i + 1), by omega, rfl, hlt, p'⟩, fun x H' y => ?_⟩
    obtain ⟨r', rg', s'⟩ := yl x H' y
    refine ⟨items[i], st, G, _, r', rs.stay s', rg', q, fun st3 σ3 G3 H3 rs3 rg3 s3 q3 => ?_⟩
    have sA : Stay K H1 H3 := s.trans (s'.trans s3)
    have again : ∀ st' σ' G' H', RS K H' st' σ' → RG K H' G' → Stay K H3 H' → Wk (forGo keep g tb R (items.drop (i + 1))) st' G' → ∃ st G, RS K H' st σ' ∧ RG K H' G ∧ Stay K H1 H' ∧ forGo keep g tb R (items.drop (i + 1)) st G := by
      rintro st' σ' G' H' rs' rg' s' ⟨st2, G2, l, sb, w2⟩
      exact ⟨st2, G2, rs'.less l, rg'.sub sb, sA.trans s', w2⟩
    exact ⟨st3, G3, _, rs3, rg3, q3, ⟨again, k.rt.stay sA, k.nx.stay sA, again⟩⟩
  · have ei : i = items.length := by omega
    subst ei
    rw [List.drop_length] at q
    exact .inl ⟨fit.stop H2 G _ s rg kp rfl, k.nx st σ G H2 rs rg s q.2⟩
theorem s_for (hp : PassesOwn (model X.prog X.w) X.A X.env X.xe) (hc : X.calm = true) (hi : PI X tg iter (LI X.K wi)) (hg : PG X tg (LG X.K g)) (hb : PSs X body (LS X.K tb))
    (hs : ∀ x, foldedSetIterable iter X.env x = pure x := by intro _; rfl) : PS X (.For tg iter body [] pos) (LS X.K (tfor wi g tb)) := (ps_for hp hc hi hg hb hs).imp fun D σ H => by
  rintro ⟨st0, G0, R, rs0, rg0, q, k⟩
  exact ⟨st0, G0, _, rs0, rg0, q, fun items keep J G1 H1 fit rg1 s1 q1 => for_core fit (rs0.stay s1) rg1 q1 (k.stay s1)⟩

/-- anything that is a list or a tuple -/
def iAny (K : PySem.W.Frag) (tl : TE) : L2.TI := fun σ H R => tl σ H fun x H1 => (∃ a, x = .ref a ∧ (∃ xs, SqL K H1 a xs) ∧ R (Itl K a) H1) ∨ ∃ a, x = .ref a ∧ (∃ xs, SqT K H1 a xs) ∧ R (Itt K a) H1
theorem pi_any {l : Expr} {tl : TE} (hl : PE X l tl) : PI X tg l (iAny X.K tl) := by
  refine ⟨fun pins s σ H R I h => ?_⟩
  refine thn (hl.run pins s σ H _ I h) fun v s1 ⟨x, H1, I1, r1, q1⟩ => ?_
  rcases q1 with ⟨a, e, ⟨xs, hq⟩, q⟩ | ⟨a, e, ⟨xs, hq⟩, q⟩
  · subst e
    cases r1
    obtain ⟨its, rv, p, hz⟩ := I1.list hq
    refine wpAny_pyIter_list p.isList ?_
    refine ⟨s1.heap.objs.size, [s1.heap.objs.size], _, _, H1, rfl, I1.kept (t' := s1.toks) fun b o e => Heap.get?_push_of_some _ e, turn_list a _, ⟨_, Heap.get?_push_size _ rfl, rfl, rfl⟩, fun b hb => ?_, q⟩
    have e : b = s1.heap.objs.size := by simpa using hb
    subst e
    exact I1.fpOk (Nat.le_refl _) (I1.hok.fresh (Nat.le_refl _))
  · subst e
    cases r1
    obtain ⟨its, rv, p, hz⟩ := I1.tuple hq
    refine wpAny_pyIter_tuple (show s1.heap.IsTuple a its.toArray from p) ?_
    refine ⟨s1.heap.objs.size, [s1.heap.objs.size], _, _, H1, rfl, I1.kept (t' := s1.toks) fun b o e => Heap.get?_push_of_some _ e, turn_tuple a _, ⟨_, Heap.get?_push_size _ rfl, rfl, rfl⟩, fun b hb => ?_, q⟩
    have e : b = s1.heap.objs.size := by simpa using hb
    subst e
    exact I1.fpOk (Nat.le_refl _) (I1.hok.fresh (Nat.le_refl _))
/-- the items of a value, and what must stay meanwhile -/
def items (G : GH) (RT : List T → (GH → Prop) → GH → Prop) : T → Prop
  | .tup xs => RT xs (fun _ => True) G
  | .fl xs => RT xs (fun _ => True) G
  | .ref p => ∃ xs, G p = some (.lst xs) ∧ RT xs (fun G' => G' p = some (.lst xs)) G
  | _ => False
def iany (t : TTE) : TTI := fun st G RT => t st G fun x G1 => items G1 RT x
theorem fits_tup {K H a xs vs} (h : SqT K H a vs) (r : Reps K H xs vs) : Fits K (Itt K a) xs (fun _ => True) H := by
  refine ⟨fun H1 G i t s rg _ e => ?_, fun H1 G i s rg _ hl => ⟨vs, s.t _ _ h, by rw [r.length]; exact Nat.le_of_eq hl.symm⟩⟩
  obtain ⟨v, e1, r1⟩ := r.get e
  refine ⟨⟨vs, v, s.t _ _ h, e1⟩, fun x H' y => ?_⟩
  obtain ⟨eh, y⟩ := y
  subst eh
  have e2 := y vs (s.t _ _ h)
  rw [e1] at e2
  cases e2
  exact ⟨r1.stay s, rg, .refl⟩
theorem fits_fl {K H a xs vs} (h : FrL K H a vs) (r : Reps K H xs vs) : Fits K (Itl K a) xs (fun _ => True) H := by
  refine ⟨fun H1 G i t s rg _ e => ?_, fun H1 G i s rg _ hl => ⟨vs, (s.f _ _ h).seq, by rw [r.length]; exact Nat.le_of_eq hl.symm⟩⟩
  obtain ⟨v, e1, r1⟩ := r.get e
  refine ⟨⟨vs, v, (s.f _ _ h).seq, e1⟩, fun x H' y => ?_⟩
  obtain ⟨eh, y⟩ := y
  subst eh
  have e2 := y vs (s.f _ _ h).seq
  rw [e1] at e2
  cases e2
  exact ⟨r1.stay s, rg, .refl⟩
theorem fits_lst {K H a xs} : Fits K (Itl K a) xs (fun G' => G' a = some (.lst xs)) H := by
  refine ⟨fun H1 G i t s rg kp e => ?_, fun H1 G i s rg kp hl => ?_⟩
  · obtain ⟨vs, h, r⟩ := rg.lst kp
    obtain ⟨v, e1, r1⟩ := r.get e
    refine ⟨⟨vs, v, .of h, e1⟩, fun x H' y => ?_⟩
    obtain ⟨eh, y⟩ := y
    subst eh
    have e2 := y vs (.of h)
    rw [e1] at e2
    cases e2
    exact ⟨r1, rg, .refl⟩
  · obtain ⟨vs, h, r⟩ := rg.lst kp
    exact ⟨vs, .of h, by rw [r.length]; exact Nat.le_of_eq hl.symm⟩
theorem i_any (h : PE X e (LE X.K te)) : PI X tg e (LI X.K (iany te)) := (pi_any h).imp fun σ H R => by
  rintro ⟨st, G, RT, rs, rg, q, k⟩
  refine ⟨st, G, _, rs, rg, q, fun x vx G1 H1 rx rg1 s1 q1 => ?_⟩
  cases x with
  | tup xs =>
    simp only [Rep] at rx
    obtain ⟨a, vs, rfl, hs, r⟩ := rx
    exact .inr ⟨a, rfl, ⟨vs, hs⟩, k xs _ _ G1 H1 (fits_tup hs r) rg1 s1 q1⟩
  | fl xs =>
    simp only [Rep] at rx
    obtain ⟨a, vs, rfl, hs, r⟩ := rx
    exact .inl ⟨a, rfl, ⟨vs, hs.seq⟩, k xs _ _ G1 H1 (fits_fl hs r) rg1 s1 q1⟩
  | ref p =>
    cases rx
    obtain ⟨xs, e1, q1⟩ := q1
    obtain ⟨vs, h1, r⟩ := rg1.lst e1
    exact .inl ⟨p, rfl, ⟨vs, .of h1⟩, k xs _ _ G1 H1 fits_lst rg1 s1 q1⟩
  | _ => exact q1.elim
/-- reversed(..) of a list or tuple -/
def irev (t : TTE) : TTI := fun st G RT => t st G fun x G1 => items G1 (fun xs kp G2 => RT xs.reverse kp G2) x
theorem rev_get {α : Type} {xs : List α} {i : Nat} {t : α} (h : xs.reverse[i]? = some t) : i < xs.length ∧ xs[xs.length - 1 - i]? = some t := by
  have hl : i < xs.reverse.length := by
    rcases Nat.lt_or_ge i xs.reverse.length with h' | h'
    · exact h'
    · rw [List.getElem?_eq_none h'] at h; cases h
  rw [List.length_reverse] at hl
  rw [List.getElem?_reverse hl] at h
  exact ⟨hl, h⟩
end
end TL

namespace TL
open PySem PySem.Spec PyProof.Rows L2

section
variable {X : Cx} {e c : Expr} {body : List Stmt} {pos : Pos} {te : TTE} {tc : TTT} {tb : TTS} {tg iter : Expr} {wi : TTI} {g : TTG}
theorem fits_revL {K H a} {xs : List T} : Fits K (Itv K a xs.length) xs.reverse (fun G' => G' a = some (.lst xs)) H := by
  refine ⟨fun H1 G i t s rg kp e => ?_, fun H1 G i s rg kp hl => Nat.le_of_eq ((List.length_reverse (as := xs)) ▸ hl.symm)⟩
  obtain ⟨vs, h, r⟩ := rg.lst kp
  obtain ⟨hl, e⟩ := rev_get e
  obtain ⟨v, e1, r1⟩ := r.get e
  refine ⟨⟨hl, vs, v, .of h, e1⟩, fun x H' y => ?_⟩
  obtain ⟨eh, y⟩ := y
  subst eh
  have e2 := y vs (.of h)
  rw [e1] at e2
  cases e2
  exact ⟨r1, rg, .refl⟩
theorem fits_revF {K H a} {xs : List T} {vs : List V} (h : FrL K H a vs) (r : Reps K H xs vs) : Fits K (Itv K a xs.length) xs.reverse (fun _ => True) H := by
  refine ⟨fun H1 G i t s rg kp e => ?_, fun H1 G i s rg kp hl => Nat.le_of_eq ((List.length_reverse (as := xs)) ▸ hl.symm)⟩
  obtain ⟨hl, e⟩ := rev_get e
  obtain ⟨v, e1, r1⟩ := r.get e
  refine ⟨⟨hl, vs, v, (s.f _ _ h).seq, e1⟩, fun x H' y => ?_⟩
  obtain ⟨eh, y⟩ := y
  subst eh
  have e2 := y vs (s.f _ _ h).seq
  rw [e1] at e2
  cases e2
  exact ⟨r1.stay s, rg, .refl⟩
theorem fits_revT {K H a} {xs : List T} {vs : List V} (h : SqT K H a vs) (r : Reps K H xs vs) : Fits K (RT.ItvT K a xs.length) xs.reverse (fun _ => True) H := by
  refine ⟨fun H1 G i t s rg kp e => ?_, fun H1 G i s rg kp hl => Nat.le_of_eq ((List.length_reverse (as := xs)) ▸ hl.symm)⟩
  obtain ⟨hl, e⟩ := rev_get e
  obtain ⟨v, e1, r1⟩ := r.get e
  refine ⟨⟨hl, vs, v, s.t _ _ h, e1⟩, fun x H' y => ?_⟩
  obtain ⟨eh, y⟩ := y
  subst eh
  have e2 := y vs (s.t _ _ h)
  rw [e1] at e2
  cases e2
  exact ⟨r1.stay s, rg, .refl⟩
theorem i_rev {p pos : Pos} (hg : Gl X "reversed") (hm : X.mg "reversed" = none) (h : PE X e (LE X.K te)) (hs : starEach [e] X.env = (false, eval e X.env) :: starEach [] X.env := by rfl) : PI X tg (.Call (.Name "reversed" p) [e] [] pos) (LI X.K (irev te)) := (RT.pi_revA hg hm h hs).imp fun σ H R => by
  rintro ⟨st, G, RT, rs, rg, q, k⟩
  refine ⟨st, G, _, rs, rg, q, fun x vx G1 H1 rx rg1 s1 q1 => ?_⟩
  cases x with
  | tup xs =>
    simp only [Rep] at rx
    obtain ⟨a, vs, rfl, hs, r⟩ := rx
    refine ⟨a, vs, rfl, .inr ⟨hs, ?_⟩⟩
    rw [r.length]
    exact k xs.reverse _ _ G1 H1 (fits_revT hs r) rg1 s1 q1
  | fl xs =>
    simp only [Rep] at rx
    obtain ⟨a, vs, rfl, hs, r⟩ := rx
    refine ⟨a, vs, rfl, .inl ⟨hs.seq, ?_⟩⟩
    rw [r.length]
    exact k xs.reverse _ _ G1 H1 (fits_revF hs r) rg1 s1 q1
  | ref p =>
    cases rx
    obtain ⟨xs, e1, q1⟩ := q1
    obtain ⟨vs, h1, r⟩ := rg1.lst e1
    refine ⟨p, vs, rfl, .inl ⟨.of h1, ?_⟩⟩
    rw [r.length]
    exact k xs.reverse _ _ G1 H1 fits_revL rg1 s1 q1
  | _ => exact q1.elim
def rangeT (lo : Int) (n : Nat) : List T := (List.range n).map fun (i : Nat) => T.int (lo + (i : Int))
theorem rangeT_len (lo : Int) (n : Nat) : (rangeT lo n).length = n := by simp [rangeT]
theorem fits_range {K H} (lo : Int) (n : Nat) : Fits K (Itr lo n) (rangeT lo n) (fun _ => True) H := by
  refine ⟨fun H1 G i t s rg kp e => ?_, fun H1 G i s rg kp hl => Nat.le_of_eq ((rangeT_len lo n) ▸ hl.symm)⟩
  have hl : i < n := by
    rcases Nat.lt_or_ge i n with h' | h'
    · exact h'
    · rw [List.getElem?_eq_none (by rw [rangeT_len]; exact h')] at e; cases e
  have e2 : t = .int (lo + i) := by
    unfold rangeT at e
    rw [List.getElem?_map, List.getElem?_range hl] at e
    exact (Option.some.inj e).symm
  subst e2
  refine ⟨hl, fun x H' y => ?_⟩
  obtain ⟨eh, y⟩ := y
  subst eh y
  exact ⟨rfl, rg, .refl⟩
def irange1 (t : TTA) : TTI := fun st G RT => t st G fun xs G1 => ∃ j : Int, xs = [.int j] ∧ -(2 ^ 62) ≤ j ∧ j < 2 ^ 62 ∧ RT (rangeT 0 j.toNat) (fun _ => True) G1
def irange2 (t : TTA) : TTI := fun st G RT => t st G fun xs G1 => ∃ i j : Int, xs = [.int i, .int j] ∧ (-(2 ^ 62) ≤ i ∧ i < 2 ^ 62 ∧ -(2 ^ 62) ≤ j ∧ j < 2 ^ 62) ∧ RT (rangeT i (j - i).toNat) (fun _ => True) G1
variable {ta : TTA}
theorem i_range1 {a : Expr} {p pos : Pos} (hg : Gl X "range") (hm : X.mg "range" = none) (ha : PA X [a] (LA X.K ta)) (hs : starEach [a] X.env = [(false, eval a X.env)] := by rfl) : PI X tg (.Call (.Name "range" p) [a] [] pos) (LI X.K (irange1 ta)) := (pi_range1 hg hm ha hs).imp fun σ H R => by
  rintro ⟨st, G, RT, rs, rg, q, k⟩
  refine ⟨st, G, _, rs, rg, q, fun xs vs G1 H1 rx rg1 s1 ⟨j, e, h1, h2, q1⟩ => ?_⟩
  subst e
  obtain ⟨v, rfl, r⟩ := rx.of_one
  cases r
  exact ⟨j, rfl, h1, h2, k _ _ _ G1 H1 (fits_range 0 _) rg1 s1 q1⟩
theorem i_range2 {a b : Expr} {p pos : Pos} (hg : Gl X "range") (hm : X.mg "range" = none) (ha : PA X [a, b] (LA X.K ta)) (hs : starEach [a, b] X.env = [(false, eval a X.env), (false, eval b X.env)] := by rfl) (hs2 : starEach [b] X.env = [(false, eval b X.env)] := by rfl) :
    PI X tg (.Call (.Name "range" p) [a, b] [] pos) (LI X.K (irange2 ta)) := (pi_range2 hg hm ha hs hs2).imp fun σ H R => by
  rintro ⟨st, G, RT, rs, rg, q, k⟩
  refine ⟨st, G, _, rs, rg, q, fun xs vs G1 H1 rx rg1 s1 ⟨i, j, e, h, q1⟩ => ?_⟩
  subst e
  obtain ⟨v, w, rfl, r, r'⟩ := rx.of_two
  cases r
  cases r'
  exact ⟨i, j, rfl, h, k _ _ _ G1 H1 (fits_range i _) rg1 s1 q1⟩

def twipe (st : TSt) : List Nat → TSt
  | [] => st
  | v :: vs => (twipe st vs).set v none
theorem twipe_length (st : TSt) : ∀ vs, (twipe st vs).length = st.length
  | [] => rfl
  | v :: vs => by simp [twipe, twipe_length st vs]
theorem twipe_some {st : TSt} {i : Nat} {x : T} : ∀ {vs : List Nat}, (twipe st vs)[i]? = some (some x) → st[i]? = some (some x) ∧ i ∉ vs
  | [], h => ⟨h, by simp⟩
  | v :: vs, h => by
    unfold twipe at h
    by_cases hi : v = i
    · subst hi
      by_cases hv : v < (twipe st vs).length
      · rw [List.getElem?_set_self hv] at h; cases h
      · rw [List.getElem?_eq_none (by simpa using hv)] at h; cases h
    · rw [List.getElem?_set_ne hi] at h
      obtain ⟨h1, h2⟩ := twipe_some h
      exact ⟨h1, by simp only [List.mem_cons, not_or]; exact ⟨fun e => hi e.symm, h2⟩⟩
theorem wipe_keep {σ : St} {i : Nat} {x : Option V} : ∀ {vs : List Nat}, σ[i]? = some x → i ∉ vs → (wipe σ vs)[i]? = some x
  | [], h, _ => h
  | v :: vs, h, hn => by
    simp only [List.mem_cons, not_or] at hn
    unfold wipe
    rw [List.getElem?_set_ne (fun e => hn.1 e.symm)]
    exact wipe_keep h hn.2
theorem RS.wipe {K H st σ} (h : RS K H st σ) (vs : List Nat) : RS K H (twipe st vs) (L2.wipe σ vs) := by
  refine ⟨by rw [twipe_length, wipe_length]; exact h.1, fun i t e => ?_⟩
  obtain ⟨e1, hn⟩ := twipe_some e
  obtain ⟨v, e2, r⟩ := h.2 i t e1
  exact ⟨v, wipe_keep e2 hn, r⟩

theorem wipe_set_ne {σ : St} {i : Nat} {x : Option V} : ∀ {vs : List Nat}, i ∉ vs → wipe (σ.set i x) vs = (wipe σ vs).set i x
  | [], _ => rfl
  | v :: vs, hn => by
    simp only [List.mem_cons, not_or] at hn
    unfold wipe
    rw [wipe_set_ne hn.2, List.set_comm _ _ hn.1]
theorem wipe_set_in {σ : St} {i : Nat} {x : Option V} : ∀ {vs : List Nat}, i ∈ vs → wipe (σ.set i x) vs = wipe σ vs
  | [], h => by simp at h
  | v :: vs, h => by
    unfold wipe
    by_cases hi : i ∈ vs
    · rw [wipe_set_in hi]
    · have e : i = v := by
        rcases List.mem_cons.mp h with h | h
        · exact h
        · exact absurd h hi
      subst e
      rw [wipe_set_ne hi, List.set_set]
theorem wipe_wipe (σ : St) : ∀ vs : List Nat, wipe (wipe σ vs) vs = wipe σ vs := by
  have key : ∀ (us vs : List Nat), (∀ v ∈ us, v ∈ vs) → ∀ σ, wipe (wipe σ us) vs = wipe σ vs := by
    intro us
    induction us with
    | nil => intro vs _ σ; rfl
    | cons u us ih =>
      intro vs h σ
      show wipe ((wipe σ us).set u none) vs = _
      rw [wipe_set_in (h u (by simp)), ih vs (fun v hv => h v (by simp [hv]))]
  exact fun vs => key vs vs (fun _ h => h) σ

/-- targets that store names of the comprehension alone -/
def KontW (K : PySem.W.Frag) (H : Hp) (vs : List Nat) (σ0 : St) (R : TSt → GH → Prop) (Q : St → Hp → Prop) : Prop := ∀ st σ G' H', RS K H' st σ → RG K H' G' → Stay K H H' → wipe σ vs = wipe σ0 vs → R st G' → Q σ H'
theorem KontW.stay {K H H' vs σ0 R Q} (S : Stay K H H') (k : KontW K H vs σ0 R Q) : KontW K H' vs σ0 R Q := fun t v G1 H1 a b c d f => k t v G1 H1 a b (S.trans c) d f
def LGw (K : PySem.W.Frag) (vs : List Nat) (τ : TTG) : TG := fun v σ H Q => ∃ t st G R, Rep K H t v ∧ RS K H st σ ∧ RG K H G ∧ τ t st G R ∧ KontW K H vs σ R Q
def LGws (K : PySem.W.Frag) (vs : List Nat) (τ : TTGs) : TGs := fun v σ H Q => ∃ t st G R, Reps K H t v ∧ RS K H st σ ∧ RG K H G ∧ τ t st G R ∧ KontW K H vs σ R Q
variable {vs : List Nat} {es : List Expr} {gs : TTGs}
theorem gw_name {i : Nat} {x : Str} (h : PG X (.Name x pos) (gName i)) (hi : i ∈ vs) : PG X (.Name x pos) (LGw X.K vs (gname i)) := h.imp fun v σ H Q => by
  rintro ⟨t, st, G, R, r, rs, rg, q, k⟩
  exact k _ _ G H (rs.set r) rg .refl (wipe_set_in hi) q
theorem gws_nil : PGs X [] (LGws X.K vs gnil) := pgs_nil.imp fun v σ H Q => by
  rintro ⟨t, st, G, R, r, rs, rg, ⟨e, q⟩, k⟩
  subst e
  exact ⟨r.of_nil, k _ _ G H rs rg .refl rfl q⟩
theorem gws_cons (h1 : PG X e (LGw X.K vs g)) (h2 : PGs X es (LGws X.K vs gs)) (hs : (assignEach (e :: es) X.env).map (·.2) = assign e X.env :: (assignEach es X.env).map (·.2) := by rfl) : PGs X (e :: es) (LGws X.K vs (gcons g gs)) := (pgs_cons h1 h2 hs).imp fun v σ H Q => by
  rintro ⟨t, st, G, R, r, rs, rg, ⟨x, xr, e, q⟩, k⟩
  subst e
  obtain ⟨v1, vr, rfl, r1, r2⟩ := r.of_cons
  exact ⟨v1, vr, rfl, x, st, G, _, r1, rs, rg, q, fun st' σ' G' H' rs' rg' s' w' q' => ⟨xr, st', G', R, r2.stay s', rs', rg', q', fun st2 σ2 G2 H2 a b c d f => k st2 σ2 G2 H2 a b (s'.trans c) (d.trans w') f⟩⟩
theorem gw_tup {k : Nat} {n : Nat} (hc : X.calm = true) (h : PGs X es (LGws X.K vs gs)) (hn : (assignEach es X.env).length = n := by rfl) (hst : (assignEach es X.env).findIdx? (·.1) = none := by rfl) : PG X (.Tuple es k pos) (LGw X.K vs (gtup n gs)) := (pg_tup hc h hn hst).imp fun v σ H Q => by
  rintro ⟨t, st, G, R, r, rs, rg, ⟨xs, e, l, q⟩, k⟩
  subst e
  simp only [Rep] at r
  obtain ⟨a, vs', rfl, hs, r⟩ := r
  exact ⟨a, vs', rfl, hs, by rw [r.length]; exact l, xs, st, G, R, r, rs, rg, q, k⟩

def WkG (P : GH → Prop) : GH → Prop := fun G => ∃ G0, Sub G0 G ∧ P G0
theorem WkG.of {P : GH → Prop} {G} (h : P G) : WkG P G := ⟨G, .refl, h⟩
def lcGo (keep : GH → Prop) (g : TTG) (tt : TTT) (te : TTE) (vs : List Nat) (D : Addr) (R : TK) (st : TSt) : List T → GH → Prop
  | [], G => keep G ∧ R (.ref D) G
  | x :: xs, G => keep G ∧ g x (twipe st vs) G fun st2 G2 => tt st2 G2 fun b G3 =>
    if b = true then te st2 G3 fun y G4 => ∃ acc, G4 D = some (.lst acc) ∧ acc.length < sizeLine ∧ WkG (lcGo keep g tt te vs D R st xs) (gupd G4 D (.lst (acc ++ [y]))) else WkG (lcGo keep g tt te vs D R st xs) G3
def tlc (wi : TTI) (g : TTG) (tt : TTT) (te : TTE) (vs : List Nat) : TTE := fun st G R => wi st G fun items keep G1 => ∀ D, G1 D = none → lcGo keep g tt te vs D R st items (gupd G1 D (.lst []))
theorem lcGo_keep {keep g tt te vs D R st xs G} (h : lcGo keep g tt te vs D R st xs G) : keep G := by cases xs <;> exact h.1
variable {tt : TTT}
theorem LE_lc {K σ H Q} (h : LE K (tlc wi g tt te vs) σ H Q) : tLc (LI K wi) (LGw K vs g) (LT K tt) (LE K te) vs σ H Q := by
  obtain ⟨st, G0, R, rs0, rg0, q, k⟩ := h
  refine ⟨st, G0, _, rs0, rg0, q, fun items keep J G1 H1 fit rg1 s1 q1 => fun D hD => ?_⟩
  have q2 := q1 D (rg1.free hD)
  have s2 : Stay K H1 (upd H1 D (.lst [])) := stay_upd (wr_none hD)
  refine ⟨fun i m H' => m = items.length - i ∧ i ≤ items.length ∧ ∃ G, RG K H' G ∧ Stay K H1 H' ∧ lcGo keep g tt te vs D R st (items.drop i) G, ⟨items.length, by simp, Nat.zero_le _, _, rg1.newL hD .nil, s2, q2⟩, ?_⟩
  rintro i m H2 ⟨rfl, hi, G, rg, s, q⟩
  have kp := lcGo_keep q
  by_cases hlt : i < items.length
  · rw [List.drop_eq_getElem_cons hlt] at q
    obtain ⟨_, q⟩ := q
    obtain ⟨go, yl⟩ := fit.go H2 G i items[i] s rg kp (by simp [hlt])
    refine .inr ⟨go, fun H' => ∃ G, RG K H' G ∧ Stay K H1 H' ∧ lcGo keep g tt te vs D R st (items.drop (i + 1)) G, fun H' p' => ⟨items.length - (i + 1), by omega, rfl, hlt, p'⟩, fun x H' y => ?_⟩
    obtain ⟨r', rg', s'⟩ := yl x H' y
    have rsw : RS K H' (twipe st vs) (wipe σ vs) := ((rs0.stay (s1.trans (s.trans s'))).wipe vs)
    refine ⟨items[i], twipe st vs, G, _, r', rsw, rg', q, fun st3 σ3 G3 H3 rs3 rg3 s3 w3 q3 => ?_⟩
    refine ⟨by rw [w3, wipe_wipe], st3, G3, _, rs3, rg3, q3, fun b G4 H4 rg4 s4 q4 => ?_⟩
    have again : ∀ G' H', RG K H' G' → Stay K H4 H' → WkG (lcGo keep g tt te vs D R st (items.drop (i + 1))) G' → ∃ G, RG K H' G ∧ Stay K H1 H' ∧ lcGo keep g tt te vs D R st (items.drop (i + 1)) G := by
      rintro G' H' rg' s5 ⟨G2, sb, w2⟩
      exact ⟨G2, rg'.sub sb, s.trans (s'.trans (s3.trans (s4.trans s5))), w2⟩
    cases b with
    | false => exact again G4 H4 rg4 .refl q4
    | true =>
      refine ⟨st3, G4, _, rs3.stay s4, rg4, q4, fun y vy G5 H5 ry rg5 s5 ⟨acc, ea, la, w5⟩ => ?_⟩
      obtain ⟨va, h5, ra⟩ := rg5.lst ea
      refine ⟨va, h5, by rw [ra.length]; exact la, ?_⟩
      exact again _ _ (rg5.setL h5 (ra.append (.one ry))) (s5.trans (stay_upd (wr_lst h5))) w5
  · have ei : i = items.length := by omega
    subst ei
    rw [List.drop_length] at q
    exact .inl ⟨fit.stop H2 G _ s rg kp rfl, k (.ref D) (.ref D) G H2 rfl rg (s1.trans s) q.2⟩
def LTs (K : PySem.W.Frag) (τ : TTT) : TT := LT K τ
def tyes : TTT := fun _ G R => R true G
theorem ts_nil : PTs X [] (LT X.K tyes) := ⟨fun pins s σ H Q I h => pts_nil.run pins s σ H Q I (by
  obtain ⟨st, G, R, rs, rg, q, k⟩ := h
  exact k true G H rg .refl q)⟩
theorem ts_one {c : Expr} {t : TTT} (h : PT X c (LT X.K t)) : PTs X [c] (LT X.K t) := pts_one h
theorem w_lc {elt tg iter : Expr} {ifs : List Expr} {scope : Scope} {own : List (Str × Nat)} {pos : Pos} (hc : X.calm = true) (hN : X.N.Nodup) (hi : PI X tg iter (LI X.K wi)) (ok : BlkOk X.N X.env.scope scope own)
    (hg : ∀ (s : Shared) (H : Hp) (C : Addr) (cl : List (Str × Addr)) (fp : List Addr), PG (X.blk s H scope (compEnvC scope cl C X.env) fp) tg (LGw X.K (own.map (·.2)) g))
    (ht : ∀ (s : Shared) (H : Hp) (C : Addr) (cl : List (Str × Addr)) (fp : List Addr), PTs (X.blk s H scope (compEnvC scope cl C X.env) fp) ifs (LT X.K tt))
    (he : ∀ (s : Shared) (H : Hp) (C : Addr) (cl : List (Str × Addr)) (fp : List Addr), PE (X.blk s H scope (compEnvC scope cl C X.env) fp) elt (LE X.K te)) (hs : ∀ x, foldedSetIterable iter X.env x = pure x := by intro _; rfl) :
    PE X (.ListComp elt [⟨tg, iter, ifs, 0⟩] scope pos) (LE X.K (tlc wi g tt te (own.map (·.2)))) := (pe_lc hc hN hi ok hg ht he hs).imp fun _ _ _ => LE_lc
theorem s_setLc {i : Nat} {y : Str} {py : Pos} {elt tg iter : Expr} {ifs : List Expr} {scope : Scope} {own : List (Str × Nat)} {pos spos : Pos} (hc : X.calm = true) (hN : X.N.Nodup) (hy : X.N[i]? = some y) (hyl : X.env.scope.names.lookup y = some .local)
    (hsw : swapsWith (.ListComp elt [⟨tg, iter, ifs, 0⟩] scope pos) (some (.Name y py)) spos.line X.env = pure true) (hi : PI X tg iter (LI X.K wi)) (ok : BlkOk X.N X.env.scope scope own)
    (hg : ∀ (s : Shared) (H : Hp) (C : Addr) (cl : List (Str × Addr)) (fp : List Addr), PG (X.blk s H scope (compEnvC scope cl C X.env) fp) tg (LGw X.K (own.map (·.2)) g))
    (ht : ∀ (s : Shared) (H : Hp) (C : Addr) (cl : List (Str × Addr)) (fp : List Addr), PTs (X.blk s H scope (compEnvC scope cl C X.env) fp) ifs (LT X.K tt))
    (he : ∀ (s : Shared) (H : Hp) (C : Addr) (cl : List (Str × Addr)) (fp : List Addr), PE (X.blk s H scope (compEnvC scope cl C X.env) fp) elt (LE X.K te)) (hs : ∀ x, foldedSetIterable iter X.env x = pure x := by intro _; rfl) :
    PS X (.Assign [.Name y py] (.ListComp elt [⟨tg, iter, ifs, 0⟩] scope pos) spos) (LS X.K (tasg (tlc wi g tt te (own.map (·.2))) (gname i))) := (ps_setLc hc hN hy hyl hsw hi ok hg ht he hs).imp fun D σ H => by
  rintro ⟨st, G, R, rs, rg, q, k⟩
  refine LE_lc ⟨st, G, _, rs, rg, q, fun x vx G1 H1 rx rg1 s1 q1 => ?_⟩
  exact k.nx _ _ G1 H1 ((rs.stay s1).set rx) rg1 s1 q1

theorem s_set {i : Nat} {x : Str} {e : Expr} {te : TTE} {pos' : Pos} (hN : X.N.Nodup) (hi : X.N[i]? = some x) (hx : Loc X.env.scope x) (he : PE X e (LE X.K te)) (hs : swapsWith e (some (.Name x pos')) pos.line X.env = pure false := by rfl) (hf : X.fn x = true ∨ X.env.scope.names.lookup x = some .local := by first | exact .inl rfl | exact .inr rfl | assumption) :
    PS X (.Assign [.Name x pos'] e pos) (LS X.K (tasg te (gname i))) := (ps_set hN hi hx he hs hf).imp fun D σ H => by
  rintro ⟨st, G, R, rs, rg, q, k⟩
  refine ⟨st, G, _, rs, rg, q, fun x vx G1 H1 rx rg1 s1 q1 => ?_⟩
  exact k.nx _ _ G1 H1 ((rs.stay s1).set rx) rg1 s1 q1
def taug (i : Nat) (te : TTE) (r : TR2) : TTS := fun D st G => ∃ x, st[i]? = some (some x) ∧ te st G fun y G1 => r x y G1 fun z G2 => D.nx (st.set i (some z)) G2
theorem s_aug {i : Nat} {x : Str} {e : Expr} {te : TTE} {op : Operator} {ti : TIp} {r : TR2} {pos' : Pos} (hN : X.N.Nodup) (hi : X.N[i]? = some x) (hx : Loc X.env.scope x) (he : PE X e (LE X.K te)) (ho : PIp X op ti) (u : Up2 X.K r ti) (hf : X.fn x = true ∨ X.env.scope.names.lookup x = some .local := by first | exact .inl rfl | exact .inr rfl | assumption) :
    PS X (.AugAssign (.Name x pos') op e pos) (LS X.K (taug i te r)) := (ps_aug hN hi hx he ho hf).imp fun D σ H => by
  rintro ⟨st, G, R, rs, rg, ⟨x, e1, q⟩, k⟩
  obtain ⟨v, e2, rv⟩ := rs.2 i x e1
  refine ⟨v, e2, st, G, _, rs, rg, q, fun y vy G1 H1 ry rg1 s1 q1 => ?_⟩
  refine u x y v vy G1 H1 _ _ (rv.stay s1) ry rg1 q1 fun z vz G2 H2 rz rg2 s2 q2 => ?_
  exact k.nx _ _ G2 H2 ((rs.stay (s1.trans s2)).set rz) rg2 (s1.trans s2) q2

abbrev TSp := List T → GH → TK → Prop
def LSp (K : PySem.W.Frag) (sp : TSp) : Sp := fun vs H Q _ => ∃ ts G R, Reps K H ts vs ∧ RG K H G ∧ sp ts G R ∧ Kont K H R Q
def tcall (sp : TSp) (t : TTA) : TTE := fun st G R => t st G fun xs G1 => sp xs G1 R
theorem LE_call {K sp t σ H Q E} (h : LE K (tcall sp t) σ H Q) : tCall (LSp K sp) [] E (LA K t) σ H Q := by
  obtain ⟨st, G, R, rs, rg, q, k⟩ := h
  refine ⟨st, G, _, rs, rg, q, fun xs vs G1 H1 rx rg1 s1 q1 => ?_⟩
  show LSp K sp (vs ++ []) H1 Q E
  rw [List.append_nil]
  exact ⟨xs, G1, R, rx, rg1, q1, k.stay s1⟩
theorem LE_call_nil {K sp σ H Q E} (h : LE K (tcall sp tanil) σ H Q) : tCall (LSp K sp) [] E tNil σ H Q := by
  obtain ⟨st, G, R, rs, rg, q, k⟩ := h
  exact ⟨[], G, R, .nil, rg, q, k⟩
theorem w_call {CX : CXT} {k : Nat} {f : Addr} {fd : FuncData} {ps : List Str} {sp : TSp} {E : XK} {x : Str} {p pos : Pos} {e : Expr} {es : List Expr} {t : TTA} (F : FnOk X.prog X.w X.K X.mg X.base CX k f fd ps (LSp X.K sp)) (hr : Room k X.A) (hg : Gl X x) (hm : X.mg x = some (.ref f)) (hk : PySem.W.keepIn X.K (.ref f) = true) (hb : Binds X.K fd ps [])
    (hx : Passes CX X E) (ha : PA X (e :: es) (LA X.K t)) (hd : (x == ("__debug__" : Str)) = false := by decide)
    (hs : starEach (e :: es) X.env = (false, eval e X.env) :: starEach es X.env := by rfl) (hpl : (backTo pos (starEach es X.env)).any (·.1) = false := by rfl) : PE X (.Call (.Name x p) (e :: es) [] pos) (LE X.K (tcall sp t)) :=
  (pe_call F hr hg hm hk hb .nil hx ha hd hs hpl).imp fun _ _ _ => LE_call
theorem w_call0 {CX : CXT} {k : Nat} {f : Addr} {fd : FuncData} {ps : List Str} {sp : TSp} {E : XK} {x : Str} {p pos : Pos} (F : FnOk X.prog X.w X.K X.mg X.base CX k f fd ps (LSp X.K sp)) (hr : Room k X.A) (hg : Gl X x) (hm : X.mg x = some (.ref f)) (hk : PySem.W.keepIn X.K (.ref f) = true) (hb : Binds X.K fd ps [])
    (hx : Passes CX X E) (hd : (x == ("__debug__" : Str)) = false := by decide) : PE X (.Call (.Name x p) [] [] pos) (LE X.K (tcall sp tanil)) :=
  (pe_call0 F hr hg hm hk hb .nil hx hd).imp fun σ H Q h => LE_call_nil h
end
def WkR (R : TK) : TK := fun v G => ∃ G0, Sub G0 G ∧ R v G0
theorem WkR.of {R : TK} {v G} (h : R v G) : WkR R v G := ⟨G, .refl, h⟩
def startT (N : List Str) (ts : List T) : TSt := ts.map some ++ List.replicate (N.length - ts.length) none
theorem rs_start {K H N ts vs} (r : Reps K H ts vs) : RS K H (startT N ts) (L2.start N vs) := by
  refine ⟨by simp [startT, L2.start, r.length], fun i t e => ?_⟩
  unfold startT at e
  have hi : i < ts.length := by
    rcases Nat.lt_or_ge i ts.length with h | h
    · exact h
    · rw [List.getElem?_append_right (by simpa using h), List.getElem?_replicate] at e
      split at e <;> cases e
  rw [List.getElem?_append_left (by simpa using hi), List.getElem?_map] at e
  cases e2 : ts[i]? with
  | none => rw [e2] at e; cases e
  | some a =>
    rw [e2] at e
    cases e
    obtain ⟨v, e3, q⟩ := r.get e2
    refine ⟨v, ?_, q⟩
    unfold L2.start
    have hv : i < vs.length := by rw [r.length]; exact hi
    rw [List.getElem?_append_left (by simpa using hv), List.getElem?_map, e3]
    rfl
theorem fn_ok {P : Program} {w : World} {K : PySem.W.Frag} {mg : Str → Option Value} {base : Heap} {x qual : Str} {st : Stmt} {f : Addr} {fd : FuncData} {N ps : List Str} {k : Nat} {sp : TSp} (F : Fun K x qual st f fd) (S : FnScope N ps (defScope st)) (len : ∀ ts G R, sp ts G R → ts.length = ps.length)
    (hbody : ∀ (cdv : Value) (A : Around) (outer : List Env) (s : Shared) (H : Hp) (E : XK), Room k (A.deeper (envOfC qual (defScope st) s.heap.objs.size f cdv)) →
      ∃ τ, PSs (cxOf CX0 P w K mg base N qual (defScope st) f cdv A outer s H E).nox (defBody st) (LS K τ) ∧ ∀ ts G R, sp ts G R → τ { nx := fun _ G' => WkR R .non G', rt := WkR R } (startT N ts) G) : FnOk P w K mg base CX0 (k + 1) f fd ps (LSp K sp) := by
  refine F.ok S (fun vs H Q E h => ?_) fun cdv A outer s H vs Q E hr h => ?_
  · obtain ⟨ts, G, R, r, rg, q, k⟩ := h
    rw [r.length]
    exact len _ _ _ q
  · obtain ⟨τ, hp, hq⟩ := hbody cdv A outer s H E hr
    obtain ⟨ts, G, R, r, rg, q, k⟩ := h
    refine ⟨_, hp, startT N ts, G, _, rs_start r, rg, hq ts G R q, ⟨?_, ?_, ?_, ?_⟩⟩
    · rintro st σ G' H' rs rg' s' ⟨G0, sb, q'⟩
      exact k .non .non G0 H' rfl (rg'.sub sb) s' q'
    · rintro t v G' H' rv rg' s' ⟨G0, sb, q'⟩
      exact k t v G0 H' rv (rg'.sub sb) s' q'
    · exact fun _ _ _ _ _ _ _ h => h.elim
    · exact fun _ _ _ _ _ _ _ h => h.elim
end TL

namespace TL
open PySem PySem.Spec PyProof.Rows L2

def vadd : TR2 := fun x y G R => match x, y with
  | .int i, .int j => R (.int (i + j)) G
  | .str a, .str b => a.length + b.length ≤ sizeLine ∧ R (.str (a ++ b)) G
  | .tup a, .tup b => a.length + b.length ≤ sizeLine ∧ R (.tup (a ++ b)) G
  | .ref p, .ref q => ∃ xs ys, G p = some (.lst xs) ∧ G q = some (.lst ys) ∧ xs.length + ys.length ≤ sizeLine ∧ ∀ l, G l = none → R (.ref l) (gupd G l (.lst (xs ++ ys)))
  | _, _ => False
def vI (C : Int → Int → Prop) (f : Int → Int → Int) : TR2 := fun x y G R => match x, y with
  | .int i, .int j => C i j ∧ R (.int (f i j)) G
  | _, _ => False
def vsub : TR2 := fun x y G R => match x, y with
  | .int i, .int j => R (.int (i - j)) G
  | _, _ => False
def vcmp (p : Int → Int → Bool) : TR2 := fun x y G R => match x, y with
  | .int i, .int j => R (.bl (p i j)) G
  | _, _ => False
section
variable {X : Cx} {K : PySem.W.Frag}
theorem up_add : Up2 X.K vadd (fun x y H Q => (rI0 fun i j => .int (i + j)) x y H Q ∨ (∃ i j, x = V.str i ∧ y = V.str j ∧ i.length + j.length ≤ sizeLine ∧ Q (V.str (i ++ j)) H) ∨ rCatA X.K x y H Q ∨ rCat x y H Q) := by
  intro x y vx vy G H R Q rx ry rg h k
  unfold vadd at h
  split at h
  · cases rx; cases ry
    exact .inl ⟨_, _, rfl, rfl, k (.int _) _ G H rfl rg .refl h⟩
  · cases rx; cases ry
    exact .inr (.inl ⟨_, _, rfl, rfl, h.1, k (.str _) _ G H rfl rg .refl h.2⟩)
  · simp only [Rep] at rx ry
    obtain ⟨a, va, rfl, ha, ra⟩ := rx
    obtain ⟨b, vb, rfl, hb, rb⟩ := ry
    obtain ⟨hz, h⟩ := h
    refine .inr (.inr (.inl ⟨a, b, va, vb, rfl, rfl, ha, hb, by rw [ra.length, rb.length]; exact hz, fun e => ?_, fun e1 e2 => ?_, fun e1 e2 p hp => ?_⟩))
    · subst e
      refine k _ _ G H ?_ rg .refl h
      simp only [Rep]
      refine ⟨b, vb, rfl, hb, ?_⟩
      have := ra.append rb
      simpa using this
    · subst e2
      refine k _ _ G H ?_ rg .refl h
      simp only [Rep]
      refine ⟨a, va, rfl, ha, ?_⟩
      have := ra.append rb
      simpa using this
    · exact k _ _ G _ (rep_tup hp (ra.append rb)) (rg.new hp) (stay_upd (wr_none hp)) h
  · cases rx; cases ry
    obtain ⟨xs, ys, e1, e2, hz, h⟩ := h
    obtain ⟨va, h1, r1⟩ := rg.lst e1
    obtain ⟨vb, h2, r2⟩ := rg.lst e2
    refine .inr (.inr (.inr ⟨_, _, va, vb, rfl, rfl, h1, h2, by rw [r1.length, r2.length]; exact hz, fun p hp => ?_⟩))
    exact k (.ref p) _ _ _ rfl (rg.newL hp (r1.append r2)) (stay_upd (wr_none hp)) (h p (rg.free hp))
  · exact h.elim
theorem o_add : OpR X (binaryOp .Add) (fun x y H Q => (rI0 fun i j => .int (i + j)) x y H Q ∨ (∃ i j, x = V.str i ∧ y = V.str j ∧ i.length + j.length ≤ sizeLine ∧ Q (V.str (i ++ j)) H) ∨ rCatA X.K x y H Q ∨ rCat x y H Q) := op_add.or (op_add_str.or (op_catA.or op_cat))
theorem up_I {C f} : Up2 K (vI C f) (rI C fun i j => .int (f i j)) := by
  intro x y vx vy G H R Q rx ry rg h k
  unfold vI at h
  split at h
  · cases rx; cases ry
    exact ⟨_, _, rfl, rfl, h.1, k (.int _) _ G H rfl rg .refl h.2⟩
  · exact h.elim
theorem up_sub : Up2 K vsub (rI0 fun i j => .int (i - j)) := by
  intro x y vx vy G H R Q rx ry rg h k
  unfold vsub at h
  split at h
  · cases rx; cases ry
    exact ⟨_, _, rfl, rfl, k (.int _) _ G H rfl rg .refl h⟩
  · exact h.elim
theorem up_cmp {p : Int → Int → Bool} : Up2 K (vcmp p) (rI0 fun i j => .bl (p i j)) := by
  intro x y vx vy G H R Q rx ry rg h k
  unfold vcmp at h
  split at h
  · cases rx; cases ry
    exact ⟨_, _, rfl, rfl, k (.bl _) _ G H rfl rg .refl h⟩
  · exact h.elim
variable {a b : Expr} {ta tb : TTE} {pos : Pos}
theorem w_add (ha : PE X a (LE X.K ta)) (hb : PE X b (LE X.K tb)) : PE X (.BinOp a .Add b pos) (LE X.K (top vadd ta tb)) := w_op o_add up_add ha hb
theorem w_sub (ha : PE X a (LE X.K ta)) (hb : PE X b (LE X.K tb)) : PE X (.BinOp a .Sub b pos) (LE X.K (top vsub ta tb)) := w_op op_sub up_sub ha hb
theorem w_mul (ha : PE X a (LE X.K ta)) (hb : PE X b (LE X.K tb)) : PE X (.BinOp a .Mult b pos) (LE X.K (top (vI CMul (· * ·)) ta tb)) := w_op op_mul up_I ha hb
theorem w_fdiv (ha : PE X a (LE X.K ta)) (hb : PE X b (LE X.K tb)) : PE X (.BinOp a .FloorDiv b pos) (LE X.K (top (vI CDiv (· / ·)) ta tb)) := w_op op_fdiv up_I ha hb
theorem w_mod (ha : PE X a (LE X.K ta)) (hb : PE X b (LE X.K tb)) : PE X (.BinOp a .Mod b pos) (LE X.K (top (vI (fun _ j => 0 < j) (· % ·)) ta tb)) := w_op op_mod up_I ha hb
theorem w_pow (ha : PE X a (LE X.K ta)) (hb : PE X b (LE X.K tb)) : PE X (.BinOp a .Pow b pos) (LE X.K (top (vI CPow fun i j => i ^ j.toNat) ta tb)) := w_op op_pow up_I ha hb
theorem w_lt (ha : PE X a (LE X.K ta)) (hb : PE X b (LE X.K tb)) : PE X (.Compare a [.Lt] [b] pos) (LE X.K (top (vcmp fun i j => decide (i < j)) ta tb)) := w_cmp op_lt up_cmp ha hb (nomark _)
theorem w_le (ha : PE X a (LE X.K ta)) (hb : PE X b (LE X.K tb)) : PE X (.Compare a [.LtE] [b] pos) (LE X.K (top (vcmp fun i j => decide (i ≤ j)) ta tb)) := w_cmp op_le up_cmp ha hb (nomark _)
theorem w_gt (ha : PE X a (LE X.K ta)) (hb : PE X b (LE X.K tb)) : PE X (.Compare a [.Gt] [b] pos) (LE X.K (top (vcmp fun i j => decide (j < i)) ta tb)) := w_cmp op_gt up_cmp ha hb (nomark _)
theorem w_ge (ha : PE X a (LE X.K ta)) (hb : PE X b (LE X.K tb)) : PE X (.Compare a [.GtE] [b] pos) (LE X.K (top (vcmp fun i j => decide (j ≤ i)) ta tb)) := w_cmp op_ge up_cmp ha hb (nomark _)
def vneg : TR1 := fun x G R => match x with
  | .int i => R (.int (-i)) G
  | _ => False
def tun (r : TR1) (ta : TTE) : TTE := fun st G R => ta st G fun x G1 => r x G1 R
theorem w_neg (ha : PE X a (LE X.K ta)) : PE X (.UnaryOp .USub a pos) (LE X.K (tun vneg ta)) := (pe_un un_neg ha).imp fun σ H Q => by
  rintro ⟨st, G, R, rs, rg, q, k⟩
  refine ⟨st, G, _, rs, rg, q, fun x vx G1 H1 rx rg1 s1 q1 => ?_⟩
  unfold vneg at q1
  split at q1
  · cases rx
    exact ⟨_, rfl, k (.int _) _ G1 H1 rfl rg1 s1 q1⟩
  · exact q1.elim

/-- flat things of which neither can be a truth where the other is a number -/
def scalT : T → T → Option Bool
  | .non, .non => some true
  | .non, .int _ => some false
  | .int _, .non => some false
  | .non, .bl _ => some false
  | .bl _, .non => some false
  | .non, .str _ => some false
  | .str _, .non => some false
  | .int i, .int j => some (decide (i = j))
  | .bl i, .bl j => some (decide (i = j))
  | .str i, .str j => some (decide (i = j))
  | .int _, .str _ => some false
  | .str _, .int _ => some false
  | .bl _, .str _ => some false
  | .str _, .bl _ => some false
  | _, _ => none
theorem scal_up {H x y vx vy b} (rx : Rep K H x vx) (ry : Rep K H y vy) (h : scalT x y = some b) : scal vx vy = true ∧ decide (vx = vy) = b := by
  unfold scalT at h
  split at h <;> first | (cases rx; cases ry; cases h; refine ⟨rfl, ?_⟩; first | exact decide_eq_true rfl | exact decide_eq_false (fun z => nomatch z) | (apply decide_eq_decide.mpr; constructor <;> intro z <;> first | (cases z; rfl) | rw [z])) | cases h
/-- what a tree says as data -/
inductive Dat (G : GH) : T → PyData → Prop
  | non : Dat G .non .none
  | bl (b : Bool) : Dat G (.bl b) (.bool b)
  | int (i : Int) : Dat G (.int i) (.int i)
  | str (x : Str) : Dat G (.str x) (.str x)
  | tup {xs : List T} {ds : List PyData} : xs.length = ds.length → (∀ (i : Nat) t d, xs[i]? = some t → ds[i]? = some d → Dat G t d) → Dat G (.tup xs) (.tuple ds)
  | fl {xs : List T} {ds : List PyData} : xs.length = ds.length → (∀ (i : Nat) t d, xs[i]? = some t → ds[i]? = some d → Dat G t d) → Dat G (.fl xs) (.list ds)
  | lst {p : Addr} {xs : List T} {ds : List PyData} : G p = some (.lst xs) → xs.length = ds.length → (∀ (i : Nat) t d, xs[i]? = some t → ds[i]? = some d → Dat G t d) → Dat G (.ref p) (.list ds)
theorem dpAll_of {H : Hp} : ∀ {vs : List V} {ds : List PyData}, vs.length = ds.length → (∀ (i : Nat) v d, vs[i]? = some v → ds[i]? = some d → Dp K H v d) → DpAll K H vs ds
  | [], [], _, _ => .nil
  | v :: vs, d :: ds, hl, h => .cons (h 0 v d rfl rfl) (dpAll_of (by simpa using hl) fun i v d e1 e2 => h (i + 1) v d (by simpa using e1) (by simpa using e2))
theorem Reps.getV {H ts} {vs : List V} {i : Nat} {v : V} (h : Reps K H ts vs) (e : vs[i]? = some v) : ∃ t, ts[i]? = some t ∧ Rep K H t v := by
  have hl : i < vs.length := by
    rcases Nat.lt_or_ge i vs.length with h' | h'
    · exact h'
    · rw [List.getElem?_eq_none h'] at e; cases e
  have hl2 : i < ts.length := by rw [← h.length]; exact hl
  obtain ⟨v', e', r⟩ := h.get (i := i) (t := ts[i]) (by simp [hl2])
  rw [e] at e'
  cases e'
  exact ⟨_, by simp [hl2], r⟩
theorem Dat.up {H G} (rg : RG K H G) {t d} (h : Dat G t d) : ∀ {v}, Rep K H t v → Dp K H v d := by
  induction h with
  | non => intro v r; cases r; exact .non
  | bl b => intro v r; cases r; exact .bl b
  | int i => intro v r; cases r; exact .int i
  | str x => intro v r; cases r; exact .str x
  | tup hl _ ih =>
    intro v r
    simp only [Rep] at r
    obtain ⟨a, vs, rfl, hs, r⟩ := r
    refine .tup hs (dpAll_of (r.length.trans hl) fun i v d e1 e2 => ?_)
    obtain ⟨t, e3, r3⟩ := r.getV e1
    exact ih i t d e3 e2 r3
  | fl hl _ ih =>
    intro v r
    simp only [Rep] at r
    obtain ⟨a, vs, rfl, hs, r⟩ := r
    refine .lst hs.seq (dpAll_of (r.length.trans hl) fun i v d e1 e2 => ?_)
    obtain ⟨t, e3, r3⟩ := r.getV e1
    exact ih i t d e3 e2 r3
  | lst e hl _ ih =>
    intro v r
    cases r
    obtain ⟨vs, hs, r⟩ := rg.lst e
    refine .lst (.of hs) (dpAll_of (r.length.trans hl) fun i v d e1 e2 => ?_)
    obtain ⟨t, e3, r3⟩ := r.getV e1
    exact ih i t d e3 e2 r3
def veq : TR2 := fun x y G R => match scalT x y with
  | some b => R (.bl b) G
  | none => ∃ d e, Dat G x d ∧ Dat G y e ∧ SeqAt.shaped d = true ∧ SeqAt.shaped e = true ∧ R (.bl (PyData.eqv d e)) G
def vne : TR2 := fun x y G R => match scalT x y with
  | some b => R (.bl (!b)) G
  | none => ∃ d e, Dat G x d ∧ Dat G y e ∧ SeqAt.shaped d = true ∧ SeqAt.shaped e = true ∧ R (.bl (!PyData.eqv d e)) G
theorem up_eq : Up2 K veq (fun x y H Q => rEq x y H Q ∨ rEqD K x y H Q) := by
  intro x y vx vy G H R Q rx ry rg h k
  unfold veq at h
  split at h
  · rename_i b e
    obtain ⟨h1, h2⟩ := scal_up rx ry e
    exact .inl ⟨h1, k (.bl b) _ G H (by rw [h2]; rfl) rg .refl h⟩
  · obtain ⟨d, e, hd, he, s1, s2, q⟩ := h
    exact .inr ⟨d, e, hd.up rg rx, he.up rg ry, s1, s2, k (.bl _) _ G H rfl rg .refl q⟩
theorem up_ne : Up2 K vne (fun x y H Q => rNe x y H Q ∨ rNeD K x y H Q) := by
  intro x y vx vy G H R Q rx ry rg h k
  unfold vne at h
  split at h
  · rename_i b e
    obtain ⟨h1, h2⟩ := scal_up rx ry e
    exact .inl ⟨h1, k (.bl (!b)) _ G H (by rw [h2]; rfl) rg .refl h⟩
  · obtain ⟨d, e, hd, he, s1, s2, q⟩ := h
    exact .inr ⟨d, e, hd.up rg rx, he.up rg ry, s1, s2, k (.bl _) _ G H rfl rg .refl q⟩
theorem w_eq {n : Nat} (hr : Room n X.A) (ha : PE X a (LE X.K ta)) (hb : PE X b (LE X.K tb)) : PE X (.Compare a [.Eq] [b] pos) (LE X.K (top veq ta tb)) := w_cmp (op_eq.or (op_eqD hr.units)) up_eq ha hb (nomark _)
theorem w_ne {n : Nat} (hr : Room n X.A) (ha : PE X a (LE X.K ta)) (hb : PE X b (LE X.K tb)) : PE X (.Compare a [.NotEq] [b] pos) (LE X.K (top vne ta tb)) := w_cmp (op_ne.or (op_neD hr.units)) up_ne ha hb (nomark _)

def keyT : T → Option Key
  | .int i => some (.inl i)
  | .str x => some (.inr x)
  | _ => none
def lookT {κ : Type} [DecidableEq κ] (kvs : List (κ × T)) (k : κ) : Option T := (kvs.find? fun kv => decide (kv.1 = k)).map (·.2)
def putT {κ : Type} [DecidableEq κ] (kvs : List (κ × T)) (k : κ) (t : T) : List (κ × T) :=
  if (kvs.any fun kv => decide (kv.1 = k)) = true then kvs.map (fun kv => if kv.1 = k then (kv.1, t) else kv) else kvs ++ [(k, t)]
theorem keyT_up {H x v k} (r : Rep K H x v) (e : keyT x = some k) : v = kV k := by
  cases x with
  | int i => cases e; cases r; rfl
  | str i => cases e; cases r; rfl
  | _ => cases e
theorem look_up {κ : Type} [DecidableEq κ] {H} {k : κ} : ∀ {kvs : List (κ × T)} {ws : List (κ × V)}, KVR K H kvs ws → (∀ t, lookT kvs k = some t → ∃ v, valV ws k = some v ∧ Rep K H t v) ∧ (lookT kvs k = none → valV ws k = none)
  | _, _, .nil => ⟨fun t e => (nomatch (show (none : Option T) = some t from e)), fun _ => rfl⟩
  | _, _, .cons (a := a) (b := b) q rest => by
    obtain ⟨e1, r1⟩ := q
    have ih := look_up (k := k) rest
    unfold lookT valV at *
    simp only [List.find?_cons]
    rw [← e1]
    by_cases h : a.1 = k
    · rw [decide_eq_true h]
      exact ⟨fun t e => ⟨b.2, rfl, by cases e; exact r1⟩, fun e => by cases e⟩
    · rw [decide_eq_false h]
      exact ih
theorem any_up {κ : Type} [DecidableEq κ] {H} {k : κ} : ∀ {kvs : List (κ × T)} {ws : List (κ × V)}, KVR K H kvs ws → (kvs.any fun kv => decide (kv.1 = k)) = (ws.any fun kv => decide (kv.1 = k))
  | _, _, .nil => rfl
  | _, _, .cons q rest => by simp only [List.any_cons, q.1, any_up rest]
theorem put_upA {κ : Type} [DecidableEq κ] {H} {k : κ} {t v} (rv : Rep K H t v) : ∀ {kvs : List (κ × T)} {ws : List (κ × V)}, KVR K H kvs ws → KVR K H (kvs.map (fun kv => if kv.1 = k then (kv.1, t) else kv)) (ws.map (fun kv => if kv.1 = k then (kv.1, v) else kv))
  | _, _, .nil => .nil
  | _, _, .cons q rest => by
    simp only [List.map_cons]
    refine .cons ?_ (put_upA rv rest)
    rw [q.1]
    split
    · exact ⟨rfl, rv⟩
    · exact q
theorem put_upB {κ : Type} {H} {k : κ} {t v} (rv : Rep K H t v) : ∀ {kvs : List (κ × T)} {ws : List (κ × V)}, KVR K H kvs ws → KVR K H (kvs ++ [(k, t)]) (ws ++ [(k, v)])
  | _, _, .nil => .cons ⟨rfl, rv⟩ .nil
  | _, _, .cons q rest => .cons q (put_upB rv rest)
theorem put_up {κ : Type} [DecidableEq κ] {H} {kvs : List (κ × T)} {ws : List (κ × V)} {k : κ} {t v} (r : KVR K H kvs ws) (rv : Rep K H t v) : KVR K H (putT kvs k t) (putK ws k v) := by
  unfold putT putK
  rw [any_up r]
  split
  · exact put_upA rv r
  · exact put_upB rv r
theorem KVR.length {κ : Type} {H} {kvs : List (κ × T)} {ws : List (κ × V)} (r : KVR K H kvs ws) : ws.length = kvs.length := (Paired.length r).symm

def atG (G : GH) (x y : T) (t : T) : Prop := match x, y with
  | .tup xs, .int i => atI xs i = some t
  | .fl xs, .int i => atI xs i = some t
  | .str z, .int i => z.length ≤ sizeLine ∧ ∃ c, atI z.cps.toList i = some c ∧ t = .str ⟨#[c]⟩
  | .ref p, _ => (∃ i xs, y = .int i ∧ G p = some (.lst xs) ∧ atI xs i = some t) ∨ ∃ kvs k, gd G p kvs ∧ keyT y = some k ∧ lookT kvs k = some t
  | _, _ => False
def vix : TR2 := fun x y G R => ∃ t, atG G x y t ∧ R t G
theorem atI_up {H xs vs i t} (r : Reps K H xs vs) (e : atI xs i = some t) : ∃ v, atI vs i = some v ∧ Rep K H t v := by
  unfold atI at e ⊢
  rw [r.length]
  cases h : ixN xs.length i with
  | none => rw [h] at e; cases e
  | some j =>
    rw [h] at e
    exact r.get e
def rIxD : R2 := fun x y H Q => ∃ a v, x = .ref a ∧ DGet H a y (some v) ∧ Q v H
theorem ix_dict (hu : X.A.units + 1 < cLine) : IxR X rIxD := by
  intro value slice pins s σ H x y v u Q I rx ry h hs
  obtain ⟨a, z, rfl, g, q⟩ := h
  cases rx
  exact tail_any (dict_typeIs I g) PySem.F.slot_dict_getitem.lookup (d_getItem hu I g ry fun w' s3 I3 rw' => ⟨z, H, I3, rw', q⟩) hs
theorem up_ix : Up2 K vix (fun x y H Q => rIxL K x y H Q ∨ rIxT K x y H Q ∨ rIxS x y H Q ∨ rIxD x y H Q) := by
  intro x y vx vy G H R Q rx ry rg ⟨t, h, q⟩ k
  unfold atG at h
  split at h
  · simp only [Rep] at rx
    obtain ⟨a, va, rfl, ha, ra⟩ := rx
    cases ry
    obtain ⟨v, e, r⟩ := atI_up ra h
    exact .inr (.inl ⟨a, va, _, v, rfl, rfl, ha, e, k t v G H r rg .refl q⟩)
  · simp only [Rep] at rx
    obtain ⟨a, va, rfl, ha, ra⟩ := rx
    cases ry
    obtain ⟨v, e, r⟩ := atI_up ra h
    exact .inl ⟨a, va, _, v, rfl, rfl, ha.seq, e, k t v G H r rg .refl q⟩
  · cases rx; cases ry
    obtain ⟨hz, c, e, rfl⟩ := h
    exact .inr (.inr (.inl ⟨_, _, c, rfl, rfl, hz, e, k (.str _) _ G H rfl rg .refl q⟩))
  · cases rx
    rcases h with ⟨i, xs, rfl, e, h⟩ | ⟨kvs, ky, e, ek, h⟩
    · cases ry
      obtain ⟨va, h1, ra⟩ := rg.lst e
      obtain ⟨v, e, r⟩ := atI_up ra h
      exact .inl ⟨_, va, _, v, rfl, rfl, .of h1, e, k t v G H r rg .refl q⟩
    · obtain ⟨ws, h1, ra⟩ := rg.gd e
      obtain ⟨v, e1, r⟩ := (look_up ra).1 t h
      obtain rfl := keyT_up ry ek
      exact .inr (.inr (.inr ⟨_, v, rfl, by rw [← e1]; exact .inl ⟨ws, ky, h1, rfl, rfl⟩, k t v G H r rg .refl q⟩))
  · exact h.elim
theorem w_sub1 {n : Nat} (hr : Room n X.A) (ha : PE X a (LE X.K ta)) (hb : PE X b (LE X.K tb)) (hs : PlainIx b) : PE X (.Subscript a b pos) (LE X.K (top vix ta tb)) := w_ix (ix_list.or (ix_tup.or (ix_str.or (ix_dict (hu_of hr))))) up_ix ha hb hs

def inT (x : T) (ys : List T) : Bool := ys.any fun y => scalT y x == some true
def vin (neg : Bool) : TR2 := fun x y G R => match y with
  | .tup ys => (ys.all fun y => (scalT y x).isSome) = true ∧ (scalT x x).isSome = true ∧ R (.bl (if neg then !inT x ys else inT x ys)) G
  | .fl ys => (ys.all fun y => (scalT y x).isSome) = true ∧ (scalT x x).isSome = true ∧ R (.bl (if neg then !inT x ys else inT x ys)) G
  | .ref p => (∃ ys, G p = some (.lst ys) ∧ (ys.all fun y => (scalT y x).isSome) = true ∧ (scalT x x).isSome = true ∧ R (.bl (if neg then !inT x ys else inT x ys)) G) ∨
      (∃ kvs k, gd G p kvs ∧ keyT x = some k ∧ R (.bl (if neg then !(lookT kvs k).isSome else (lookT kvs k).isSome)) G) ∨ ∃ kvs, gd G p kvs ∧ x = .non ∧ R (.bl neg) G
  | .str z => ∃ c, x = .str ⟨#[c]⟩ ∧ R (.bl (if neg then !decide (c ∈ z.cps.toList) else decide (c ∈ z.cps.toList))) G
  | _ => False
def rInDN (neg : Bool) : R2 := fun x y H Q => (∃ a o, y = .ref a ∧ DGet H a x o ∧ Q (.bl (if neg then !o.isSome else o.isSome)) H) ∨ ∃ a kvs, y = .ref a ∧ x = .non ∧ Rd H a (.dK kvs) ∧ Q (.bl neg) H
theorem op_inDN (hu : X.A.units + 1 < cLine) : OpR X (compareOp .In) (rInDN false) := by
  intro pins s σ H x y v u Q I rx ry h
  rcases h with ⟨a, o, ex, g, q⟩ | ⟨a, kvs, ey, ex, g, q⟩
  · subst ex
    obtain rfl : u = Value.ref a := ry
    exact d_in hu I g rx fun s3 I3 => ⟨.bl o.isSome, H, I3, rfl, q⟩
  · subst ex ey
    obtain rfl : u = Value.ref a := ry
    obtain rfl : v = Value.none := rx
    exact d_inNone I g fun s3 I3 => ⟨.bl false, H, I3, rfl, q⟩
theorem op_notInDN (hu : X.A.units + 1 < cLine) : OpR X (compareOp .NotIn) (rInDN true) := by
  intro pins s σ H x y v u Q I rx ry h
  rcases h with ⟨a, o, ex, g, q⟩ | ⟨a, kvs, ey, ex, g, q⟩
  · subst ex
    obtain rfl : u = Value.ref a := ry
    exact d_notIn hu I g rx fun s3 I3 => ⟨.bl (!o.isSome), H, I3, rfl, q⟩
  · subst ex ey
    obtain rfl : u = Value.ref a := ry
    obtain rfl : v = Value.none := rx
    exact d_notInNone I g fun s3 I3 => ⟨.bl true, H, I3, rfl, q⟩
theorem flat_of {H x y v b} (r : Rep K H x v) (e : scalT x y = some b) : flatV v = true := by
  cases x <;> first | (cases r; rfl) | (cases y <;> cases e)
theorem flat_of' {H x y v b} (r : Rep K H x v) (e : scalT y x = some b) : flatV v = true := by
  cases x <;> first | (cases r; rfl) | (cases y <;> cases e)
theorem eqV_up {H x y vx vy b} (rx : Rep K H x vx) (ry : Rep K H y vy) (e : scalT y x = some b) : eqV vy vx = b := by
  unfold scalT at e
  split at e <;> first | (cases rx; cases ry; cases e; first | rfl | (unfold eqV; exact Bool.beq_eq_decide_eq _ _) | (unfold eqV; rw [beq_eq_decide])) | cases e
theorem inV_up {H x vx} (rx : Rep K H x vx) : ∀ {ys : List T} {vs : List V}, Reps K H ys vs → (ys.all fun y => (scalT y x).isSome) = true → vs.all flatV = true ∧ inV vx vs = inT x ys
  | [], _, r, _ => by cases r.of_nil; exact ⟨rfl, rfl⟩
  | y :: ys, _, r, h => by
    obtain ⟨v, r', rfl, r1, r2⟩ := r.of_cons
    simp only [List.all_cons, Bool.and_eq_true] at h
    obtain ⟨h1, h2⟩ := h
    obtain ⟨b, hb⟩ := Option.isSome_iff_exists.mp h1
    obtain ⟨i1, i2⟩ := inV_up rx r2 h2
    refine ⟨by simp only [List.all_cons, flat_of r1 hb, i1, Bool.and_self], ?_⟩
    unfold inV inT at *
    simp only [List.any_cons, eqV_up rx r1 hb, i2, hb]
    cases b <;> rfl
theorem up_in {neg : Bool} : Up2 K (vin neg) (fun x y H Q => rIn K neg x y H Q ∨ rInDN neg x y H Q ∨ (∃ (c : Nat) (z : Str), x = .str ⟨#[c]⟩ ∧ y = .str z ∧ Q (.bl (if neg then !decide (c ∈ z.cps.toList) else decide (c ∈ z.cps.toList))) H)) := by
  intro x y vx vy G H R Q rx ry rg h k
  unfold vin at h
  have flatx : (scalT x x).isSome = true → flatV vx = true := fun h => by
    obtain ⟨b, hb⟩ := Option.isSome_iff_exists.mp h
    exact flat_of rx hb
  split at h
  · simp only [Rep] at ry
    obtain ⟨a, va, rfl, ha, ra⟩ := ry
    obtain ⟨h1, h2, q⟩ := h
    obtain ⟨i1, i2⟩ := inV_up rx ra h1
    exact .inl ⟨a, va, rfl, .inr ha, flatx h2, i1, by rw [i2]; exact k (.bl _) _ G H rfl rg .refl q⟩
  · simp only [Rep] at ry
    obtain ⟨a, va, rfl, ha, ra⟩ := ry
    obtain ⟨h1, h2, q⟩ := h
    obtain ⟨i1, i2⟩ := inV_up rx ra h1
    exact .inl ⟨a, va, rfl, .inl ha.seq, flatx h2, i1, by rw [i2]; exact k (.bl _) _ G H rfl rg .refl q⟩
  · cases ry
    rcases h with ⟨ys, e, h1, h2, q⟩ | ⟨kvs, ky, e, ek, q⟩ | ⟨kvs, e, rfl, q⟩
    · obtain ⟨va, h3, ra⟩ := rg.lst e
      obtain ⟨i1, i2⟩ := inV_up rx ra h1
      exact .inl ⟨_, va, rfl, .inl (.of h3), flatx h2, i1, by rw [i2]; exact k (.bl _) _ G H rfl rg .refl q⟩
    · obtain ⟨ws, h3, ra⟩ := rg.gd e
      obtain rfl := keyT_up rx ek
      refine .inr (.inl (.inl ⟨_, valV ws ky, rfl, .inl ⟨ws, ky, h3, rfl, rfl⟩, ?_⟩))
      have e2 : (valV ws ky).isSome = (lookT kvs ky).isSome := by
        cases hl : lookT kvs ky with
        | none => rw [(look_up ra).2 hl]; rfl
        | some t =>
          obtain ⟨v, e1, _⟩ := (look_up ra).1 t hl
          rw [e1]
          rfl
      rw [e2]
      exact k (.bl _) _ G H rfl rg .refl q
    · cases rx
      obtain ⟨ws, h3, ra⟩ := rg.gd e
      exact .inr (.inl (.inr ⟨_, ws, rfl, rfl, h3, k (.bl _) _ G H rfl rg .refl q⟩))
  · cases ry
    obtain ⟨c, rfl, q⟩ := h
    cases rx
    exact .inr (.inr ⟨c, _, rfl, rfl, k (.bl _) _ G H rfl rg .refl q⟩)
  · exact h.elim
theorem w_in {n : Nat} (hr : Room n X.A) (ha : PE X a (LE X.K ta)) (hb : PE X b (LE X.K tb)) (h1 : behindInMarks .In b = false) : PE X (.Compare a [.In] [b] pos) (LE X.K (top (vin false) ta tb)) := w_cmp (op_in_seq.or ((op_inDN (hu_of hr)).or op_in_sign)) up_in ha hb h1
theorem w_notin {n : Nat} (hr : Room n X.A) (ha : PE X a (LE X.K ta)) (hb : PE X b (LE X.K tb)) (h1 : behindInMarks .NotIn b = false) : PE X (.Compare a [.NotIn] [b] pos) (LE X.K (top (vin true) ta tb)) := w_cmp (op_notIn_seq.or ((op_notInDN (hu_of hr)).or op_notIn_sign)) up_in ha hb h1
end
end TL

namespace TL
open PySem PySem.Spec PyProof.Rows L2

section
variable {X : Cx} {K : PySem.W.Frag} {e a b o : Expr} {es : List Expr} {ta tb te to : TTE} {t : TTA} {pos apos cpos : Pos}

def tcb (r : TRN) (t : TTA) : TTE := fun st G R => t st G fun xs G1 => r xs G1 R
theorem LE_cb {K r r' t σ H Q} (u : UpN K r r') (h : LE K (tcb r t) σ H Q) : tCB r' (LA K t) σ H Q := by
  obtain ⟨st, G, R, rs, rg, q, k⟩ := h
  exact ⟨st, G, _, rs, rg, q, fun xs vs G1 H1 rx rg1 s1 q1 => u xs vs G1 H1 R Q rx rg1 q1 (k.stay s1)⟩
theorem w_callB {x : Str} {p : Pos} {id : String} {r : TRN} {r' : List V → Hp → VK → Prop} (hc : CallR X (.builtin id) r') (u : UpN X.K r r') (hg : Gl X x) (hm : X.mg x = none) (hv : bootBuiltins x = some (.builtin id)) (ha : PA X (e :: es) (LA X.K t)) (h1 : x ≠ "__name__" := by decide) (hd : (x == ("__debug__" : Str)) = false := by decide)
    (hs : starEach (e :: es) X.env = (false, eval e X.env) :: starEach es X.env := by rfl) (hpl : (backTo pos (starEach es X.env)).any (·.1) = false := by rfl) : PE X (.Call (.Name x p) (e :: es) [] pos) (LE X.K (tcb r t)) :=
  (pe_callB hc hg hm hv ha h1 hd hs hpl).imp fun _ _ _ => LE_cb u
theorem w_callTy {x : Str} {p : Pos} {Ty : String} {r : TRN} {r' : List V → Hp → VK → Prop} (hc : CallR X (.type Ty) r') (u : UpN X.K r r') (hg : Gl X x) (hm : X.mg x = none) (hv : bootBuiltins x = some (.type Ty)) (ha : PA X (e :: es) (LA X.K t)) (h1 : x ≠ "__name__" := by decide) (hd : (x == ("__debug__" : Str)) = false := by decide)
    (hs : starEach (e :: es) X.env = (false, eval e X.env) :: starEach es X.env := by rfl) (hpl : (backTo pos (starEach es X.env)).any (·.1) = false := by rfl) : PE X (.Call (.Name x p) (e :: es) [] pos) (LE X.K (tcb r t)) :=
  (pe_callTy hc hg hm hv ha h1 hd hs hpl).imp fun _ _ _ => LE_cb u
/-- len -/
def vlen : TRN := fun xs G R => match xs with
  | [.tup ys] => R (.int ys.length) G
  | [.fl ys] => R (.int ys.length) G
  | [.str z] => z.length ≤ sizeLine ∧ R (.int z.length) G
  | [.ref p] => (∃ ys, G p = some (.lst ys) ∧ R (.int ys.length) G) ∨ ∃ kvs, G p = some (.dK kvs) ∧ R (.int kvs.length) G
  | _ => False
theorem up_len : UpN K vlen (fun xs H Q => (∃ p ys, xs = [V.ref p] ∧ (SqL K H p ys ∨ SqT K H p ys) ∧ Q (V.int ys.length) H) ∨ (∃ z : Str, xs = [V.str z] ∧ z.length ≤ sizeLine ∧ Q (V.int z.length) H) ∨ (∃ a kvs, xs = [V.ref a] ∧ H a = some (.dK kvs) ∧ Q (.int kvs.length) H)) := by
  intro xs vs G H R Q rx rg h k
  unfold vlen at h
  split at h
  · obtain ⟨v, rfl, r⟩ := rx.of_one
    simp only [Rep] at r
    obtain ⟨p, vs, rfl, hs, r⟩ := r
    exact .inl ⟨p, vs, rfl, .inr hs, k (.int _) _ G H (by rw [r.length]; rfl) rg .refl h⟩
  · obtain ⟨v, rfl, r⟩ := rx.of_one
    simp only [Rep] at r
    obtain ⟨p, vs, rfl, hs, r⟩ := r
    exact .inl ⟨p, vs, rfl, .inl hs.seq, k (.int _) _ G H (by rw [r.length]; rfl) rg .refl h⟩
  · obtain ⟨v, rfl, r⟩ := rx.of_one
    cases r
    exact .inr (.inl ⟨_, rfl, h.1, k (.int _) _ G H rfl rg .refl h.2⟩)
  · obtain ⟨v, rfl, r⟩ := rx.of_one
    cases r
    rcases h with ⟨ys, e, q⟩ | ⟨ys, e, q⟩
    · obtain ⟨vs, h1, r⟩ := rg.lst e
      exact .inl ⟨_, vs, rfl, .inl (.of h1), k (.int _) _ G H (by rw [r.length]; rfl) rg .refl q⟩
    · obtain ⟨vs, h1, r⟩ := rg.dK e
      exact .inr (.inr ⟨_, vs, rfl, h1, k (.int _) _ G H (by rw [r.length]; rfl) rg .refl q⟩)
  · exact h.elim
theorem w_len {p : Pos} (hg : Gl X "len") (hm : X.mg "len" = none) (ha : PA X [e] (LA X.K t)) (hs : starEach [e] X.env = (false, eval e X.env) :: starEach [] X.env := by rfl) (hpl : (backTo pos (starEach [] X.env)).any (·.1) = false := by rfl) : PE X (.Call (.Name "len" p) [e] [] pos) (LE X.K (tcb vlen t)) :=
  w_callB (call_len_seq.or (call_len_str.or call_lenD)) up_len hg hm PySem.boot_len ha (hs := hs) (hpl := hpl)
/-- int -/
def vint : TRN := fun xs G R => match xs with
  | [.int i] => R (.int i) G
  | [.bl k] => R (.int (if k = true then 1 else 0)) G
  | _ => False
theorem up_int : UpN K vint (fun xs H Q => (∃ i, xs = [V.int i] ∧ Q (.int i) H) ∨ (∃ k, xs = [V.bl k] ∧ Q (.int (if k = true then 1 else 0)) H)) := by
  intro xs vs G H R Q rx rg h k
  unfold vint at h
  split at h
  · obtain ⟨v, rfl, r⟩ := rx.of_one
    cases r
    exact .inl ⟨_, rfl, k (.int _) _ G H rfl rg .refl h⟩
  · obtain ⟨v, rfl, r⟩ := rx.of_one
    cases r
    exact .inr ⟨_, rfl, k (.int _) _ G H rfl rg .refl h⟩
  · exact h.elim
theorem w_intc {p : Pos} (hg : Gl X "int") (hm : X.mg "int" = none) (ha : PA X [e] (LA X.K t)) (hs : starEach [e] X.env = (false, eval e X.env) :: starEach [] X.env := by rfl) (hpl : (backTo pos (starEach [] X.env)).any (·.1) = false := by rfl) : PE X (.Call (.Name "int" p) [e] [] pos) (LE X.K (tcb vint t)) :=
  w_callTy call_int1 up_int hg hm (by decide +kernel) ha (hs := hs) (hpl := hpl)
/-- tuple(..) of a list or a tuple -/
def vtuple : TRN := fun xs G R => match xs with
  | [.tup ys] => R (.tup ys) G
  | [.fl ys] => R (.tup ys) G
  | [.ref p] => ∃ ys, G p = some (.lst ys) ∧ R (.tup ys) G
  | _ => False
theorem up_tuple : UpN K vtuple (fun xs H Q => ∃ p ys, xs = [V.ref p] ∧ ((SqL K H p ys ∧ ∀ l, H l = none → Q (.ref l) (upd H l (.tup ys))) ∨ (SqT K H p ys ∧ Q (.ref p) H))) := by
  intro xs vs G H R Q rx rg h k
  unfold vtuple at h
  split at h
  · obtain ⟨v, rfl, r⟩ := rx.of_one
    have r0 := r
    simp only [Rep] at r
    obtain ⟨p, vs, rfl, hs, r⟩ := r
    exact ⟨p, vs, rfl, .inr ⟨hs, k _ _ G H r0 rg .refl h⟩⟩
  · obtain ⟨v, rfl, r⟩ := rx.of_one
    simp only [Rep] at r
    obtain ⟨p, vs, rfl, hs, r⟩ := r
    exact ⟨p, vs, rfl, .inl ⟨hs.seq, fun l hl => k _ _ G _ (rep_tup hl r) (rg.new hl) (stay_upd (wr_none hl)) h⟩⟩
  · obtain ⟨v, rfl, r⟩ := rx.of_one
    cases r
    obtain ⟨ys, e, q⟩ := h
    obtain ⟨vs, h1, r⟩ := rg.lst e
    exact ⟨_, vs, rfl, .inl ⟨.of h1, fun l hl => k _ _ G _ (rep_tup hl r) (rg.new hl) (stay_upd (wr_none hl)) q⟩⟩
  · exact h.elim
theorem w_tuplec {p : Pos} (hg : Gl X "tuple") (hm : X.mg "tuple" = none) (ha : PA X [e] (LA X.K t)) (hs : starEach [e] X.env = (false, eval e X.env) :: starEach [] X.env := by rfl) (hpl : (backTo pos (starEach [] X.env)).any (·.1) = false := by rfl) : PE X (.Call (.Name "tuple" p) [e] [] pos) (LE X.K (tcb vtuple t)) :=
  w_callTy call_tuple_of up_tuple hg hm (by decide +kernel) ha (hs := hs) (hpl := hpl)
/-- list(..) of a list, a tuple, a dict -/
def kT : Key → T
  | .inl i => .int i
  | .inr x => .str x
def vlist : TRN := fun xs G R => match xs with
  | [.tup ys] => ∀ l, G l = none → R (.ref l) (gupd G l (.lst ys))
  | [.fl ys] => ∀ l, G l = none → R (.ref l) (gupd G l (.lst ys))
  | [.ref p] => (∃ ys, G p = some (.lst ys) ∧ ∀ l, G l = none → R (.ref l) (gupd G l (.lst ys))) ∨ ∃ kvs, gd G p kvs ∧ ∀ l, G l = none → R (.ref l) (gupd G l (.lst (kvs.map fun kv => kT kv.1)))
  | _ => False
theorem rep_kT {H} (k : Key) : Rep K H (kT k) (kV k) := by cases k <;> rfl
theorem reps_keys {H} : ∀ {kvs : List (Key × T)} {ws : List (Key × V)}, KVR K H kvs ws → Reps K H (kvs.map fun kv => kT kv.1) (ws.map fun kv => kV kv.1)
  | _, _, .nil => .nil
  | _, _, .cons q r => by
    simp only [List.map_cons]
    refine .cons ?_ (reps_keys r)
    rw [q.1]
    exact rep_kT _
theorem up_list : UpN K vlist (fun xs H Q => (∃ p ys, xs = [V.ref p] ∧ (SqL K H p ys ∨ SqT K H p ys) ∧ ∀ l, H l = none → Q (.ref l) (upd H l (.lst ys))) ∨ ∃ (a : Addr) (kvs : List (Key × V)), xs = [V.ref a] ∧ Rd H a (.dK kvs) ∧ ∀ p, H p = none → Q (.ref p) (upd H p (.lst (kvs.map fun kv => kV kv.1)))) := by
  intro xs vs G H R Q rx rg h k
  unfold vlist at h
  split at h
  · obtain ⟨v, rfl, r⟩ := rx.of_one
    simp only [Rep] at r
    obtain ⟨p, vs, rfl, hs, r⟩ := r
    exact .inl ⟨p, vs, rfl, .inr hs, fun l hl => k (.ref l) _ _ _ rfl (rg.newL hl r) (stay_upd (wr_none hl)) (h l (rg.free hl))⟩
  · obtain ⟨v, rfl, r⟩ := rx.of_one
    simp only [Rep] at r
    obtain ⟨p, vs, rfl, hs, r⟩ := r
    exact .inl ⟨p, vs, rfl, .inl hs.seq, fun l hl => k (.ref l) _ _ _ rfl (rg.newL hl r) (stay_upd (wr_none hl)) (h l (rg.free hl))⟩
  · obtain ⟨v, rfl, r⟩ := rx.of_one
    cases r
    rcases h with ⟨ys, e, q⟩ | ⟨ys, e, q⟩
    · obtain ⟨vs, h1, r⟩ := rg.lst e
      exact .inl ⟨_, vs, rfl, .inl (.of h1), fun l hl => k (.ref l) _ _ _ rfl (rg.newL hl r) (stay_upd (wr_none hl)) (q l (rg.free hl))⟩
    · obtain ⟨vs, h1, r⟩ := rg.gd e
      exact .inr ⟨_, vs, rfl, h1, fun l hl => k (.ref l) _ _ _ rfl (rg.newL hl (reps_keys r)) (stay_upd (wr_none hl)) (q l (rg.free hl))⟩
  · exact h.elim
theorem w_listc {p : Pos} (hc : X.calm = true) (hg : Gl X "list") (hm : X.mg "list" = none) (ha : PA X [e] (LA X.K t)) (hs : starEach [e] X.env = (false, eval e X.env) :: starEach [] X.env := by rfl) (hpl : (backTo pos (starEach [] X.env)).any (·.1) = false := by rfl) : PE X (.Call (.Name "list" p) [e] [] pos) (LE X.K (tcb vlist t)) :=
  w_callTy (call_list_of.or (call_listD hc)) up_list hg hm (by decide +kernel) ha (hs := hs) (hpl := hpl)
/-- dict(d) -/
def vdict : TRN := fun xs G R => match xs with
  | [.ref p] => ∃ kvs, gd G p kvs ∧ ∀ l, G l = none → R (.ref l) (gupd G l (.dK kvs))
  | _ => False
theorem RG.newD {H G a} {xs : List (Key × T)} {vs : List (Key × V)} (R : RG K H G) (n : H a = none) (r : KVR K H xs vs) : RG K (L2.upd H a (.dK vs)) (gupd G a (.dK xs)) :=
  R.put (wr_none n) ⟨vs, upd_same, r.stay (stay_upd (wr_none n))⟩
theorem up_dict : UpN K vdict (fun xs H Q => ∃ (a : Addr) (kvs : List (Key × V)), xs = [.ref a] ∧ Rd H a (.dK kvs) ∧ ∀ p, H p = none → Q (.ref p) (upd H p (.dK kvs))) := by
  intro xs vs G H R Q rx rg h k
  unfold vdict at h
  split at h
  · obtain ⟨v, rfl, r⟩ := rx.of_one
    cases r
    obtain ⟨ys, e, q⟩ := h
    obtain ⟨vs, h1, r⟩ := rg.gd e
    exact ⟨_, vs, rfl, h1, fun l hl => k (.ref l) _ _ _ rfl (rg.newD hl r) (stay_upd (wr_none hl)) (q l (rg.free hl))⟩
  · exact h.elim
theorem w_dictc {p : Pos} (hg : Gl X "dict") (hm : X.mg "dict" = none) (ha : PA X [e] (LA X.K t)) (hs : starEach [e] X.env = (false, eval e X.env) :: starEach [] X.env := by rfl) (hpl : (backTo pos (starEach [] X.env)).any (·.1) = false := by rfl) : PE X (.Call (.Name "dict" p) [e] [] pos) (LE X.K (tcb vdict t)) :=
  w_callTy call_dictD up_dict hg hm (by decide +kernel) ha (hs := hs) (hpl := hpl)
/-- divmod by a written positive number -/
def vdivmod : TRN := fun xs G R => match xs with
  | [.int i, .int j] => CDiv i j ∧ R (.tup [.int (i / j), .int (i % j)]) G
  | _ => False
theorem up_divmod : UpN K vdivmod (fun xs H Q => ∃ i j, xs = [V.int i, V.int j] ∧ CDiv i j ∧ ∀ p, H p = none → Q (.ref p) (upd H p (.tup [.int (i / j), .int (i % j)]))) := by
  intro xs vs G H R Q rx rg h k
  unfold vdivmod at h
  split at h
  · obtain ⟨v, w, rfl, r, r'⟩ := rx.of_two
    cases r; cases r'
    exact ⟨_, _, rfl, h.1, fun p hp => k _ _ G _ (rep_tup hp (.cons (t := .int _) rfl (.one (t := .int _) rfl))) (rg.new hp) (stay_upd (wr_none hp)) h.2⟩
  · exact h.elim
theorem w_divmod {p : Pos} {f : Expr} (hg : Gl X "divmod") (hm : X.mg "divmod" = none) (ha : PA X [e, f] (LA X.K t)) (hs : starEach [e, f] X.env = (false, eval e X.env) :: starEach [f] X.env := by rfl) (hpl : (backTo pos (starEach [f] X.env)).any (·.1) = false := by rfl) : PE X (.Call (.Name "divmod" p) [e, f] [] pos) (LE X.K (tcb vdivmod t)) :=
  w_callB call_divmod up_divmod hg hm (by decide +kernel) ha (hs := hs) (hpl := hpl)
/-- sorted of texts, below 64 -/
def vsorted : TRN := fun xs G R => ∃ zs : List Str, (match xs with
    | [.tup ys] => False
    | [.fl ys] => ys = zs.map T.str
    | [.ref p] => G p = some (.lst (zs.map T.str))
    | _ => False) ∧ zs.length < 64 ∧ ∀ (ys : List Str) p, ys.Perm zs → sortedS ys = true → G p = none → R (.ref p) (gupd G p (.lst (ys.map T.str)))
theorem reps_strs {H} : ∀ {zs : List Str} {vs : List V}, Reps K H (zs.map T.str) vs → vs = zs.map V.str
  | [], _, r => r.of_nil
  | z :: zs, _, r => by
    obtain ⟨v, r', rfl, r1, r2⟩ := r.of_cons
    cases r1
    rw [reps_strs r2]
    rfl
theorem reps_of_strs {H} : ∀ (zs : List Str), Reps K H (zs.map T.str) (zs.map V.str)
  | [] => .nil
  | z :: zs => .cons (t := .str z) rfl (reps_of_strs zs)
theorem up_sorted : UpN K vsorted (rSortedS K) := by
  intro xs vs G H R Q rx rg h k
  obtain ⟨zs, h, hl, q⟩ := h
  have fin : ∀ (ys : List Str) p, ys.Perm zs → sortedS ys = true → H p = none → Q (.ref p) (upd H p (.lst (ys.map V.str))) := fun ys p h1 h2 hp =>
    k (.ref p) _ _ _ rfl (rg.newL hp (reps_of_strs ys)) (stay_upd (wr_none hp)) (q ys p h1 h2 (rg.free hp))
  split at h
  · exact h.elim
  · obtain ⟨v, rfl, r⟩ := rx.of_one
    subst h
    simp only [Rep] at r
    obtain ⟨p, vs, rfl, hs, r⟩ := r
    obtain rfl := reps_strs r
    exact ⟨p, zs, rfl, hs.seq, hl, fin⟩
  · obtain ⟨v, rfl, r⟩ := rx.of_one
    cases r
    obtain ⟨vs, h1, r⟩ := rg.lst h
    obtain rfl := reps_strs r
    exact ⟨_, zs, rfl, .of h1, hl, fin⟩
  · exact h.elim
theorem w_sorted {p : Pos} (hg : Gl X "sorted") (hm : X.mg "sorted" = none) (ha : PA X [e] (LA X.K t)) (hs : starEach [e] X.env = (false, eval e X.env) :: starEach [] X.env := by rfl) (hpl : (backTo pos (starEach [] X.env)).any (·.1) = false := by rfl) : PE X (.Call (.Name "sorted" p) [e] [] pos) (LE X.K (tcb vsorted t)) :=
  w_callB cr_sortedS up_sorted hg hm (by decide +kernel) ha (hs := hs) (hpl := hpl)

def tmeth (r : T → List T → GH → TK → Prop) (to : TTE) (t : TTA) : TTE := fun st G R => to st G fun x G1 => (∃ p xs, x = .ref p ∧ G1 p = some (.lst xs)) ∧ t st G1 fun xs G2 => r x xs G2 R
def UpM (K : PySem.W.Frag) (r : T → List T → GH → TK → Prop) (r' : V → List V → Hp → VK → Prop) : Prop := ∀ x vx xs vs G H R Q, Rep K H x vx → Reps K H xs vs → RG K H G → r x xs G R → Kont K H R Q → r' vx vs H Q
theorem LE_bm {K r r' to t σ H Q} (u : UpM K r r') (h : LE K (tmeth r to t) σ H Q) : tBM K "list" r' (LE K to) (LA K t) σ H Q := by
  obtain ⟨st, G, R, rs, rg, q, k⟩ := h
  refine ⟨st, G, _, rs, rg, q, fun x vx G1 H1 rx rg1 s1 ⟨⟨p, xs, e1, e2⟩, q1⟩ => ?_⟩
  subst e1
  cases rx
  obtain ⟨ws, h1, r1⟩ := rg1.lst e2
  refine ⟨.inl ⟨rfl, ws, .of h1⟩, st, G1, _, rs.stay s1, rg1, q1, fun ys vs G2 H2 ry rg2 s2 q2 => ?_⟩
  exact u (.ref p) (.ref p) ys vs G2 H2 R Q rfl ry rg2 q2 (k.stay (s1.trans s2))
theorem LE_bm0 {K r r' to σ H Q} (u : UpM K r r') (h : LE K (tmeth r to tanil) σ H Q) : tBM0 K "list" r' (LE K to) σ H Q := by
  obtain ⟨st, G, R, rs, rg, q, k⟩ := h
  refine ⟨st, G, _, rs, rg, q, fun x vx G1 H1 rx rg1 s1 ⟨⟨p, xs, e1, e2⟩, q1⟩ => ?_⟩
  subst e1
  cases rx
  obtain ⟨ws, h1, r1⟩ := rg1.lst e2
  exact ⟨.inl ⟨rfl, ws, .of h1⟩, u (.ref p) (.ref p) [] [] G1 H1 R Q rfl .nil rg1 q1 (k.stay s1)⟩
def mappend : T → List T → GH → TK → Prop := fun x xs G R => ∃ p ys t, x = .ref p ∧ xs = [t] ∧ G p = some (.lst ys) ∧ ys.length < sizeLine ∧ R .non (gupd G p (.lst (ys ++ [t])))
theorem up_append : UpM K mappend rAppend := by
  rintro x vx xs vs G H R Q rx rxs rg ⟨p, ys, t, rfl, rfl, e, hz, q⟩ k
  cases rx
  obtain ⟨v, rfl, r⟩ := rxs.of_one
  obtain ⟨ws, h1, r1⟩ := rg.lst e
  exact ⟨_, ws, v, rfl, rfl, h1, by rw [r1.length]; exact hz, k .non .non _ _ rfl (rg.setL h1 (r1.append (.one r))) (stay_upd (wr_lst h1)) q⟩
theorem w_append (ho : PE X o (LE X.K to)) (ha : PA X [e] (LA X.K t)) (hbase : attributeBase o "append" X.env (eval o X.env) = eval o X.env := by rfl)
    (hfew : ((backTo cpos (starEach [e] X.env)).all (fun x => !x.1) && (backToKw cpos (keywordEach [] X.env)).all (fun x => x.1.isSome) && decide (([e] : List Expr).length + ([] : List Keyword).length + (if ([] : List Keyword).isEmpty then 0 else 1) < 30)) = true := by rfl)
    (hline : (apos.endLine == cpos.line) = true := by rfl) (hs : starEach [e] X.env = (false, eval e X.env) :: starEach [] X.env := by rfl) (hplain : (backTo cpos (starEach [] X.env)).any (·.1) = false := by rfl) :
    PE X (.Call (.Attribute o "append" apos) [e] [] cpos) (LE X.K (tmeth mappend to t)) :=
  (pe_bm PySem.F.plainAttrs_list PySem.F.slot_list_append PySem.F.type_list_append mt_append ho ha hbase hfew hline hs hplain).imp fun _ _ _ => LE_bm up_append
def mpop : T → List T → GH → TK → Prop := fun x xs G R => ∃ p ys t, x = .ref p ∧ xs = [] ∧ G p = some (.lst ys) ∧ ys[ys.length - 1]? = some t ∧ R t (gupd G p (.lst ys.dropLast))
theorem reps_dropLast {H ts vs} (r : Reps K H ts vs) : Reps K H ts.dropLast vs.dropLast := by
  rw [List.dropLast_eq_take, List.dropLast_eq_take, r.length]
  exact r.take _
theorem up_pop : UpM K mpop rPop := by
  rintro x vx xs vs G H R Q rx rxs rg ⟨p, ys, t, rfl, rfl, e, hz, q⟩ k
  cases rx
  obtain rfl := rxs.of_nil
  obtain ⟨ws, h1, r1⟩ := rg.lst e
  obtain ⟨v, e2, r⟩ := r1.get hz
  have S : Stay K H (upd H _ (.lst ws.dropLast)) := stay_upd (wr_lst h1)
  exact ⟨_, ws, v, rfl, rfl, h1, by rw [r1.length]; exact e2, k t v _ _ (r.stay S) (rg.setL h1 (reps_dropLast r1)) S q⟩
theorem w_pop (ho : PE X o (LE X.K to)) (hbase : attributeBase o "pop" X.env (eval o X.env) = eval o X.env := by rfl) (hline : (apos.endLine == cpos.line) = true := by rfl) : PE X (.Call (.Attribute o "pop" apos) [] [] cpos) (LE X.K (tmeth mpop to tanil)) :=
  (pe_bm0 PySem.F.plainAttrs_list PySem.F.slot_list_pop PySem.F.type_list_pop mt_pop ho hbase hline).imp fun _ _ _ => LE_bm0 up_pop
end

section
variable {X : Cx} {K : PySem.W.Frag} {e o i value : Expr} {te to ti tv : TTE} {pos pos' : Pos}
def tput (to ti tv : TTE) : TTS := fun D st G => tv st G fun v G1 => to st G1 fun x G2 => ti st G2 fun y G3 =>
  ∃ p, x = .ref p ∧ ((∃ kvs k, G3 p = some (.dK kvs) ∧ keyT y = some k ∧ kvs.length < sizeLine ∧ D.nx st (gupd G3 p (.dK (putT kvs k v)))) ∨ ∃ xs k j, y = .int k ∧ G3 p = some (.lst xs) ∧ ixN xs.length k = some j ∧ D.nx st (gupd G3 p (.lst (xs.set j v))))
/-- o[i] = v where o is a dict or a list -/
def sPutA (td ty tv : TE) : TS := fun D σ H => tv σ H fun v H1 => td σ H1 fun x H2 => ty σ H2 fun y H3 => (∃ a H4, x = .ref a ∧ DPut H3 a y v H4 ∧ D.nx σ H4) ∨ rSetL x y v H3 fun H4 => D.nx σ H4
theorem ps_putA {td ty tv : TE} (hu : X.A.units + 1 < cLine) (ho : PE X o td) (hi : PE X i ty) (hv : PE X value tv) (hs : swapsWith value (some (.Subscript o i pos')) pos.line X.env = pure false) :
    PS X (.Assign [.Subscript o i pos'] value pos) (sPutA td ty tv) := by
  refine ⟨fun pins s σ H D I h => ?_⟩
  refine wpAny_Assign_Subscript (thn (hv.run pins s σ H _ I h) fun r s1 ⟨v, H1, I1, rv, q1⟩ => thn (ho.run pins s1 σ H1 _ I1 q1) fun u s2 ⟨x, H2, I2, rx, q2⟩ => thn (hi.run pins s2 σ H2 _ I2 q2) fun iv s3 ⟨y, H3, I3, ry, q3⟩ => ?_) hs
  rcases q3 with ⟨a, H4, ex, g, q3⟩ | q3
  · subst ex
    obtain rfl : u = Value.ref a := rx
    exact d_setItem hu I3 g ry rv fun s4 I4 => ⟨σ, H4, I4, q3⟩
  · exact thn (set_list pins s3 σ H3 x y v u iv r _ I3 rx ry rv q3) fun _ s4 ⟨H4, I4, q4⟩ => ⟨σ, H4, I4, q4⟩
theorem RG.setD {H G a} {xs : List (Key × T)} {vs vs0 : List (Key × V)} (R : RG K H G) (n : H a = some (.dK vs0)) (r : KVR K H xs vs) : RG K (L2.upd H a (.dK vs)) (gupd G a (.dK xs)) :=
  R.put (wr_dK n) ⟨vs, upd_same, r.stay (stay_upd (wr_dK n))⟩
theorem s_put {n : Nat} (hr : Room n X.A) (ho : PE X o (LE X.K to)) (hi : PE X i (LE X.K ti)) (hv : PE X value (LE X.K tv)) (hs : swapsWith value (some (.Subscript o i pos')) pos.line X.env = pure false := by rfl) :
    PS X (.Assign [.Subscript o i pos'] value pos) (LS X.K (tput to ti tv)) := (ps_putA (hu_of hr) ho hi hv hs).imp fun D σ H => by
  rintro ⟨st, G, R, rs, rg, q, k⟩
  refine ⟨st, G, _, rs, rg, q, fun v vv G1 H1 rv rg1 s1 q1 => ?_⟩
  refine ⟨st, G1, _, rs.stay s1, rg1, q1, fun x vx G2 H2 rx rg2 s2 q2 => ?_⟩
  refine ⟨st, G2, _, rs.stay (s1.trans s2), rg2, q2, fun y vy G3 H3 ry rg3 s3 ⟨p, e, q3⟩ => ?_⟩
  subst e
  cases rx
  have s13 := s1.trans (s2.trans s3)
  rcases q3 with ⟨kvs, ky, e, ek, hz, q3⟩ | ⟨xs, ky, j, rfl, e, hj, q3⟩
  · obtain ⟨ws, h3, r3⟩ := rg3.dK e
    obtain rfl := keyT_up ry ek
    have s4 : Stay X.K H3 (upd H3 p (.dK (putK ws ky vv))) := stay_upd (wr_dK h3)
    exact .inl ⟨p, _, rfl, .inl ⟨ws, ky, h3, rfl, by rw [r3.length]; exact hz, rfl⟩, k.nx _ _ _ _ (rs.stay (s13.trans s4)) (rg3.setD h3 (put_up r3 (rv.stay (s2.trans s3)))) (s13.trans s4) q3⟩
  · cases ry
    obtain ⟨ws, h3, r3⟩ := rg3.lst e
    have s4 : Stay X.K H3 (upd H3 p (.lst (ws.set j vv))) := stay_upd (wr_lst h3)
    exact .inr ⟨p, ws, _, j, rfl, rfl, h3, by rw [r3.length]; exact hj, k.nx _ _ _ _ (rs.stay (s13.trans s4)) (rg3.setL h3 (r3.set (rv.stay (s2.trans s3)) j)) (s13.trans s4) q3⟩

def tdnew : TTE := fun _ G R => ∀ p, G p = none → R (.ref p) (gupd G p (.dK []))
theorem w_dnew : PE X (.Dict [] [] pos) (LE X.K tdnew) := pe_dnewK.imp fun σ H Q => by
  rintro ⟨st, G, R, rs, rg, q, k⟩
  exact fun p hp => k (.ref p) _ _ _ rfl (rg.newD hp .nil) (stay_upd (wr_none hp)) (q p (rg.free hp))
def tdget2 (to ty tx : TTE) : TTE := fun st G R => to st G fun x G1 => ∃ p, x = .ref p ∧ (∃ kvs, gd G1 p kvs) ∧ ty st G1 fun y G2 => tx st G2 fun z G3 => ∃ kvs k, gd G3 p kvs ∧ keyT y = some k ∧ R ((lookT kvs k).getD z) G3
theorem w_dget2 {n : Nat} {f : Expr} {apos cpos : Pos} {tx : TTE} (hr : Room n X.A) (ho : PE X o (LE X.K to)) (he : PE X e (LE X.K te)) (hf : PE X f (LE X.K tx)) (m : M2 X o "get" apos e f cpos) : PE X (.Call (.Attribute o "get" apos) [e, f] [] cpos) (LE X.K (tdget2 to te tx)) := (pe_dget2 (hu_of hr) ho he hf m).imp fun σ H Q => by
  rintro ⟨st, G, R, rs, rg, q, k⟩
  refine ⟨st, G, _, rs, rg, q, fun x vx G1 H1 rx rg1 s1 ⟨p, e, ⟨kvs, hk⟩, q1⟩ => ?_⟩
  subst e
  cases rx
  obtain ⟨ws, h1, _⟩ := rg1.gd hk
  refine ⟨p, rfl, .inl ⟨ws, h1⟩, ?_⟩
  refine ⟨st, G1, _, rs.stay s1, rg1, q1, fun y vy G2 H2 ry rg2 s2 q2 => ?_⟩
  refine ⟨st, G2, _, rs.stay (s1.trans s2), rg2, q2, fun z vz G3 H3 rz rg3 s3 ⟨kvs3, ky, e3, ek, q3⟩ => ?_⟩
  obtain ⟨ws3, h3, r3⟩ := rg3.gd e3
  obtain rfl := keyT_up (ry.stay s3) ek
  refine ⟨valV ws3 ky, .inl ⟨ws3, ky, h3, rfl, rfl⟩, ?_⟩
  cases hl : lookT kvs3 ky with
  | none =>
    rw [hl] at q3
    rw [(look_up r3).2 hl]
    exact k z vz G3 H3 rz rg3 (s1.trans (s2.trans s3)) q3
  | some t =>
    rw [hl] at q3
    obtain ⟨v, e1, r⟩ := (look_up r3).1 t hl
    rw [e1]
    exact k t v G3 H3 r rg3 (s1.trans (s2.trans s3)) q3
end
end TL

namespace TL
open PySem PySem.Spec PyProof.Rows L2

/-- a list (true) or a tuple (false) that can be read -/
def SQ (K : PySem.W.Frag) : Bool → Hp → Addr → List V → Prop
  | true, H, a, xs => SqL K H a xs
  | false, H, a, xs => SqT K H a xs
def ITR (k : Bool) (h : Heap) (it l : Addr) (i : Nat) : Prop := match k with
  | true => h.IsListIter it l i
  | false => h.IsTupleIter it l i
def ItM (K : PySem.W.Frag) (ka kb : Bool) (a b : Addr) : It where
  go := fun i H => ∃ (xs ys : List V) (x y : V), SQ K ka H a xs ∧ SQ K kb H b ys ∧ xs[i]? = some x ∧ ys[i]? = some y
  yld := fun i H v H' => ∃ T x y, v = .ref T ∧ H T = none ∧ H' = upd H T (.tup [x, y]) ∧ (∀ xs, SQ K ka H a xs → xs[i]? = some x) ∧ ∀ ys, SQ K kb H b ys → ys[i]? = some y
  stop := fun i H => ∃ xs ys : List V, SQ K ka H a xs ∧ SQ K kb H b ys ∧ i = min xs.length ys.length
section
variable {X : Cx} {pins : List (Addr × Obj)} {σ : L2.St} {H : Hp} {s : Shared} {a : Addr} {xs ys : List V}
def HS (k : Bool) (h : Heap) (a : Addr) (its : List Value) : Prop := match k with
  | true => h.IsList a its.toArray
  | false => h.IsTuple a its.toArray
theorem sq_at {k : Bool} (I : L2.Inv X pins σ H s) (h : SQ X.K k H a xs) : ∃ its : List Value, Vals xs its ∧ HS k s.heap a its := by
  cases k with
  | true =>
    obtain ⟨its, r, p, _⟩ := I.list h
    exact ⟨its, r, p.isList⟩
  | false =>
    obtain ⟨its, r, p, _⟩ := I.tuple h
    exact ⟨its, r, p⟩
theorem sq_inj {k : Bool} (I : L2.Inv X pins σ H s) (h : SQ X.K k H a xs) (h' : SQ X.K k H a ys) : xs = ys := by
  cases k with
  | true => exact I.list_inj h h'
  | false => exact I.tuple_inj h h'
theorem hs_lt {k : Bool} {h : Heap} {its : List Value} (x : HS k h a its) : a < h.objs.size := by
  cases k with
  | true => obtain ⟨o, e, _⟩ := x; exact Heap.lt_size e
  | false => obtain ⟨o, e, _⟩ := x; exact Heap.lt_size e
theorem draws_of {prog : Program} {w : World} {A : Around} (k : Bool) (hh : A.handled = none) (it l : Addr) (hne : l ≠ it) (items : List Value) :
    Draws prog w A it [it, l] items.length (fun i v => items[i]? = some v) (fun i h => ITR k h it l i ∧ HS k h l items) := by
  cases k with
  | true =>
    have D := Draws.list (prog := prog) (w := w) hh it l hne items.toArray
    simp only [List.size_toArray, List.getElem?_toArray] at D
    exact D
  | false =>
    have D := Draws.tuple (prog := prog) (w := w) hh it l hne items.toArray
    simp only [List.size_toArray, List.getElem?_toArray] at D
    exact D
theorem itr_at {k : Bool} {h h' : Heap} {it l : Addr} {i : Nat} (x : ITR k h it l i) (e : ∀ o, h.get? it = some o → h'.get? it = some o) : ITR k h' it l i := by
  cases k with
  | true => exact Heap.IsListIter.at x e
  | false => exact Heap.IsTupleIter.at x e
theorem itr_obj {k : Bool} {h : Heap} {it l : Addr} {i : Nat} (x : ITR k h it l i) : ∃ o, h.get? it = some o ∧ ∀ v, o.data ≠ .cell v := by
  cases k with
  | true => obtain ⟨o, e, _, d⟩ := x; exact ⟨o, e, fun v q => by rw [d] at q; cases q⟩
  | false => obtain ⟨o, e, _, d⟩ := x; exact ⟨o, e, fun v q => by rw [d] at q; cases q⟩
end
/-- what must stand apart -/
structure Ap (z TI TO i1 i2 a b : Addr) : Prop where
  sep : ZipSep2 z TI TO i1 i2 [i1, a] [i2, b]
  a1 : a ≠ i1
  b2 : b ≠ i2
theorem turn_zipM {P : Program} {w : World} {K : PySem.W.Frag} {elts : List Expr} {kk : Nat} {tpos : Pos} {ka kb : Bool} {a b z TI TO i1 i2 : Addr} (D : Ap z TI TO i1 i2 a b) :
    Turn P w K (.Tuple elts kk tpos) (ItM K ka kb a b) [z, TI, TO, i1, i2] z (fun i h => IsZip h z TI TO .none ∧ IsTupOf2 h TI (.ref i1) (.ref i2) ∧ (∃ x y, IsTupOf2 h TO x y) ∧ ITR ka h i1 a i ∧ ITR kb h i2 b i) where
  mem := by simp
  obj := fun i h st c hc => by
    obtain ⟨hz, hTI, ⟨x, y, hTO⟩, h1, h2⟩ := st
    simp only [List.mem_cons, List.not_mem_nil, or_false] at hc
    rcases hc with q | q | q | q | q <;> subst q
    · exact ⟨_, hz, fun v q => nomatch q⟩
    · exact ⟨_, hTI, fun v q => nomatch q⟩
    · exact ⟨_, hTO, fun v q => nomatch q⟩
    · exact itr_obj h1
    · exact itr_obj h2
  keep := fun i h h' st k => by
    obtain ⟨hz, hTI, ⟨x, y, hTO⟩, h1, h2⟩ := st
    exact ⟨k z (by simp) _ hz, k TI (by simp) _ hTI, ⟨x, y, k TO (by simp) _ hTO⟩, itr_at h1 fun o q => k i1 (by simp) o q, itr_at h2 fun o q => k i2 (by simp) o q⟩
  item := by
    intro X hP hw hK hc i pins s σ H E I hf st hg
    subst hP hw hK
    obtain ⟨hz, hTI, hTO, h1, h2⟩ := st
    obtain ⟨xs, ys, x, y, hqx, hqy, hx, hy⟩ := hg
    obtain ⟨its, rv, p⟩ := sq_at I hqx
    obtain ⟨its2, rv2, p2⟩ := sq_at I hqy
    have hh : X.A.in1.handled = none := I.ok.hd hc
    have W := WalksT.zipD2 (prog := X.prog) (w := X.w) (A := X.A) D.sep (draws_of ka hh i1 a D.a1 its) (draws_of kb hh i2 b D.b2 its2)
    have l1 : i < xs.length := by
      rcases Nat.lt_or_ge i xs.length with h' | h'
      · exact h'
      · rw [List.getElem?_eq_none h'] at hx; cases hx
    have l2 : i < ys.length := by
      rcases Nat.lt_or_ge i ys.length with h' | h'
      · exact h'
      · rw [List.getElem?_eq_none h'] at hy; cases hy
    have e1 := rv.length
    have e2 := rv2.length
    refine W.item i s _ E (by omega) ⟨hz, hTI, hTO, ⟨h1, p⟩, ⟨h2, p2⟩⟩ fun T vals h' tk hv hT ht mid kp => ?_
    obtain ⟨u, u2, hu, hu2, rfl⟩ := hv
    refine ⟨_, rfl, W.go elts kk tpos i T { s with heap := h', toks := tk } _ E mid fun h'' st' kp' => ?_⟩
    obtain ⟨w1, ew, ru⟩ := rv.get hx
    obtain ⟨w2, ew2, ru2⟩ := rv2.get hy
    rw [hu] at ew; cases ew
    rw [hu2] at ew2; cases ew2
    have nT := W.apart i T h' mid
    have hT2 : h''.IsTuple T #[u, u2] := ht.at fun o e => kp' T o nT e
    obtain ⟨o, eo, co, n, d⟩ := hT2
    have new : ObjOk X.prog X.w (upd H T (.tup [x, y])) h'' T (.tup [x, y]) :=
      ⟨by show 2 ≤ sizeLine; decide, [u, u2], .cons ru (.cons ru2 .nil), ⟨o, eo, co, n, d⟩⟩
    have I1 : L2.Inv X pins σ (upd H T (.tup [x, y])) { s with heap := h'', toks := tk } :=
      I.turnedNew (t' := tk) (ch := [z, TI, TO, i1, i2]) (fun c o hb q => by
        have hb' : c ∉ [z, TO, i1, i2] := fun z' => hb (by
          simp only [List.mem_cons, List.not_mem_nil, or_false] at z' ⊢
          rcases z' with z' | z' | z' | z'
          · exact .inl z'
          · exact .inr (.inr (.inl z'))
          · exact .inr (.inr (.inr (.inl z')))
          · exact .inr (.inr (.inr (.inr z'))))
        exact kp' c o hb' (kp c o hb' q)) hf hT new
    obtain ⟨g1, g2, g3, ⟨g4, _⟩, ⟨g5, _⟩⟩ := st'
    refine ⟨.ref T, _, I1, rfl, ⟨T, x, y, rfl, I.hok.fresh hT, rfl, fun l hl => by rw [sq_inj I hl hqx]; exact hx, fun l hl => by rw [sq_inj I hl hqy]; exact hy⟩, ⟨g1, g2, g3, g4, g5⟩, fun c hcm => ?_⟩
    have hn := (hf c hcm).1
    have hlt : c < s.heap.objs.size := by
      simp only [List.mem_cons, List.not_mem_nil, or_false] at hcm
      rcases hcm with q | q | q | q | q <;> subst q
      · exact Heap.lt_size hz
      · exact Heap.lt_size hTI
      · obtain ⟨_, _, e⟩ := hTO; exact Heap.lt_size e
      · obtain ⟨o, e, _⟩ := itr_obj h1; exact Heap.lt_size e
      · obtain ⟨o, e, _⟩ := itr_obj h2; exact Heap.lt_size e
    rw [upd_ne (Nat.ne_of_lt (Nat.lt_of_lt_of_le hlt hT))]
    exact hn
  done := by
    intro X hP hw hK hc i pins s σ H E I hf st hg
    subst hP hw hK
    obtain ⟨hz, hTI, hTO, h1, h2⟩ := st
    obtain ⟨xs, ys, hqx, hqy, hend⟩ := hg
    obtain ⟨its, rv, p⟩ := sq_at I hqx
    obtain ⟨its2, rv2, p2⟩ := sq_at I hqy
    have hh : X.A.in1.handled = none := I.ok.hd hc
    have W := WalksT.zipD2 (prog := X.prog) (w := X.w) (A := X.A) D.sep (draws_of ka hh i1 a D.a1 its) (draws_of kb hh i2 b D.b2 its2)
    have e1 := rv.length
    have e2 := rv2.length
    have en : i = min its.length its2.length := by rw [hend, e1, e2]
    subst en
    refine W.done s _ E ⟨hz, hTI, hTO, ⟨h1, p⟩, ⟨h2, p2⟩⟩ fun h' tk kp => ⟨rfl, I.turnedL (t' := tk) (ch := [z, TI, TO, i1, i2]) (fun c o hb q => ?_) hf⟩
    have hb' : c ∉ [z, TO, i1, i2] := fun z' => hb (by
      simp only [List.mem_cons, List.not_mem_nil, or_false] at z' ⊢
      rcases z' with z' | z' | z' | z'
      · exact .inl z'
      · exact .inr (.inr (.inl z'))
      · exact .inr (.inr (.inr (.inl z')))
      · exact .inr (.inr (.inr (.inr z'))))
    exact kp c o hb' q
  self := fun A i s Q E st h => wpAny_pyIter_zip st.1 h
theorem begins_of (k : Bool) (l : Addr) (its : List Value) : ∃ o, Begins (.ref l) o (fun h => HS k h l its) ∧ ∀ h : Heap, ∀ N, h.get? N = some o → ITR k h N l 0 := by
  cases k with
  | true => exact ⟨_, begins_list l its.toArray, fun h N e => ⟨_, e, rfl, rfl⟩⟩
  | false => exact ⟨_, begins_tuple l its.toArray, fun h N e => ⟨_, e, rfl, rfl⟩⟩
def iZipM (K : PySem.W.Frag) (ta : TA) : TI := fun σ H R => ta σ H fun vs H1 => ∃ (ka kb : Bool) (a b : Addr) (xs ys : List V), vs = [.ref a, .ref b] ∧ SQ K ka H1 a xs ∧ SQ K kb H1 b ys ∧ R (ItM K ka kb a b) H1
theorem pi_zipM {X : Cx} {e e2 : Expr} {ta : TA} {p pos tpos : Pos} {elts : List Expr} {kk : Nat} (hg : Gl X "zip") (hm : X.mg "zip" = none) (ha : PA X [e, e2] ta)
    (hs : starEach [e, e2] X.env = (false, eval e X.env) :: starEach [e2] X.env := by rfl) (hpl : (backTo pos (starEach [e2] X.env)).any (·.1) = false := by rfl) :
    PI X (.Tuple elts kk tpos) (.Call (.Name "zip" p) [e, e2] [] pos) (iZipM X.K ta) := by
  refine ⟨fun pins s σ H R I h => ?_⟩
  refine Call_ (ld_blt I hg hm PyProof.Rows.boot_zip (PyProof.Rows.callWith_type1 (thn (ha.run pos pins s σ H _ I h) fun us s1 ⟨vs, H1, I1, r1, q1⟩ => ?_) hs hpl))
  obtain ⟨ka, kb, a, b, xs, ys, ex, hqx, hqy, q⟩ := q1
  subst ex
  cases r1 with
  | cons r rr =>
    cases rr with
    | cons r' rr =>
      cases rr
      cases r
      cases r'
      obtain ⟨its, rv, p1⟩ := sq_at I1 hqx
      obtain ⟨its2, rv2, p2⟩ := sq_at I1 hqy
      have la := hs_lt p1
      have lb := hs_lt p2
      obtain ⟨o1, B1, z1⟩ := begins_of ka a its
      obtain ⟨o2, B2, z2⟩ := begins_of kb b its2
      refine zip_begins2 B1 B2 p1 p2 fun h' hz hTI hTO h1 h2 hsz hk => wpAny_pyIter_zip hz ?_
      have I2 : L2.Inv X pins σ H1 { s1 with heap := h' } := I1.kept (t' := s1.toks) hk
      have sp : ZipSep2 (s1.heap.objs.size + 4) (s1.heap.objs.size + 2) (s1.heap.objs.size + 3) s1.heap.objs.size (s1.heap.objs.size + 1) [s1.heap.objs.size, a] [s1.heap.objs.size + 1, b] :=
        zip_sep2 (N := s1.heap.objs.size) (fp1 := [a]) (fp2 := [b]) (fun c hc => by simp only [List.mem_cons, List.not_mem_nil, or_false] at hc; subst hc; exact la) (fun c hc => by simp only [List.mem_cons, List.not_mem_nil, or_false] at hc; subst hc; exact lb)
      refine ⟨s1.heap.objs.size + 4, [s1.heap.objs.size + 4, s1.heap.objs.size + 2, s1.heap.objs.size + 3, s1.heap.objs.size, s1.heap.objs.size + 1], _, _, H1, rfl, I2, turn_zipM ⟨sp, Nat.ne_of_lt la, Nat.ne_of_lt (Nat.lt_succ_of_lt lb)⟩, ⟨hz, hTI, ⟨_, _, hTO⟩, z1 _ _ h1, z2 _ _ h2⟩, fun c hcm => ?_, q⟩
      have hle : s1.heap.objs.size ≤ c := by
        simp only [List.mem_cons, List.not_mem_nil, or_false] at hcm
        rcases hcm with q | q | q | q | q <;> subst q
        · exact Nat.le_add_right _ _
        · exact Nat.le_add_right _ _
        · exact Nat.le_add_right _ _
        · exact Nat.le_refl _
        · exact Nat.le_add_right _ _
      exact I1.fpOk hle (I1.hok.fresh hle)

section
variable {X : Cx} {ta : TTA}
/-- the items of a list or a tuple, and what must stay -/
inductive Sqn (G : GH) : T → List T → (GH → Prop) → Prop
  | tup (xs : List T) : Sqn G (.tup xs) xs (fun _ => True)
  | fl (xs : List T) : Sqn G (.fl xs) xs (fun _ => True)
  | ref {p : Addr} {xs : List T} : G p = some (.lst xs) → Sqn G (.ref p) xs (fun G' => G' p = some (.lst xs))
def izip (t : TTA) : TTI := fun st G RT => t st G fun vs G1 => ∃ x y xs ys kx ky, vs = [x, y] ∧ Sqn G1 x xs kx ∧ Sqn G1 y ys ky ∧ RT (List.zipWith (fun a b => T.tup [a, b]) xs ys) (fun G' => kx G' ∧ ky G') G1
theorem sqn_up {K : PySem.W.Frag} {H : Hp} {G : GH} {x : T} {xs : List T} {kx : GH → Prop} {v : V} (q : Sqn G x xs kx) (rg : RG K H G) (r : Rep K H x v) :
    ∃ (k : Bool) (a : Addr) (vs : List V), v = .ref a ∧ SQ K k H a vs ∧ ∀ H' G', Stay K H H' → RG K H' G' → kx G' → ∃ vs', SQ K k H' a vs' ∧ Reps K H' xs vs' := by
  cases q with
  | tup =>
    simp only [Rep] at r
    obtain ⟨a, vs, rfl, hs, r⟩ := r
    exact ⟨false, a, vs, rfl, hs, fun H' G' s rg' _ => ⟨vs, s.t _ _ hs, r.stay s⟩⟩
  | fl =>
    simp only [Rep] at r
    obtain ⟨a, vs, rfl, hs, r⟩ := r
    exact ⟨true, a, vs, rfl, hs.seq, fun H' G' s rg' _ => ⟨vs, (s.f _ _ hs).seq, r.stay s⟩⟩
  | ref e =>
    cases r
    obtain ⟨vs, hs, r⟩ := rg.lst e
    exact ⟨true, _, vs, rfl, .of hs, fun H' G' s rg' e' => let ⟨vs', h', r'⟩ := rg'.lst e'; ⟨vs', .of h', r'⟩⟩
theorem i_zip {elts : List Expr} {kk : Nat} {tpos : Pos} {e e2 : Expr} {p pos : Pos} (hg : Gl X "zip") (hm : X.mg "zip" = none) (ha : PA X [e, e2] (LA X.K ta))
    (hs : starEach [e, e2] X.env = (false, eval e X.env) :: starEach [e2] X.env := by rfl) (hpl : (backTo pos (starEach [e2] X.env)).any (·.1) = false := by rfl) :
    PI X (.Tuple elts kk tpos) (.Call (.Name "zip" p) [e, e2] [] pos) (LI X.K (izip ta)) := (pi_zipM hg hm ha hs hpl).imp fun σ H R => by
  rintro ⟨st, G, RT, rs, rg, q, k⟩
  refine ⟨st, G, _, rs, rg, q, fun ws vs G1 H1 rx rg1 s1 ⟨x, y, xs, ys, kx, ky, e, qx, qy, q1⟩ => ?_⟩
  subst e
  obtain ⟨v, w, rfl, r, r'⟩ := rx.of_two
  obtain ⟨ka, a, va, rfl, ha, fa⟩ := sqn_up qx rg1 r
  obtain ⟨kb, b, vb, rfl, hb, fb⟩ := sqn_up qy rg1 r'
  refine ⟨ka, kb, a, b, va, vb, rfl, ha, hb, k _ _ _ G1 H1 ⟨fun H2 G2 i t s rg2 kp e => ?_, fun H2 G2 i s rg2 kp hl => ?_⟩ rg1 s1 q1⟩
  · obtain ⟨vs1, g1, r1⟩ := fa H2 G2 s rg2 kp.1
    obtain ⟨vs2, g2, r2⟩ := fb H2 G2 s rg2 kp.2
    rw [List.getElem?_zipWith] at e
    cases ex : xs[i]? with
    | none => rw [ex] at e; cases e
    | some tx =>
      cases ey : ys[i]? with
      | none => rw [ex, ey] at e; cases e
      | some ty =>
        rw [ex, ey] at e
        cases e
        obtain ⟨v1, e1, q1⟩ := r1.get ex
        obtain ⟨v2, e2, q2⟩ := r2.get ey
        refine ⟨⟨vs1, vs2, v1, v2, g1, g2, e1, e2⟩, ?_⟩
        rintro x H' ⟨Ta, x1, x2, rfl, nT, rfl, f1, f2⟩
        have z1 := f1 _ g1
        have z2 := f2 _ g2
        rw [e1] at z1; cases z1
        rw [e2] at z2; cases z2
        exact ⟨rep_tup nT (.cons q1 (.one q2)), rg2.new nT, stay_upd (wr_none nT)⟩
  · obtain ⟨vs1, g1, r1⟩ := fa H2 G2 s rg2 kp.1
    obtain ⟨vs2, g2, r2⟩ := fb H2 G2 s rg2 kp.2
    exact ⟨vs1, vs2, g1, g2, by rw [hl, List.length_zipWith, r1.length, r2.length]⟩
end
end TL

namespace TL
open PySem PySem.Spec PyProof.Rows L2

abbrev TTO := TSt → GH → (Option Int → GH → Prop) → Prop
def LO (K : PySem.W.Frag) (τ : TTO) : TO := fun σ H Q => ∃ st G R, RS K H st σ ∧ RG K H G ∧ τ st G R ∧ ∀ b G' H', RG K H' G' → Stay K H H' → R b G' → Q b H'
def tpart (te : TTE) : TTO := fun st G R => te st G fun x G1 => ∃ i, x = .int i ∧ R (some i) G1
def tnopart : TTO := fun _ G R => R none G
def cutT (xs : List T) (lo hi : Option Int) : List T := (xs.drop (HT.sIx xs.length 0 lo)).take (HT.sIx xs.length xs.length hi - HT.sIx xs.length 0 lo)
def vsl (x : T) (lo hi : Option Int) (G : GH) (R : TK) : Prop := match x with
  | .tup xs => R (.tup (cutT xs lo hi)) G
  | .fl xs => ∀ l, G l = none → R (.ref l) (gupd G l (.lst (cutT xs lo hi)))
  | .ref p => ∃ xs, G p = some (.lst xs) ∧ ∀ l, G l = none → R (.ref l) (gupd G l (.lst (cutT xs lo hi)))
  | .str z => z.length ≤ sizeLine ∧ R (.str (cutS z lo hi)) G
  | _ => False
def tsl (te : TTE) (tl th : TTO) : TTE := fun st G R => te st G fun x G1 => tl st G1 fun l G2 => th st G2 fun u G3 => vsl x l u G3 R
section
variable {X : Cx} {e : Expr} {lo hi : Option Expr} {te : TTE} {tl th : TTO} {pos p2 : Pos}
theorem o_some {e : Expr} (h : PE X e (LE X.K te)) : PO X (some e) (LO X.K (tpart te)) := ⟨fun pins s σ H Q I hw => (po_some h).run pins s σ H Q I (by
  obtain ⟨st, G, R, rs, rg, q, k⟩ := hw
  refine ⟨st, G, _, rs, rg, q, fun x vx G1 H1 rx rg1 s1 ⟨i, e, q1⟩ => ?_⟩
  subst e
  exact ⟨i, rx, k _ G1 H1 rg1 s1 q1⟩)⟩
theorem o_none : PO X none (LO X.K tnopart) := ⟨fun pins s σ H Q I hw => po_none.run pins s σ H Q I (by
  obtain ⟨st, G, R, rs, rg, q, k⟩ := hw
  exact k none G H rg .refl q)⟩
theorem cut_up {K : PySem.W.Frag} {H : Hp} {xs : List T} {vs : List V} {lo hi : Option Int} (r : Reps K H xs vs) : Reps K H (cutT xs lo hi) (cutV vs lo hi) := by
  unfold cutT cutV
  rw [r.length]
  exact (r.drop _).take _
theorem w_slice (he : PE X e (LE X.K te)) (hl : PO X lo (LO X.K tl)) (hu : PO X hi (LO X.K th)) : PE X (.Subscript e (.Slice lo hi none p2) pos) (LE X.K (tsl te tl th)) := (pe_slice (sl_tupA.or (sl_list.or sl_str)) he hl hu).imp fun σ H Q => by
  rintro ⟨st, G, R, rs, rg, q, k⟩
  refine ⟨st, G, _, rs, rg, q, fun x vx G1 H1 rx rg1 s1 q1 => ?_⟩
  refine ⟨st, G1, _, rs.stay s1, rg1, q1, fun l G2 H2 rg2 s2 q2 => ?_⟩
  refine ⟨st, G2, _, rs.stay (s1.trans s2), rg2, q2, fun u G3 H3 rg3 s3 q3 => ?_⟩
  have rx := rx.stay (s2.trans s3)
  have k := k.stay (s1.trans (s2.trans s3))
  cases x with
  | tup xs =>
    simp only [Rep] at rx
    obtain ⟨a, vs, rfl, hs, r⟩ := rx
    refine .inl ⟨a, vs, rfl, hs, fun hw => ?_, fun hw p hp => ?_⟩
    · refine k _ _ G3 H3 ?_ rg3 .refl q3
      simp only [Rep]
      refine ⟨a, vs, rfl, hs, ?_⟩
      have e : cutT xs l u = xs := by
        unfold cutT
        rw [r.length] at hw
        rw [hw.1, hw.2]
        simp
      rw [e]
      exact r
    · exact k _ _ G3 _ (rep_tup hp (cut_up r)) (rg3.new hp) (stay_upd (wr_none hp)) q3
  | fl xs =>
    simp only [Rep] at rx
    obtain ⟨a, vs, rfl, hs, r⟩ := rx
    exact .inr (.inl ⟨a, vs, rfl, hs.seq, fun p hp => k (.ref p) _ _ _ rfl (rg3.newL hp (cut_up r)) (stay_upd (wr_none hp)) (q3 p (rg3.free hp))⟩)
  | ref p =>
    cases rx
    obtain ⟨xs, e, q3⟩ := q3
    obtain ⟨vs, hs, r⟩ := rg3.lst e
    exact .inr (.inl ⟨_, vs, rfl, .of hs, fun p hp => k (.ref p) _ _ _ rfl (rg3.newL hp (cut_up r)) (stay_upd (wr_none hp)) (q3 p (rg3.free hp))⟩)
  | str z =>
    cases rx
    exact .inr (.inr ⟨z, rfl, q3.1, k (.str _) _ G3 H3 rfl rg3 .refl q3.2⟩)
  | _ => exact q3.elim
end

theorem adjust_rev (n : Nat) : Builtin.Slice.sliceAdjust none none (-1) (n : Int) = ((n : Int) - 1, -1) := by
  simp [Builtin.Slice.sliceAdjust]
theorem places_rev (n : Nat) : Builtin.Slice.slicePlaces ((n : Int) - 1) (-1) (-1) = n := by
  simp only [Builtin.Slice.slicePlaces]
  by_cases h : n = 0
  · subst h; rfl
  · have h1 : ¬ ((-1 : Int) > 0) := by decide
    have h2 : ((n : Int) - 1 > -1) := by omega
    rw [if_neg h1, if_pos h2]
    have : ((n : Int) - 1 - -1 - 1) / - -1 + 1 = n := by
      rw [Int.neg_neg, Int.ediv_one]; omega
    rw [this]
    omega
theorem fm_congr {α β : Type} {f g : α → Option β} : ∀ {l : List α}, (∀ k ∈ l, f k = g k) → l.filterMap f = l.filterMap g
  | [], _ => rfl
  | a :: l, h => by
    simp only [List.filterMap_cons, h a (by simp), fm_congr (l := l) fun k hk => h k (by simp [hk])]
theorem pick_rev (xs : Array Value) : ((List.range xs.size).filterMap fun (k : Nat) => xs[((xs.size : Int) - 1 + (k : Int) * (-1)).toNat]?).toArray = xs.toList.reverse.toArray := by
  congr 1
  rw [← PySem.W.krv_all xs, ← List.filterMap_reverse, ← PySem.W.krv_range, List.filterMap_map]
  refine fm_congr fun k hk => ?_
  have := List.mem_range.mp hk
  show xs[((xs.size : Int) - 1 + (k : Int) * (-1)).toNat]? = xs[xs.size - 1 - k]?
  congr 1
  omega
section
variable {prog : Program} {w : World} {A : Around} {E : Value → Shared → Prop} {s : Shared}
theorem sliceApplied_rev {sl : Addr} {vs : Value} {n : Nat} {Q : Int × Int × Nat → Shared → Prop} (hs : s.heap.IsSliceOf sl .none .none vs) (ps : IsPart vs (some (-1)))
    (h : Q ((n : Int) - 1, -1, n) s) : wpAny (model prog w) A (Builtin.Slice.sliceApplied (.ref sl) (pure (n : Int))) Q E s := by
  obtain ⟨os, hos, hcs, hds⟩ := id hs
  unfold Builtin.Slice.sliceApplied Builtin.Slice.sliceFields
  refine wpAny_bind (wpAny_bind (wpAny_field hos hds (x := .none) rfl (wpAny_bind (wpAny_field hos hds (x := .none) rfl (wpAny_bind (wpAny_field hos hds (x := vs) rfl (wpAny_pure ?_)))))))
  refine wpAny_bind (HT.slicePart_ ps ?_)
  show wpAny _ _ (if ((-1 : Int) == 0) = true then _ else _) _ _ s
  rw [if_neg (by decide)]
  refine wpAny_bind (HT.slicePart_ .none (wpAny_bind (HT.slicePart_ .none (wpAny_bind (wpAny_pure ?_)))))
  show wpAny _ _ (match Builtin.Slice.sliceAdjust none none (-1) (n : Int) with | (lo, hi) => pure (lo, (-1 : Int), Builtin.Slice.slicePlaces lo hi (-1))) _ _ s
  rw [adjust_rev]
  show wpAny _ _ (pure (((n : Int) - 1), (-1 : Int), Builtin.Slice.slicePlaces ((n : Int) - 1) (-1) (-1))) _ _ s
  rw [places_rev]
  exact wpAny_pure h
theorem getItem_tuple_rev {t sl : Addr} {xs : Array Value} {vs : Value} {Q : Value → Shared → Prop} (ht : IsTup s.heap t xs) (hs : s.heap.IsSliceOf sl .none .none vs) (ps : IsPart vs (some (-1)))
    (h : Q (.ref s.heap.objs.size) { s with heap := s.heap.push { cls := .type "tuple", data := .seq xs.toList.reverse.toArray } })
    (hsz : xs.size ≤ sizeLine) : wpAny (model prog w) A (getItem (.ref t) (.ref sl)) Q E s := by
  have hok : sizeOk (.seq xs.toList.reverse.toArray) := by
    show xs.toList.reverse.toArray.size ≤ sizeLine
    simpa using hsz
  have hTs : s.TypeIs (.ref sl) "slice" := let ⟨os, a, b, _⟩ := hs; ⟨os, a, b⟩
  unfold getItem
  try with_reducible refine wpAny_holding ?_
  first | refine wpAny_bind (wpAny_pure ?_) | skip
  refine wpAny_bind (wpAny_sequenceKey ht.typeIs (by decide) ?_)
  refine wpAny_bind (wpAny_callSpecial?_slot (name := Str.ofString "__getitem__") ht.typeIs PyProof.Rows.slot_tuple_getitem
    (wpAny_call_entry PyProof.Rows.slot_tuple_getitem ht.typeIs entry_tuple_getitem ?_ (args_tuple_getitem _ _)))
  show wpAny _ _ (Builtin.Tuple.tupleItemsOf (.ref t) >>= _) _ _ s
  refine wpAny_bind (tupleItemsOf_ ht (wpAny_bind (wpAny_typeOf hTs ?_)))
  rw [if_pos (by decide)]
  refine wpAny_bind (sliceApplied_rev hs ps ?_)
  have hno : ¬ (((xs.size : Int) - 1 == 0 && (-1 : Int) == 1 && xs.size == xs.size) = true) := by
    intro q
    rw [Bool.and_eq_true, Bool.and_eq_true] at q
    exact absurd q.1.2 (by decide)
  show wpAny _ _ (if ((xs.size : Int) - 1 == 0 && (-1 : Int) == 1 && xs.size == xs.size) = true then _ else _) _ _ s
  rw [if_neg hno, pick_rev]
  first
    | exact wpAny_bind (m := Builtin.Tuple.tupleExact _) (wpAny_newObj_type (wpAny_pure ⟨_, rfl, wpAny_pure h⟩) hok)
    | exact wpAny_bind (m := Builtin.Tuple.tupleExact _) (wpAny_newObj_type (wpAny_bind (wpAny_pure (wpAny_pure ⟨_, rfl, wpAny_pure h⟩))) hok)
    | exact wpAny_bind (wpAny_bind (m := Builtin.Tuple.tupleExact _) (wpAny_newObj_type (wpAny_pure (wpAny_pure ⟨_, rfl, wpAny_pure h⟩)) hok))
    | exact wpAny_bind (wpAny_bind (m := Builtin.Tuple.tupleExact _) (wpAny_newObj_type (wpAny_pure ⟨_, rfl, wpAny_pure h⟩) hok))
end
def tRevA (K : PySem.W.Frag) (te : TE) : TE := fun σ H Q => te σ H fun x H1 => ∃ a xs, x = .ref a ∧ ((SqL K H1 a xs ∧ ∀ p, H1 p = none → Q (.ref p) (upd H1 p (.lst xs.reverse))) ∨ (SqT K H1 a xs ∧ ∀ p, H1 p = none → Q (.ref p) (upd H1 p (.tup xs.reverse))))
theorem pe_revA {X : Cx} {e : Expr} {te : TE} {k : Nat} {p1 p2 p3 pos : Pos} (he : PE X e te) : PE X (.Subscript e (.Slice none none (some (.UnaryOp .USub (.Constant (.int 1) k p1) p2)) p3) pos) (tRevA X.K te) := by
  refine ⟨fun pins s σ H Q I h => ?_⟩
  refine Subscript_ (thn (he.run pins s σ H _ I h) fun v s1 ⟨x, H1, I1, r1, a, xs, ex, hx⟩ => ?_)
  subst ex
  cases r1
  have hst : PO X (some (.UnaryOp .USub (.Constant (.int 1) k p1) p2)) (tPart (tUn (rU fun i => .int (-i)) (tC (.int 1)))) := po_some (pe_un un_neg pe_int)
  refine wpAny_Slice ?_
  refine thn (po_none.run pins s1 σ H1 (fun o H2 => o = none ∧ H2 = H1) I1 ⟨rfl, rfl⟩) fun vl s2 ⟨l, H2, I2, pl, el, e2⟩ => ?_
  subst el e2
  refine thn (po_none.run pins s2 σ H2 (fun o H3 => o = none ∧ H3 = H2) I2 ⟨rfl, rfl⟩) fun vu s3 ⟨u, H3, I3, pu, eu, e3⟩ => ?_
  subst eu e3
  refine thn (hst.run pins s3 σ H3 (fun o H4 => o = some (-1) ∧ H4 = H3) I3 ⟨1, rfl, -1, rfl, rfl, rfl⟩) fun vs s4 ⟨o, H4, I4, ps, eo, e4⟩ => ?_
  subst eo e4
  cases pl
  cases pu
  have I5 : Inv X pins σ H4 { s4 with heap := s4.heap.push { cls := .type "slice", data := .fields #[.none, .none, vs] } } := I4.kept (t' := s4.toks) fun b ob q => Heap.get?_push_of_some _ q
  show wpAny (model X.prog X.w) X.A (subscriptTail e (.Slice none none (some (.UnaryOp .USub (.Constant (.int 1) k p1) p2)) p3) (.ref a) (.ref s4.heap.objs.size)) (EP X pins σ Q) X.xe { s4 with heap := s4.heap.push { cls := .type "slice", data := .fields #[.none, .none, vs] } }
  rcases hx with ⟨hx, q⟩ | ⟨hx, q⟩
  · obtain ⟨its, r, ht, hz⟩ := I5.list hx
    have hlen := r.length
    refine tail_any (ops := [.ref a, .ref s4.heap.objs.size]) ht.isList.typeIs (PySem.slot_list_getitem.lookup) ?_ (by with_unfolding_all rfl)
    refine wpAny_getItem_list_slice ht.isList (Heap.IsSliceOf.new _ .none .none vs) .none .none ps (by decide) ?_ (by rw [List.size_toArray]; omega)
    rw [PySem.W.krv_pick]
    refine ⟨.ref _, _, I5.laid (t' := s4.toks) (o := .lst xs.reverse) (fun b ob q => Heap.get?_push_of_some _ q) (Nat.le_refl _) ?_, rfl, q _ (I5.hok.fresh (Nat.le_refl _))⟩
    exact ⟨by rw [List.length_reverse]; exact hz, _, 0, r.reverse, Heap.get?_push_size _ rfl⟩
  · obtain ⟨its, r, ht, hz⟩ := I5.tuple hx
    have hlen := r.length
    refine tail_any (ops := [.ref a, .ref s4.heap.objs.size]) ht.typeIs (PyProof.Rows.slot_tuple_getitem.lookup) ?_ (by with_unfolding_all rfl)
    refine getItem_tuple_rev ht (Heap.IsSliceOf.new _ .none .none vs) ps ?_ (by rw [List.size_toArray]; omega)
    refine ⟨.ref _, _, I5.laid (t' := s4.toks) (o := .tup xs.reverse) (fun b ob q => Heap.get?_push_of_some _ q) (Nat.le_refl _) ?_, rfl, q _ (I5.hok.fresh (Nat.le_refl _))⟩
    exact ⟨by rw [List.length_reverse]; exact hz, _, r.reverse, IsTup.new _ _⟩
def trev (te : TTE) : TTE := fun st G R => te st G fun x G1 => match x with
  | .tup xs => R (.tup xs.reverse) G1
  | .fl xs => ∀ l, G1 l = none → R (.ref l) (gupd G1 l (.lst xs.reverse))
  | .ref p => ∃ xs, G1 p = some (.lst xs) ∧ ∀ l, G1 l = none → R (.ref l) (gupd G1 l (.lst xs.reverse))
  | _ => False
theorem w_revs {X : Cx} {e : Expr} {te : TTE} {k : Nat} {p1 p2 p3 pos : Pos} (he : PE X e (LE X.K te)) : PE X (.Subscript e (.Slice none none (some (.UnaryOp .USub (.Constant (.int 1) k p1) p2)) p3) pos) (LE X.K (trev te)) := (pe_revA he).imp fun σ H Q => by
  rintro ⟨st, G, R, rs, rg, q, k⟩
  refine ⟨st, G, _, rs, rg, q, fun x vx G1 H1 rx rg1 s1 q1 => ?_⟩
  have k := k.stay s1
  split at q1
  · simp only [Rep] at rx
    obtain ⟨a, vs, rfl, hs, r⟩ := rx
    exact ⟨a, vs, rfl, .inr ⟨hs, fun p hp => k _ _ G1 _ (rep_tup hp r.reverse) (rg1.new hp) (stay_upd (wr_none hp)) q1⟩⟩
  · simp only [Rep] at rx
    obtain ⟨a, vs, rfl, hs, r⟩ := rx
    exact ⟨a, vs, rfl, .inl ⟨hs.seq, fun p hp => k (.ref p) _ _ _ rfl (rg1.newL hp r.reverse) (stay_upd (wr_none hp)) (q1 p (rg1.free hp))⟩⟩
  · cases rx
    obtain ⟨xs, e, q1⟩ := q1
    obtain ⟨vs, hs, r⟩ := rg1.lst e
    exact ⟨_, vs, rfl, .inl ⟨.of hs, fun p hp => k (.ref p) _ _ _ rfl (rg1.newL hp r.reverse) (stay_upd (wr_none hp)) (q1 p (rg1.free hp))⟩⟩
  · exact q1.elim
end TL

namespace TL
open PySem PySem.Spec PyProof.Rows L2
open AutoSeq1 in
set_option maxRecDepth 8000 in
theorem extend_tup (l : Addr) (xs : Array Value) (n : Nat) (b : Addr) (ys : Array Value) (m : Nat) (dd : Option Addr) (sl : Array (Option Value)) (h0 : ¬(!xs.isEmpty && Builtin.List.listTooLong (xs.size + ys.size)) = true) (h1 : xs.size ≤ sizeLine) (h2 : xs.size + ys.size ≤ sizeLine + 1) :
    Meets (Builtin.«list.extend» ⟨[.ref l, .ref b], []⟩) (fun _ R s => s.heap.get? l = some { cls := .type "list", dict := none, data := .seq xs n, slots := #[] } ∧ s.heap.get? b = some { cls := .type "tuple", dict := dd, data := .seq ys m, slots := sl } ∧
      R (.ok (.ret Value.none)) { s with heap := s.heap.update l (Obj.mapSeq fun x => x ++ ys), toks := s.toks }) :=
  .of_wp fun prog w A R s h => by
    obtain ⟨hp, g, d, tk, os⟩ := s
    obtain ⟨hl, hb, h⟩ := h
    have f1 := idx_int
    have f2 := AutoSeq1.sub_tuple_tuple
    have f3 := AutoSeq1.sub_list_list
    have f4 := AutoSeq1.sub_tuple_list
    have f5 := AutoSeq1.sub_list_tuple
    have hz' : (xs ++ ys).size ≤ sizeLine + 1 := by rw [Array.size_append]; exact h2
    wp_walk using (wpAny_updateSeq hl rfl (hz := h1) (_hz' := hz')), wpAny_loadPart' hl, wpAny_loadPart' hb
    exact ⟨_, rfl, h⟩
def rExtA (K : PySem.W.Frag) : V → List V → Hp → VK → Prop := fun x vs H Q => ∃ l b xs zs, x = .ref l ∧ vs = [.ref b] ∧ H l = some (.lst xs) ∧ (H b = some (.lst zs) ∨ SqT K H b zs) ∧ xs.length + zs.length ≤ sizeLine ∧ Q .non (upd H l (.lst (xs ++ zs)))
theorem mt_extA {X : Cx} : MtM X "list.extend" (rExtA X.K) := by
  intro pins s σ H x vs v us Q I rx rv h
  obtain ⟨l, b, xs, zs, rfl, rfl, hH, hB, hz, q⟩ := h
  rcases hB with hB | hB
  · exact mt_extend pins s σ H _ _ v us Q I rx rv ⟨l, b, xs, zs, rfl, rfl, hH, hB, hz, q⟩
  · cases rx
    obtain ⟨u, rfl, ru⟩ := rv.one
    cases ru
    obtain ⟨z, its, n, r, hl, e⟩ := I.lstM hH
    obtain ⟨its2, r2, ⟨⟨cls, dd, data, sl⟩, e2, hc, m, hd⟩, hl2⟩ := I.tuple hB
    simp only at hc hd
    subst hc hd
    have len1 := r.length
    have len2 := r2.length
    have hsz : its.toArray.size + its2.toArray.size ≤ sizeLine := by rw [List.size_toArray, List.size_toArray]; omega
    have hlong : ¬ (!its.toArray.isEmpty && Builtin.List.listTooLong (its.toArray.size + its2.toArray.size)) = true := by
      rw [notLongL hsz, Bool.and_false]
      exact Bool.false_ne_true
    refine call_meets F.slot_list_extend ⟨_, e, rfl⟩ F.entry_list_extend (F.args_list_extend_2 _ _)
      (extend_tup l its.toArray n b its2.toArray m dd sl hlong (by rw [List.size_toArray]; omega) (by omega)) ⟨e, e2, ?_⟩
    refine ⟨.non, _, I.lset (its' := its ++ its2) hH e (by simp) (r.append r2) ?_, rfl, q⟩
    rw [List.length_append]
    omega
def mextend : T → List T → GH → TK → Prop := fun x xs G R => ∃ p ys zs, x = .ref p ∧ (xs = [.tup zs] ∨ ∃ q, xs = [.ref q] ∧ G q = some (.lst zs)) ∧ G p = some (.lst ys) ∧ ys.length + zs.length ≤ sizeLine ∧ R .non (gupd G p (.lst (ys ++ zs)))
theorem up_extend {K : PySem.W.Frag} : UpM K mextend (rExtA K) := by
  rintro x vx xs vs G H R Q rx rxs rg ⟨p, ys, zs, rfl, hx, e, hz, q⟩ k
  cases rx
  obtain ⟨ws, h1, r1⟩ := rg.lst e
  rcases hx with rfl | ⟨q', rfl, e'⟩
  · obtain ⟨v, rfl, r⟩ := rxs.of_one
    simp only [Rep] at r
    obtain ⟨a, va, rfl, hs, r⟩ := r
    exact ⟨_, a, ws, va, rfl, rfl, h1, .inr hs, by rw [r1.length, r.length]; exact hz, k .non .non _ _ rfl (rg.setL h1 (r1.append r)) (stay_upd (wr_lst h1)) q⟩
  · obtain ⟨v, rfl, r⟩ := rxs.of_one
    cases r
    obtain ⟨va, h2, r⟩ := rg.lst e'
    exact ⟨_, _, ws, va, rfl, rfl, h1, .inl h2, by rw [r1.length, r.length]; exact hz, k .non .non _ _ rfl (rg.setL h1 (r1.append r)) (stay_upd (wr_lst h1)) q⟩
theorem w_extend {X : Cx} {o e : Expr} {to : TTE} {t : TTA} {apos cpos : Pos} (ho : PE X o (LE X.K to)) (ha : PA X [e] (LA X.K t)) (hbase : attributeBase o "extend" X.env (eval o X.env) = eval o X.env := by rfl)
    (hfew : ((backTo cpos (starEach [e] X.env)).all (fun x => !x.1) && (backToKw cpos (keywordEach [] X.env)).all (fun x => x.1.isSome) && decide (([e] : List Expr).length + ([] : List Keyword).length + (if ([] : List Keyword).isEmpty then 0 else 1) < 30)) = true := by rfl)
    (hline : (apos.endLine == cpos.line) = true := by rfl) (hs : starEach [e] X.env = (false, eval e X.env) :: starEach [] X.env := by rfl) (hplain : (backTo cpos (starEach [] X.env)).any (·.1) = false := by rfl) :
    PE X (.Call (.Attribute o "extend" apos) [e] [] cpos) (LE X.K (tmeth mextend to t)) :=
  (pe_bm PySem.F.plainAttrs_list PySem.F.slot_list_extend PySem.F.type_list_extend mt_extA ho ha hbase hfew hline hs hplain).imp fun _ _ _ => LE_bm up_extend

/-- for k in d; d is not changed within -/
def lockD (p : Addr) (kvs : List (Key × T)) (r : HO) (D : TEnds) : TEnds :=
  ⟨fun st G => G p = some (.dKr kvs r) ∧ D.nx st (gupd G p (.dK kvs)), fun t G => G p = some (.dKr kvs r) ∧ D.rt t (gupd G p (.dK kvs)), fun st G => G p = some (.dKr kvs r) ∧ D.bk st (gupd G p (.dK kvs)), fun st G => G p = some (.dKr kvs r) ∧ D.ct st (gupd G p (.dK kvs))⟩
def tforD (i : Nat) (g : TTG) (tb : TTS) : TTS := fun D st G => ∃ p kvs, st[i]? = some (some (.ref p)) ∧ G p = some (.dK kvs) ∧ ∀ r,
  forGo (fun G' => G' p = some (.dKr kvs r)) g tb (lockD p kvs r D) (kvs.map fun kv => kT kv.1) st (gupd G p (.dKr kvs r))
theorem fits_keys {K : PySem.W.Frag} {H : Hp} {p : Addr} {kvs : List (Key × T)} {ws : List (Key × V)} {od : Obj} (r : KVR K H kvs ws) :
    Fits K (Itk p od ws) (kvs.map fun kv => kT kv.1) (fun G' => G' p = some (.dKr kvs (.frz od (.dK ws)))) H := by
  refine ⟨fun H1 G i t s rg kp e => ?_, fun H1 G i s rg kp hl => ⟨(rg p _ kp).1, by rw [r.length]; simpa using Nat.le_of_eq hl.symm⟩⟩
  rw [List.getElem?_map] at e
  cases ek : kvs[i]? with
  | none => rw [ek] at e; cases e
  | some kv =>
    rw [ek] at e
    cases e
    have hl : i < ws.length := by
      rw [r.length]
      rcases Nat.lt_or_ge i kvs.length with h' | h'
      · exact h'
      · rw [List.getElem?_eq_none h'] at ek; cases ek
    refine ⟨⟨(rg p _ kp).1, hl⟩, ?_⟩
    rintro x H' ⟨rfl, k, v, e1, rfl⟩
    have e2 : (kvs.map fun kv => kT kv.1)[i]? = some (kT kv.1) := by rw [List.getElem?_map, ek]; rfl
    obtain ⟨v2, e3, r2⟩ := (reps_keys r).get e2
    rw [List.getElem?_map, e1] at e3
    cases e3
    exact ⟨by
      have := r2.stay s
      exact this, rg, .refl⟩
theorem s_forD {X : Cx} {i : Nat} {tg iter : Expr} {g : TTG} {tb : TTS} {body : List Stmt} {pos : Pos} (hp : PassesOwn (model X.prog X.w) X.A X.env X.xe) (hc : X.calm = true) (hi : PE X iter (tVar i)) (hg : PG X tg (LG X.K g)) (hb : PSs X body (LS X.K tb))
    (hs : ∀ x, foldedSetIterable iter X.env x = pure x := by intro _; rfl) : PS X (.For tg iter body [] pos) (LS X.K (tforD i g tb)) := (ps_lock (ps_for hp hc (pi_keys hi) hg hb hs)).imp fun D σ H => by
  rintro ⟨st, G, R, rs, rg, ⟨p, kvs, e1, e2, q⟩, k⟩
  obtain ⟨v, e3, rv⟩ := rs.2 i _ e1
  cases rv
  obtain ⟨ws, h1, r⟩ := rg.dK e2
  refine ⟨p, .dK ws, h1, True.intro, fun od => ?_⟩
  have s1 : Stay X.K H (upd H p (.frz od (.dK ws))) := stay_upd (wr_dK h1)
  have rg1 : RG X.K (upd H p (.frz od (.dK ws))) (gupd G p (.dKr kvs (.frz od (.dK ws)))) := rg.put (wr_dK h1) ⟨upd_same, ws, .inr ⟨od, rfl⟩, r.stay s1⟩
  refine ⟨.ref p, e3, p, od, rfl, .inl ⟨ws, upd_same, for_core (fits_keys (r.stay s1)) (rs.stay s1) rg1 (q (.frz od (.dK ws))) ?_⟩⟩
  have un : ∀ {G' : GH} {H' : Hp}, RG X.K H' G' → Stay X.K (upd H p (.frz od (.dK ws))) H' → G' p = some (.dKr kvs (.frz od (.dK ws))) → H' p = some (.frz od (.dK ws)) ∧ Stay X.K H' (upd H' p (.dK ws)) ∧ RG X.K (upd H' p (.dK ws)) (gupd G' p (.dK kvs)) := fun {G' H'} rg' s' e' => by
    obtain ⟨h2, ws2, h3, r3⟩ := rg' p _ e'
    have w : Wr (H' p) := by rw [h2]; exact True.intro
    have s2 : Stay X.K H' (upd H' p (.dK ws)) := stay_upd w
    refine ⟨h2, s2, rg'.put w ⟨ws, upd_same, (r.stay s1).stay (s'.trans s2)⟩⟩
  refine ⟨?_, ?_, ?_, ?_⟩
  · rintro st' σ' G' H' rs' rg' s' ⟨e', q'⟩
    obtain ⟨h2, s2, rg2⟩ := un rg' s' e'
    exact ⟨h2, k.nx st' σ' _ _ (rs'.stay s2) rg2 (s1.trans (s'.trans s2)) q'⟩
  · rintro t v G' H' rv rg' s' ⟨e', q'⟩
    obtain ⟨h2, s2, rg2⟩ := un rg' s' e'
    exact ⟨h2, k.rt t v _ _ (rv.stay s2) rg2 (s1.trans (s'.trans s2)) q'⟩
  · rintro st' σ' G' H' rs' rg' s' ⟨e', q'⟩
    obtain ⟨h2, s2, rg2⟩ := un rg' s' e'
    exact ⟨h2, k.bk st' σ' _ _ (rs'.stay s2) rg2 (s1.trans (s'.trans s2)) q'⟩
  · rintro st' σ' G' H' rs' rg' s' ⟨e', q'⟩
    obtain ⟨h2, s2, rg2⟩ := un rg' s' e'
    exact ⟨h2, k.ct st' σ' _ _ (rs'.stay s2) rg2 (s1.trans (s'.trans s2)) q'⟩
end TL

namespace TL
open PySem PySem.Spec PyProof.Rows L2
/-- nothing is being shown around here -/
abbrev Qt (A : Around) : Prop := A.guards = some []
/-- room for k calls, one in the other -/
structure Room (k : Nat) (A : Around) : Prop where
  hd : A.handled = none
  dp : A.depth + k + 25 < recursionLimit
  un : A.units + 3 * k + 1500 < cLine
theorem Room.mono {j k : Nat} {A : Around} (r : Room k A) (h : j ≤ k) : Room j A := ⟨r.hd, by have := r.dp; omega, by have := r.un; omega⟩
theorem Room.deeper {k : Nat} {A : Around} (r : Room (k + 1) A) (env : Env) : Room k (A.deeper env) :=
  ⟨r.hd, by have := r.dp; show A.depth + 1 + k + 25 < _; omega, by have := r.un; show A.units + 3 + 3 * k + 1500 < _; omega⟩
theorem Room.depth {k : Nat} {A : Around} (r : Room k A) : A.depth < recursionLimit := by have := r.dp; omega
theorem Room.units {k : Nat} {A : Around} (r : Room k A) : A.units + 64 < cLine := by have := r.un; omega
/-- the hand layer's room -/
theorem Room.b {k : Nat} {A : Around} (r : Room k A) : L2.Room 4 A := ⟨r.hd, by have := r.dp; omega, by have := r.un; omega⟩
/-- a def's promise, kept wherever nothing is being shown -/
structure FnG (P : Program) (w : World) (K : PySem.W.Frag) (mg : Str → Option Value) (base : Heap) (k : Nat) (f : Addr) (fd : FuncData) (ps : List Str) (sp : Sp) : Prop where
  len : ∀ vs H Q E, sp vs H Q E → vs.length = ps.length
  run : ∀ A, Room k A → Qt A → ∀ outer s H, Env0 P w K mg base A outer s H → ∀ (args : Args) us vs, BindsTo s fd args (ps.zip us) → Vals vs us → ∀ Q E, sp vs H Q E →
    codeAny (model P w) A (.call (.ref f) args) (CR CX0 outer P w H s Q E) s
theorem FnG.imp {P : Program} {w : World} {K : PySem.W.Frag} {mg : Str → Option Value} {base : Heap} {k : Nat} {f : Addr} {fd : FuncData} {ps : List Str} {sp sp' : Sp} (F : FnG P w K mg base k f fd ps sp)
    (h : ∀ vs H Q E, sp' vs H Q E → sp vs H Q E) : FnG P w K mg base k f fd ps sp' :=
  ⟨fun vs H Q E q => F.len vs H Q E (h _ _ _ _ q), fun A hr hg outer s H e0 args us vs hb hv Q E hs => F.run A hr hg outer s H e0 args us vs hb hv Q E (h _ _ _ _ hs)⟩
section
variable {X : Cx} {k : Nat} {f : Addr} {fd : FuncData} {ps : List Str} {sp : Sp} {x : Str} {p pos : Pos} {e : Expr} {es : List Expr} {t : TA}
theorem FnG.at {pins : List (Addr × Obj)} {σ : L2.St} {H : Hp} {s : Shared} {Q : VK} {us : List Value} {vs : List V} (F : FnG X.prog X.w X.K X.mg X.base k f fd ps sp) (hr : Room k X.A) (hq : Qt X.A) (hb : Binds X.K fd ps [])
    (I : Inv X pins σ H s) (r : Vals vs us) (h : sp vs H Q fun _ _ _ => False) : wpAny (model X.prog X.w) X.A (call (.ref f) us) (EP X pins σ Q) X.xe s := by
  have hl : us.length = ps.length := r.length ▸ F.len _ _ _ _ h
  have bd : BindsTo s fd ⟨us, []⟩ (ps.zip us) := by
    have := hb s us I.kIn (by rw [List.append_nil]; exact hl)
    rwa [List.append_nil] at this
  have run := F.run X.A hr hq X.stack s H I.env0 ⟨us, []⟩ us vs bd r Q _ h
  refine wpAny_call (codeAny_mono run fun r s' hq => ?_)
  match r, hq with
  | .error e, hq => exact False.elim hq
  | .ok (.ret u), hq => exact I.after hq
end
/-- the locals' kinds, as a new frame wants them -/
theorem kinds_of {sc : Scope} {N ps : List Str} {n : Nat} {us : List Value} (S : FnScope N ps sc) (y : Str × Value) (hy : y ∈ ps.zip us) : sc.names.lookup y.1 = some .local ∨ (sc.names.lookup y.1 = some .cell ∧ ((cellsFrom n sc.names []).lookup y.1).isSome = true) := by
  obtain ⟨a, b⟩ := y
  refine (S.par a (List.of_mem_zip hy).1).imp id fun q => ⟨q, ?_⟩
  exact PySem.W.cellsFrom_some _ _ _ (.inl q)
theorem FnG.of {P : Program} {w : World} {K : PySem.W.Frag} {mg : Str → Option Value} {base : Heap} {k : Nat} {f : Addr} {nm ql : Str} {ar : Arguments} {bd : List Stmt} {sc : Scope} {v1 v2 v3 v4 cdv v5 v6 : Value} {o1 o2 : Option Addr}
    {sl : Array (Option Value)} {N ps : List Str} {sp : Sp} (lk : K.lookup f = some ⟨v6, o2, .func (PySem.W.fnOf nm ql ar bd sc v1 v2 v3 v4 o1 cdv v5), sl⟩) (hc : PySem.W.codeIn K cdv ql = true) (S : FnScope N ps sc) (len : ∀ vs H Q E, sp vs H Q E → vs.length = ps.length)
    (body : ∀ A outer s H E, Room k (A.deeper (envOfC ql sc s.heap.objs.size f cdv)) → Qt (A.deeper (envOfC ql sc s.heap.objs.size f cdv)) → ∀ vs Q, sp vs H Q E →
      ∃ t, PSs (cxOf CX0 P w K mg base N ql sc f cdv A outer s H E) bd t ∧ t { nx := fun _ H' => Q .non H', rt := Q } (L2.start N vs) H) :
    FnG P w K mg base (k + 1) f (PySem.W.fnOf nm ql ar bd sc v1 v2 v3 v4 o1 cdv v5) ps sp := by
  refine ⟨len, fun A hr hq outer s H e0 args us vs hb hv Q E hs => ?_⟩
  have up : ∀ b o, base.get? b = some o → s.heap.get? b = some o := fun b o e => (e0.bs b o e).1
  obtain ⟨t, ht, q⟩ := body A outer s H E (hr.deeper _) hq vs Q hs
  refine codeAny_call_function hr.depth (e0.mod.kin.keeps up _ _ lk) rfl S.co S.gen rfl (PySem.W.codeRec_of (e0.mod.kin.keeps up) hc) (hb _ _ _ _ ?_)
  refine wpAny_newFunctionEnv_cells S.kind (fun y hy => kinds_of S y hy) ?_
  intro env he s1 x
  subst he
  refine ⟨(e0.mod.nolimit.keeps up).keeps x.toInCall.keep, codeAny_func ?_⟩
  refine wpAny_mono (ht.run [] s1 _ H _ (inv_start S hr.hd e0 (len _ _ _ _ hs) hv x) q) ?_ fun _ _ h => h
  intro fl s' h
  match fl, h with
  | .ret u, ⟨v, _, H', J, r, z⟩ => exact ⟨v, H', J.os, J.bare, J.base, J.hok, r, z⟩
  | .next, ⟨_, H', J, z⟩ => exact ⟨.non, H', J.os, J.bare, J.base, J.hok, rfl, z⟩
  | .brk, ⟨_, _, _, z⟩ => exact z.elim
  | .cont, ⟨_, _, _, z⟩ => exact z.elim
end TL

namespace TL
open PySem PySem.Spec PyProof.Rows L2
/-- a list, a tuple, an empty table -/
def Odd (o : Obj) : Prop := (∃ vs n, o.data = .seq vs n) ∨ o.data = .fields #[]
/-- what is told at a law's start: the tables, the script where it may be written -/
structure Fst (P : Program) (w : World) (K : PySem.W.Frag) (h : Heap) (cs : List (Addr × Addr)) (a : Addr) (ns : List Int) (H : Hp) : Prop where
  tab : ∀ p ∈ cs, H p.2 = some (.tbl #[])
  own : ∀ b u, H b = some u → (∃ p ∈ cs, p.2 = b) ∨ (b = a ∧ K.lookup a = none ∧ ∃ o xs, u = .frz o (.lst xs))
  scr : SqL K H a (ns.map V.int)
  ok : HOk P w H h
section
variable {P : Program} {w : World} {K : PySem.W.Frag} {mg mb : Str → Option Value} {k : Nat} {fa a : Addr} {cs : List (Addr × Addr)} {fd : FuncData} {x : Str} {sp : Sp} {s : Shared} {vs : List Value} {ns : List Int} {H : Hp}
theorem Fst.odd (F : Fst P w K s.heap cs a ns H) (hT : ∀ p ∈ cs, s.heap.get? p.2 = some { cls := .none, data := .fields #[] }) (ha : s.heap.get? a = some { cls := .type "list", data := .seq vs.toArray }) {b : Addr} {o : Obj} (e : s.heap.get? b = some o) (n : ¬ Odd o) : H b = none := by
  cases q : H b with
  | none => rfl
  | some u =>
    refine absurd ?_ n
    rcases F.own b u q with ⟨p, hp, rfl⟩ | ⟨rfl, _⟩
    · rw [hT p hp] at e; cases e; exact .inr rfl
    · rw [ha] at e; cases e; exact .inl ⟨_, _, rfl⟩
theorem Fst.kin (F : Fst P w K s.heap cs a ns H) (KX : K.In s.heap) (nT : ∀ p ∈ cs, K.lookup p.2 = none) : K.In (hidT s.heap H) := by
  intro b o e
  refine hidT_get (KX b o e) ?_
  cases q : H b with
  | none => rfl
  | some u =>
    rcases F.own b u q with ⟨p, hp, rfl⟩ | ⟨rfl, z, _⟩
    · rw [nT p hp] at e; cases e
    · rw [z] at e; cases e
theorem odd_dict {o : Obj} {es : Array DictEntry} {n : Nat} (d : o.data = .dict es n) : ¬ Odd o := by
  rintro (⟨_, _, z⟩ | z) <;> (rw [d] at z; cases z)
theorem odd_plain {o : Obj} (d : o.data = .plain) : ¬ Odd o := by
  rintro (⟨_, _, z⟩ | z) <;> (rw [d] at z; cases z)
theorem odd_some {o : Obj} {vs : Array Value} {i : Nat} {v : Value} (d : o.data = .fields vs) (e : vs[i]? = some v) : ¬ Odd o := by
  rintro (⟨_, _, z⟩ | z)
  · rw [d] at z; cases z
  · rw [d] at z; cases z; simp at e
theorem Fst.run (F : Fst P w K s.heap cs a ns H) (KX : K.In s.heap) (hns : s.heap.Ns mainGlobals mg) (hb : s.heap.Ns builtinsNs mb) (hbb : ∀ y : Str, y ≠ "__name__" → mb y = bootBuiltins y) (hlim : s.heap.NoLimit) (hg : s.gens = #[])
    (hT : ∀ p ∈ cs, s.heap.get? p.2 = some { cls := .none, data := .fields #[] }) (nT : ∀ p ∈ cs, K.lookup p.2 = none) (C : ∀ p ∈ cs, PySem.W.CodeHd s.heap p.1 p.2)
    (hbm : ∃ (bm : Addr) (ob : Obj), mg "__builtins__" = some (.ref bm) ∧ bm ≠ builtinsNs ∧ s.heap.get? bm = some ob ∧ ob.cls = .type "module" ∧ ob.dict = some builtinsNs ∧ ob.data = .plain)
    (ha : s.heap.get? a = some { cls := .type "list", data := .seq vs.toArray }) (hr : Room k callerA)
    (hF : ∀ base : Heap, K.In base → base.Ns mainGlobals mg → (∀ p ∈ cs, LamX.TabB base mg p.1 p.2) → FnG P w K mg base k fa fd [x] sp) (bind : ∀ (s : Shared) (u : Value), BindsTo s fd ⟨[u], []⟩ [(x, u)])
    (hsp : ∀ E, sp [.ref a] H (fun v _ => v = .bl true) E) :
    codeAny (model P w) callerA (.call (.ref fa) ⟨[.ref a], []⟩) (fun r s' => r = .ok (.ret (.bool true)) ∧ OldK s.heap s'.heap ∧ s'.os = s.os ∧ AllBare s'.gens) s := by
  have see : ∀ {b o}, s.heap.get? b = some o → ¬ Odd o → (hidT s.heap H).get? b = some o := fun e n => hidT_get e (F.odd hT ha e n)
  have ns' : ∀ {b : Addr} {m : Str → Option Value}, s.heap.Ns b m → (hidT s.heap H).Ns b m := by
    rintro b m ⟨o, es, n, e, d, r⟩
    exact ⟨o, es, n, see e (odd_dict d), d, r⟩
  have mod : L2.Mod K mg (hidT s.heap H) := by
    obtain ⟨mc, l1, l2⟩ := hlim
    exact ⟨F.kin KX nT, ns' hns, ⟨mb, ns' hb, hbb⟩, ⟨mc, ns' l1, l2⟩⟩
  obtain ⟨og, eg, ng, g1, g2, _⟩ := id hns
  have tb : ∀ p ∈ cs, LamX.TabB (hidT s.heap H) mg p.1 p.2 := by
    intro p hp
    obtain ⟨bm, ob, m1, m2, m3, m4, m5, m6⟩ := hbm
    constructor
    · obtain ⟨o, us, fl, tf, gs, tg, bb, tx, tt, c1, c2, c3, c4⟩ := C p hp
      exact ⟨o, us, fl, tf, gs, tg, bb, tx, tt, see c1 (odd_some c3 c4.1), c2, c3, c4⟩
    · refine ⟨bm, ob, m1, m2, ?_, ?_, see m3 (odd_plain m6), m4, m5, m6⟩
      · rintro rfl
        rw [g1] at m3; cases m3; rw [g2] at m6; cases m6
      · rintro rfl
        rw [hT p hp] at m3; cases m3; cases m6
    · intro z
      rw [z, hT p hp] at g1; cases g1; cases g2
  have env : Env0 P w K mg (hidT s.heap H) callerA [] s H := by
    refine ⟨rfl, mod, fun b o e => of_hidT e, Nat.le_of_eq (hidT_size _ _), trivial, ?_, F.ok, .of_eq hg⟩
    intro b z
    cases (show b ∈ ([] : List Addr) from z)
  have run := (hF _ mod.kin mod.glob tb).run callerA hr rfl [] s H env ⟨[.ref a], []⟩ [.ref a] [.ref a] (bind s _) (.cons rfl .nil) _ (fun _ _ _ => False) (hsp _)
  refine codeAny_mono run fun r s' h => ?_
  match r, h with
  | .error e, h => exact False.elim h
  | .ok (.ret u), h =>
    obtain ⟨v, H', os, bare, un, ok', rv, rfl⟩ := h
    obtain rfl : u = Value.bool true := rv
    have kept : ∀ b o, s.heap.get? b = some o → (∀ p ∈ cs, p.2 ≠ b) → s'.heap.get? b = some o := by
      intro b o e nt
      cases q : H b with
      | none => exact un.keep b o e q (fun z => by cases (show b ∈ ([] : List Addr) from z)) (fun z => by cases z)
      | some u =>
        rcases F.own b u q with ⟨p, hp, z⟩ | ⟨_, _, ob, xs, rfl⟩
        · exact absurd z (nt p hp)
        · obtain ⟨e1, _⟩ := F.ok b _ q
          obtain ⟨e2, _⟩ := ok' b _ (un.frzs b ob _ q)
          rw [e1] at e; cases e
          exact e2
    have grew : ∀ p ∈ cs, ∃ more : Array Value, s'.heap.get? p.2 = some { cls := .none, data := .fields more } := fun p hp => (un.tbls p.2 #[] (F.tab p hp)).imp fun more z => by
      have := ok' p.2 _ z
      rw [Array.empty_append] at this
      exact this
    refine ⟨rfl, ⟨fun b o e => ?_, fun b o e => ?_⟩, os, bare⟩ <;> by_cases hm : ∃ p ∈ cs, p.2 = b
    · obtain ⟨p, hp, rfl⟩ := hm
      rw [hT p hp] at e; cases e
      obtain ⟨more, hm⟩ := grew p hp
      refine .inr (.inl ⟨((C p hp).tab (hT p hp)).isCodeTable, rfl, #[], more, rfl, ?_⟩)
      rw [Array.empty_append]; exact hm
    · exact .inl (kept b o e fun p hp z => hm ⟨p, hp, z⟩)
    · obtain ⟨p, hp, rfl⟩ := hm
      obtain ⟨more, hm⟩ := grew p hp
      exact ⟨_, hm⟩
    · exact ⟨o, kept b o e fun p hp z => hm ⟨p, hp, z⟩⟩
/-- there are such things -/
theorem Fst.ex (KX : K.In s.heap) (hT : ∀ p ∈ cs, s.heap.get? p.2 = some { cls := .none, data := .fields #[] }) (ha : s.heap.get? a = some { cls := .type "list", data := .seq vs.toArray }) (hi : IntsAre vs ns) (hl : ns.length ≤ sizeLine) : ∃ H, Fst P w K s.heap cs a ns H := by
  have rv := vals_ints hi
  have na : ∀ p ∈ cs, p.2 ≠ a := by
    intro p hp z
    have := hT p hp
    rw [z, ha] at this; cases this
  cases hk : K.lookup a with
  | some o =>
    have e := KX a o hk
    rw [ha] at e; cases e
    refine ⟨fun b => if ∃ q ∈ cs, q.2 = b then some (.tbl #[]) else none, fun p hp => if_pos ⟨p, hp, rfl⟩, fun b u z => ?_, .inr ⟨_, vs.toArray, _, hk, rfl, rfl, rfl, ?_, by simpa using rv⟩, fun b u z => ?_⟩
    · split at z
      · exact .inl (by assumption)
      · cases z
    · rw [List.size_toArray, hi.length]; exact hl
    · split at z
      · rename_i hm
        obtain ⟨p, hp, rfl⟩ := hm
        cases z
        exact hT p hp
      · cases z
  | none =>
    refine ⟨fun b => if ∃ q ∈ cs, q.2 = b then some (.tbl #[]) else if b = a then some (.frz { cls := .type "list", data := .seq vs.toArray } (.lst (ns.map V.int))) else none, fun p hp => if_pos ⟨p, hp, rfl⟩, fun b u z => ?_, .inl (.inr ⟨{ cls := .type "list", data := .seq vs.toArray }, ?_⟩), fun b u z => ?_⟩
    · split at z
      · exact .inl (by assumption)
      · split at z
        · cases z
          exact .inr ⟨by assumption, hk, _, _, rfl⟩
        · cases z
    · exact (if_neg fun ⟨p, hp, z⟩ => na p hp z).trans (if_pos rfl)
    · split at z
      · rename_i hm
        obtain ⟨p, hp, rfl⟩ := hm
        cases z
        exact hT p hp
      · split at z
        · rename_i hb
          subst hb
          cases z
          exact ⟨ha, by rw [List.length_map]; exact hl, vs, _, rv, ha⟩
        · cases z
end
end TL

namespace TL
open PySem PySem.Spec PyProof.Rows L2
/-- a def of the text -/
abbrev dOf (x : Str) (st : Stmt) : He.DefD := ⟨(x, none), x, x, defArgs st, defBody st, defScope st, [], []⟩
/-- what is asked of the text: names, defs, tables of code objects (with the name that their objects bear), more -/
structure Fx where
  fa : List He.Fa
  fn : List He.DefD
  tf : List (He.Defn × Str) := []
  /-- dicts of the top: texts to numbers; tuples of texts of the top -/
  dk : List (Str × List (Str × Int)) := []
  tk : List (Str × List Str) := []
  ex : PySem.W.Frag → Bool := fun _ => true
def strsB : List Value → List Str → Bool
  | [], [] => true
  | .str y _ :: r, z :: zs => decide (y = z) && strsB r zs
  | _, _ => false
theorem strsB_ok : ∀ {us : List Value} {zs : List Str}, strsB us zs = true → Vals (zs.map V.str) us
  | [], [], _ => .nil
  | u :: r, [], h => by cases u <;> cases h
  | [], _ :: _, h => by cases h
  | u :: r, z :: zs, h => by
    cases u with
    | str y t =>
      obtain ⟨h1, h2⟩ := Bool.and_eq_true_iff.mp (show (decide (y = z) && strsB r zs) = true from h)
      exact .cons ⟨t, by rw [of_decide_eq_true h1]⟩ (strsB_ok h2)
    | _ => cases h
/-- the tuple of the texts zs stands in the written part -/
def tupB (K : PySem.W.Frag) (x : Str) (zs : List Str) : Bool := match K.lookup (He.ga K x) with
  | some ⟨.type c, _, .seq its _, _⟩ => decide (c = "tuple") && (decide (its.size ≤ 64) && strsB its.toList zs)
  | _ => false
theorem tupB_ok {K : PySem.W.Frag} {x : Str} {zs : List Str} (h : tupB K x zs = true) (H : Hp) : Rep K H (.tup (zs.map T.str)) (.ref (He.ga K x)) := by
  unfold tupB at h
  split at h
  · rename_i c d its n sl e
    obtain ⟨h1, h2⟩ := Bool.and_eq_true_iff.mp h
    obtain ⟨h3, h4⟩ := Bool.and_eq_true_iff.mp h2
    obtain rfl := of_decide_eq_true h1
    simp only [Rep]
    refine ⟨_, zs.map V.str, rfl, .inr ⟨_, its, n, e, rfl, rfl, Nat.le_trans (of_decide_eq_true h3) (by decide), strsB_ok h4⟩, ?_⟩
    clear h h2 h4 e
    induction zs with
    | nil => exact .nil
    | cons z zs ih => exact .cons rfl ih
  · cases h
/-- no two tables are one; and what else is asked -/
def Fx.exB (D : Fx) (K : PySem.W.Frag) : Bool := decide ((D.tf.map fun p => (He.cT K p.1).2).Nodup) && ((D.dk.all fun p => He.valsB K (He.ga K p.1) (p.2.map fun q => (q.1, .int q.2))) && ((D.tk.all fun p => tupB K p.1 p.2) && D.ex K))
/-- the dicts, as a head tells them -/
def Fx.ts (D : Fx) : List He.Tab := D.dk.map fun p => (fun K => He.ga K p.1, p.2.map (·.1))
/-- the text's facts -/
structure Tx (D : Fx) (w : World) (K : PySem.W.Frag) (mg : Str → Option Value) (h : Heap) : Prop where
  X : K.In h
  G : h.Ns mainGlobals mg
  t : He.SaysT D.fa D.fn D.ts w K
  more : D.exB K = true
  tabs : ∀ p ∈ D.tf, LamX.TabB h mg (He.cT K p.1).1 (He.cT K p.1).2
/-- the tables -/
def Fx.TT (D : Fx) (K : PySem.W.Frag) : List (Addr × Str) := D.tf.map fun p => ((He.cT K p.1).2, p.2)
def frB (fa : List He.Fa) (x : Str) : Bool := fa.any fun f => match f with | .free y => decide (y = x) | _ => false
def glB (fa : List He.Fa) (x : Str) : Bool := fa.any fun f => match f with | .glo y => decide (y = x) | _ => false
def stB (fa : List He.Fa) (x z : Str) : Bool := fa.any fun f => match f with | .str y u => decide (y = x) && decide (u = z) | _ => false
def inB (fa : List He.Fa) (x : Str) (z : Int) : Bool := fa.any fun f => match f with | .int y u => decide (y = x) && decide (u = z) | _ => false
section
variable {D : Fx} {w : World} {K : PySem.W.Frag} {mg : Str → Option Value} {h : Heap}
theorem nodup_map {α β : Type} {f : α → β} : ∀ {l : List α}, (l.map f).Nodup → ∀ a ∈ l, ∀ b ∈ l, f a = f b → a = b
  | [], _, a, ha, _, _, _ => absurd ha (by simp)
  | c :: l, h, a, ha, b, hb, e => by
    rw [List.map_cons, List.nodup_cons] at h
    rcases List.mem_cons.mp ha with h1 | h1 <;> rcases List.mem_cons.mp hb with h2 | h2
    · rw [h1, h2]
    · exact absurd (h1 ▸ e ▸ List.mem_map_of_mem h2) h.1
    · exact absurd (h2 ▸ e ▸ List.mem_map_of_mem h1) h.1
    · exact nodup_map h.2 a h1 b h2 e
theorem Tx.memT {D : Fx} {K : PySem.W.Frag} (p : He.Defn × Str) (hp : p ∈ D.tf) : ((He.cT K p.1).2, p.2) ∈ D.TT K := List.mem_map_of_mem (f := fun p : He.Defn × Str => ((He.cT K p.1).2, p.2)) hp
theorem Tx.uni (T : Tx D w K mg h) (p : He.Defn × Str) (hp : p ∈ D.tf) : ∀ r ∈ D.TT K, r.1 = (He.cT K p.1).2 → r.2 = p.2 := by
  intro r hr e
  obtain ⟨q, hq, rfl⟩ := List.mem_map.mp hr
  have hn := (Bool.and_eq_true_iff.mp T.more).1
  rw [nodup_map (of_decide_eq_true hn) q hq p hp e]
theorem Tx.fr (T : Tx D w K mg h) (x : Str) (e : frB D.fa x = true := by decide +kernel) : mg x = none := by
  obtain ⟨f, hf, q⟩ := List.any_eq_true.mp e
  split at q
  · rename_i y
    obtain rfl : y = x := of_decide_eq_true q
    exact He.free_ok T.X T.G (T.t.d.facts hf)
  · cases q
theorem Tx.gl (T : Tx D w K mg h) (x : Str) (e : glB D.fa x = true := by decide +kernel) : mg x = some (.ref (He.ga K x)) := by
  obtain ⟨f, hf, q⟩ := List.any_eq_true.mp e
  split at q
  · rename_i y
    obtain rfl : y = x := of_decide_eq_true q
    exact He.glo_ok T.X T.G (T.t.d.facts hf)
  · cases q
theorem Tx.str (T : Tx D w K mg h) (x z : Str) (e : stB D.fa x z = true := by decide +kernel) : ∃ t, mg x = some (.str z t) := by
  obtain ⟨f, hf, q⟩ := List.any_eq_true.mp e
  split at q
  · rename_i y u
    simp only [Bool.and_eq_true, decide_eq_true_eq] at q
    obtain ⟨rfl, rfl⟩ := q
    exact He.str_ok T.X T.G (T.t.d.facts hf)
  · cases q
theorem Tx.int (T : Tx D w K mg h) (x : Str) (z : Int) (e : inB D.fa x z = true := by decide +kernel) : ∃ t, mg x = some (.int z t) := by
  obtain ⟨f, hf, q⟩ := List.any_eq_true.mp e
  split at q
  · rename_i y u
    simp only [Bool.and_eq_true, decide_eq_true_eq] at q
    obtain ⟨rfl, rfl⟩ := q
    exact He.int_ok T.X T.G (T.t.d.facts hf)
  · cases q
end
/-- += of whole numbers -/
def vaddI : TR2 := fun x y G R => match x, y with
  | .int i, .int j => R (.int (i + j)) G
  | _, _ => False
theorem up_addI {K : PySem.W.Frag} : Up2 K vaddI (ipI fun i j => i + j) := by
  intro x y vx vy G H R Q rx ry rg h k
  unfold vaddI at h
  split at h
  · cases rx; cases ry
    exact ⟨_, _, rfl, rfl, k (.int _) _ G H rfl rg .refl h⟩
  · exact h.elim
/-- a dict of the top -/
def KTbl (K : PySem.W.Frag) (w : World) (x : Str) (tbl : List (Str × Int)) : Prop := ∀ z i, (z, i) ∈ tbl → KDct K w (He.ga K x) z (.int i)
theorem Tx.kd {D : Fx} {w : World} {K : PySem.W.Frag} {mg : Str → Option Value} {h : Heap} (T : Tx D w K mg h) {x : Str} {tbl : List (Str × Int)} (i : Nat) (e : D.dk[i]? = some (x, tbl)) : KTbl K w x tbl := by
  intro z j hz
  have hm := Bool.and_eq_true_iff.mp (Bool.and_eq_true_iff.mp T.more).2
  have hv := List.all_eq_true.mp hm.1 (x, tbl) (List.mem_of_getElem? e)
  obtain ⟨u, h1, h2⟩ := He.valsB_ok hv (q := (z, .int j)) (List.mem_map_of_mem (f := fun q : Str × Int => (q.1, He.Dv.int q.2)) hz)
  obtain ⟨es, n, h3, h4, _⟩ := T.t.tab i (t := (fun K => He.ga K x, tbl.map (·.1))) (by unfold Fx.ts; rw [List.getElem?_map, e]; rfl)
  exact ⟨es, n, u, h3, h4, h1, h2⟩
theorem Tx.tk {D : Fx} {w : World} {K : PySem.W.Frag} {mg : Str → Option Value} {h : Heap} (T : Tx D w K mg h) {x : Str} {zs : List Str} (i : Nat) (e : D.tk[i]? = some (x, zs)) (H : Hp) : Rep K H (.tup (zs.map TL.T.str)) (.ref (He.ga K x)) := by
  have hm := Bool.and_eq_true_iff.mp (Bool.and_eq_true_iff.mp (Bool.and_eq_true_iff.mp T.more).2).2
  exact tupB_ok (List.all_eq_true.mp hm.1 (x, zs) (List.mem_of_getElem? e)) H
/-- T[e], T such a dict -/
def tkd (tbl : List (Str × Int)) (te : TTE) : TTE := fun st G R => te st G fun y G1 => ∃ z i, y = .str z ∧ (z, i) ∈ tbl ∧ R (.int i) G1
theorem w_kdict {X : Cx} {pos p : Pos} {b : Expr} {tb : TTE} {x : Str} {tbl : List (Str × Int)} (hg : Gl X x) (hm : X.mg x = some (.ref (He.ga X.K x))) (hk : KTbl X.K X.w x tbl) (hb : PE X b (LE X.K tb)) (hs : PlainIx b) (hd : (x == ("__debug__" : Str)) = false := by decide) :
    PE X (.Subscript (.Name x p) b pos) (LE X.K (tkd tbl tb)) := (pe_ix ix_kdict (pe_glob hg hm (v := .ref (He.ga X.K x)) rfl hd) hb hs).imp fun σ H Q => by
  rintro ⟨st, G, R, rs, rg, q, k⟩
  refine ⟨st, G, _, rs, rg, q, fun y vy G1 H1 ry rg1 s1 ⟨z, i, ey, hz, q1⟩ => ?_⟩
  subst ey
  cases ry
  exact ⟨_, _, _, rfl, rfl, hk z i hz, k (.int i) (.int i) G1 H1 rfl rg1 s1 q1⟩
/-- a tuple of texts of the top -/
theorem w_gtup {X : Cx} {pos : Pos} {x : Str} {zs : List Str} (hg : Gl X x) (hm : X.mg x = some (.ref (He.ga X.K x))) (hr : ∀ H, Rep X.K H (.tup (zs.map T.str)) (.ref (He.ga X.K x))) (hd : (x == ("__debug__" : Str)) = false := by decide) : PE X (.Name x pos) (LE X.K (tcon (.tup (zs.map T.str)))) :=
  (pe_glob hg hm (v := .ref (He.ga X.K x)) rfl hd).imp fun _ _ _ => LE_con hr
/-- a def of the text keeps its promise -/
structure FnK (P : Program) (w : World) (K : PySem.W.Frag) (mg : Str → Option Value) (base : Heap) (x : Str) (k : Nat) (ps : List Str) (sp : TSp) : Prop where
  gl : mg x = some (.ref (He.ga K x))
  kp : PySem.W.keepIn K (.ref (He.ga K x)) = true
  ex : ∃ fd, FnG P w K mg base k (He.ga K x) fd ps (LSp K sp) ∧ Binds K fd ps [] ∧ ∃ oc od osl, K.lookup (He.ga K x) = some ⟨oc, od, .func fd, osl⟩
theorem FnK.imp {P : Program} {w : World} {K : PySem.W.Frag} {mg : Str → Option Value} {base : Heap} {x : Str} {k : Nat} {ps : List Str} {sp sp' : TSp} (h : FnK P w K mg base x k ps sp) (m : ∀ ts G R, sp' ts G R → sp ts G R) : FnK P w K mg base x k ps sp' := by
  obtain ⟨fd, h1, h2⟩ := h.ex
  refine ⟨h.gl, h.kp, fd, ?_, h2⟩
  exact h1.imp fun vs H Q E ⟨ts, G, R, a, b, c, d⟩ => ⟨ts, G, R, a, b, m _ _ _ c, d⟩
section
variable {X : Cx} {pos p : Pos} {e : Expr} {es : List Expr} {t : TTA} {x : Str} {k : Nat} {ps : List Str} {sp : TSp}
theorem w_callF (F : FnK X.prog X.w X.K X.mg X.base x k ps sp) (hr : Room k X.A) (hq : Qt X.A) (hg : Gl X x) (ha : PA X (e :: es) (LA X.K t)) (hd : (x == ("__debug__" : Str)) = false := by decide)
    (hs : starEach (e :: es) X.env = (false, eval e X.env) :: starEach es X.env := by rfl) (hpl : (backTo pos (starEach es X.env)).any (·.1) = false := by rfl) : PE X (.Call (.Name x p) (e :: es) [] pos) (LE X.K (tcall sp t)) := by
  obtain ⟨fd, h1, h2⟩ := F.ex
  refine ⟨fun pins s σ H Q I h => ?_⟩
  have h := LE_call (E := fun _ _ _ => False) h
  refine wpAny_Call_Name_kw (ld_glob I hg F.gl (PySem.W.callWith_K (h₀ := X.base) I.ok.mod.kin F.kp (thn (ha.run pos pins s σ H _ I h) fun us s1 q => ?_) hs hpl) hd)
  obtain ⟨vs, H1, I1, r, q⟩ := q
  rw [List.append_nil] at q
  exact ⟨I1.kIn, h1.at hr hq h2.1 I1 r q⟩
theorem w_callF0 (F : FnK X.prog X.w X.K X.mg X.base x k ps sp) (hr : Room k X.A) (hq : Qt X.A) (hg : Gl X x) (hd : (x == ("__debug__" : Str)) = false := by decide) : PE X (.Call (.Name x p) [] [] pos) (LE X.K (tcall sp tanil)) := by
  obtain ⟨fd, h1, h2⟩ := F.ex
  refine ⟨fun pins s σ H Q I h => ?_⟩
  have h := LE_call_nil (E := fun _ _ _ => False) h
  exact wpAny_Call_Name_kw (ld_glob I hg F.gl (PySem.W.callWith_K0 I.kIn F.kp (h1.at (us := []) (vs := []) hr hq h2.1 I .nil h)) hd)
/-- a text, a number of the top -/
theorem w_gstr {z : Str} (hg : Gl X x) (hm : ∃ t, X.mg x = some (.str z t)) (hd : (x == ("__debug__" : Str)) = false := by decide) : PE X (.Name x pos) (LE X.K (tcon (.str z))) := by
  obtain ⟨t, hm⟩ := hm
  exact (pe_glob hg hm (v := .str z) ⟨_, rfl⟩ hd).imp fun _ _ _ => LE_con fun _ => rfl
theorem w_gint {z : Int} (hg : Gl X x) (hm : ∃ t, X.mg x = some (.int z t)) (hd : (x == ("__debug__" : Str)) = false := by decide) : PE X (.Name x pos) (LE X.K (tcon (.int z))) := by
  obtain ⟨t, hm⟩ := hm
  exact (pe_glob hg hm (v := .int z) ⟨_, rfl⟩ hd).imp fun _ _ _ => LE_con fun _ => rfl
theorem s_augAdd {i : Nat} {te : TTE} {pos' : Pos} (hN : X.N.Nodup) (hi : X.N[i]? = some x) (hx : Loc X.env.scope x) (he : PE X e (LE X.K te)) (hf : X.fn x = true ∨ X.env.scope.names.lookup x = some .local := by first | exact .inl rfl | exact .inr rfl | assumption) :
    PS X (.AugAssign (.Name x pos') .Add e pos) (LS X.K (taug i te vaddI)) := s_aug hN hi hx he ip_add up_addI hf
end
/-- one def from its body's reading -/
theorem fn_mk {D : Fx} {P : Program} {w : World} {K : PySem.W.Frag} {mg : Str → Option Value} {base : Heap} (T : Tx D w K mg base) {x : Str} {st : Stmt} {N ps : List Str} {k : Nat} {sp : TSp} (i : Nat) (hi : D.fn[i]? = some (dOf x st)) (gl : glB D.fa x = true) (S : FnScope N ps (defScope st))
    (hb : ∀ (kV doc pm : Value) (an : Option Addr) (cdv ct : Value) (us : List Value), us.length = ps.length → bindArgs (PySem.W.fnOf x x (defArgs st) (defBody st) (defScope st) .none kV doc pm an cdv ct) ⟨us, []⟩ = pure (ps.zip us))
    (len : ∀ ts G R, sp ts G R → ts.length = ps.length) {τ : TTS}
    (hbody : ∀ (cdv : Value) (A : Around) (outer : List Env) (s : Shared) (H : Hp) (E : XK), Room k (A.deeper (envOfC x (defScope st) s.heap.objs.size (He.ga K x) cdv)) → Qt (A.deeper (envOfC x (defScope st) s.heap.objs.size (He.ga K x) cdv)) → cdv = .ref (He.codeOf K (x, none)) →
      PSs (cxOf CX0 P w K mg base N x (defScope st) (He.ga K x) cdv A outer s H E).nox (defBody st) (LS K τ))
    (hp : ∀ ts G R, sp ts G R → τ { nx := fun _ G' => WkR R .non G', rt := WkR R } (startT N ts) G) : FnK P w K mg base x (k + 1) ps sp := by
  obtain ⟨fd, F⟩ := T.t.d.def_ i hi
  have F' : FunD K x x (defArgs st) (defBody st) (defScope st) [] [] (He.ga K x) fd := F
  have F2 := F'
  obtain ⟨oc, od, dV, kV, doc, pm, an, cdv, ct, osl, e, l, c, hd, _⟩ := F2.ex
  refine ⟨T.gl x gl, F'.kp, fd, ?_, F'.bindsN hb, oc, od, osl, l⟩
  have hcd : cdv = .ref (He.codeOf K (x, none)) := by
    obtain ⟨c0, e0⟩ := He.codeIn_ref c
    have l2 : K.lookup (He.fAd K (x, none)) = some ⟨oc, od, .func fd, osl⟩ := l
    rw [He.codeOf_eq l2 (by rw [e]; exact e0)]
    exact e0
  subst e
  refine FnG.of l c S (fun vs H Q E h => ?_) fun A outer s H E hr hq vs Q h => ?_
  · obtain ⟨ts, G, R, r, rg, q, k⟩ := h
    rw [r.length]
    exact len _ _ _ q
  · obtain ⟨ts, G, R, r, rg, q, k⟩ := h
    refine ⟨_, (hbody cdv A outer s H E hr hq hcd).nox, startT N ts, G, _, rs_start r, rg, hp ts G R q, ⟨?_, ?_, ?_, ?_⟩⟩
    · rintro st σ G' H' rs rg' s' ⟨G0, sb, q'⟩
      exact k .non .non G0 H' rfl (rg'.sub sb) s' q'
    · rintro t v G' H' rv rg' s' ⟨G0, sb, q'⟩
      exact k t v G0 H' rv (rg'.sub sb) s' q'
    · exact fun _ _ _ _ _ _ _ h => h.elim
    · exact fun _ _ _ _ _ _ _ h => h.elim
/-- no promise -/
def spNo : TSp := fun _ _ _ => False
theorem fn_no {D : Fx} {P : Program} {w : World} {K : PySem.W.Frag} {mg : Str → Option Value} {base : Heap} (T : Tx D w K mg base) {x : Str} {st : Stmt} {ps : List Str} (k : Nat) (i : Nat) (hi : D.fn[i]? = some (dOf x st)) (gl : glB D.fa x = true)
    (hb : ∀ (kV doc pm : Value) (an : Option Addr) (cdv ct : Value) (us : List Value), us.length = ps.length → bindArgs (PySem.W.fnOf x x (defArgs st) (defBody st) (defScope st) .none kV doc pm an cdv ct) ⟨us, []⟩ = pure (ps.zip us)) : FnK P w K mg base x k ps spNo := by
  obtain ⟨fd, F⟩ := T.t.d.def_ i hi
  have F' : FunD K x x (defArgs st) (defBody st) (defScope st) [] [] (He.ga K x) fd := F
  obtain ⟨oc, od, dV, kV, doc, pm, an, cdv, ct, osl, e, l, c, hd, _⟩ := F'.ex
  refine ⟨T.gl x gl, F'.kp, fd, ⟨fun vs H Q E h => ?_, fun A hr hq outer s H e0 args us vs hb r Q E h => ?_⟩, F'.bindsN hb, oc, od, osl, l⟩
  · obtain ⟨ts, G, R, _, _, q, _⟩ := h
    exact q.elim
  · obtain ⟨ts, G, R, _, _, q, _⟩ := h
    exact q.elim
end TL

namespace TL
open PySem PySem.Spec PyProof.Rows L2
section
variable {X : Cx} {K : PySem.W.Frag} {a b c e : Expr} {pos : Pos} {ta tb tc : TTE}
theorem LT_test {t : TTE} {t' : TE} (u : ∀ σ H Q, LE K t σ H Q → t' σ H Q) {σ H Q} (h : LT K (tbool t) σ H Q) : tTest t' σ H Q := by
  obtain ⟨st, G, R, rs, rg, q, k⟩ := h
  refine u _ _ _ ⟨st, G, _, rs, rg, q, fun x vx G1 H1 rx rg1 s1 ⟨c, e, q1⟩ => ?_⟩
  subst e
  cases rx
  exact ⟨c, rfl, k c G1 H1 rg1 s1 q1⟩
theorem wt_cmp {op : CmpOp} {r : TR2} {r' : R2} (o : OpR X (compareOp op) r') (u : Up2 X.K r r') (ha : PE X a (LE X.K ta)) (hb : PE X b (LE X.K tb)) (h1 : behindInMarks op b = false) : PT X (.Compare a [op] [b] pos) (LT X.K (tbool (top r ta tb))) :=
  (pt_cmpR o ha hb h1).imp fun _ _ _ => LT_test fun _ _ _ => LE_op u
theorem wt_lt (ha : PE X a (LE X.K ta)) (hb : PE X b (LE X.K tb)) : PT X (.Compare a [.Lt] [b] pos) (LT X.K (tbool (top (vcmp fun i j => decide (i < j)) ta tb))) := wt_cmp op_lt up_cmp ha hb (nomark _)
theorem wt_le (ha : PE X a (LE X.K ta)) (hb : PE X b (LE X.K tb)) : PT X (.Compare a [.LtE] [b] pos) (LT X.K (tbool (top (vcmp fun i j => decide (i ≤ j)) ta tb))) := wt_cmp op_le up_cmp ha hb (nomark _)
theorem wt_gt (ha : PE X a (LE X.K ta)) (hb : PE X b (LE X.K tb)) : PT X (.Compare a [.Gt] [b] pos) (LT X.K (tbool (top (vcmp fun i j => decide (j < i)) ta tb))) := wt_cmp op_gt up_cmp ha hb (nomark _)
theorem wt_ge (ha : PE X a (LE X.K ta)) (hb : PE X b (LE X.K tb)) : PT X (.Compare a [.GtE] [b] pos) (LT X.K (tbool (top (vcmp fun i j => decide (j ≤ i)) ta tb))) := wt_cmp op_ge up_cmp ha hb (nomark _)
theorem wt_eq {n : Nat} (hr : L2.Room n X.A) (ha : PE X a (LE X.K ta)) (hb : PE X b (LE X.K tb)) : PT X (.Compare a [.Eq] [b] pos) (LT X.K (tbool (top veq ta tb))) := wt_cmp (op_eq.or (op_eqD hr.units)) up_eq ha hb (nomark _)
theorem wt_ne {n : Nat} (hr : L2.Room n X.A) (ha : PE X a (LE X.K ta)) (hb : PE X b (LE X.K tb)) : PT X (.Compare a [.NotEq] [b] pos) (LT X.K (tbool (top vne ta tb))) := wt_cmp (op_ne.or (op_neD hr.units)) up_ne ha hb (nomark _)
theorem wt_in {n : Nat} (hr : L2.Room n X.A) (ha : PE X a (LE X.K ta)) (hb : PE X b (LE X.K tb)) (h1 : behindInMarks .In b = false) : PT X (.Compare a [.In] [b] pos) (LT X.K (tbool (top (vin false) ta tb))) := wt_cmp (op_in_seq.or ((op_inDN (hu_of hr)).or op_in_sign)) up_in ha hb h1
theorem wt_notin {n : Nat} (hr : L2.Room n X.A) (ha : PE X a (LE X.K ta)) (hb : PE X b (LE X.K tb)) (h1 : behindInMarks .NotIn b = false) : PT X (.Compare a [.NotIn] [b] pos) (LT X.K (tbool (top (vin true) ta tb))) := wt_cmp (op_notIn_seq.or ((op_notInDN (hu_of hr)).or op_notIn_sign)) up_in ha hb h1
theorem ct_isN {j pos'} (ha : PE X a (LE X.K ta)) : PT X (.Compare a [.Is] [.Constant .none j pos'] pos) (LT X.K (tbool (tisN ta))) := (pt_cmpR op_isN ha pe_non (nomark _)).imp fun _ _ _ => LT_test fun σ H Q => by
  rintro ⟨st, G, R, rs, rg, q, k⟩
  refine ⟨st, G, _, rs, rg, q, fun x vx G1 H1 rx rg1 s1 q1 => ?_⟩
  refine ⟨rfl, k _ _ G1 H1 ?_ rg1 s1 q1⟩
  show V.bl _ = V.bl _
  rw [rx.isN]
theorem ct_notN {j pos'} (ha : PE X a (LE X.K ta)) : PT X (.Compare a [.IsNot] [.Constant .none j pos'] pos) (LT X.K (tbool (tnotN ta))) := (pt_cmpR op_notN ha pe_non (nomark _)).imp fun _ _ _ => LT_test fun σ H Q => by
  rintro ⟨st, G, R, rs, rg, q, k⟩
  refine ⟨st, G, _, rs, rg, q, fun x vx G1 H1 rx rg1 s1 q1 => ?_⟩
  refine ⟨rfl, k _ _ G1 H1 ?_ rg1 s1 q1⟩
  show V.bl _ = V.bl _
  rw [rx.isN]
def tchain (r r' : TR2) (ta tb tc : TTE) : TTE := fun st G R => ta st G fun x G1 => tb st G1 fun y G2 => r x y G2 fun z G3 => ∃ k, z = .bl k ∧ if k = true then tc st G3 fun w G4 => r' y w G4 R else R (.bl false) G3
theorem LE_chain {r r' : TR2} {p p' : R2} (u : Up2 K r p) (u' : Up2 K r' p') {σ H Q} (h : LE K (tchain r r' ta tb tc) σ H Q) : tChain p p' (LE K ta) (LE K tb) (LE K tc) σ H Q := by
  obtain ⟨st, G, R, rs, rg, q, k⟩ := h
  refine ⟨st, G, _, rs, rg, q, fun x vx G1 H1 rx rg1 s1 q1 => ?_⟩
  refine ⟨st, G1, _, rs.stay s1, rg1, q1, fun y vy G2 H2 ry rg2 s2 q2 => ?_⟩
  refine u x y vx vy G2 H2 _ _ (rx.stay s2) ry rg2 q2 fun z vz G3 H3 rz rg3 s3 ⟨kk, e, q3⟩ => ?_
  subst e
  cases rz
  refine ⟨kk, rfl, ?_⟩
  cases kk with
  | false => exact k (.bl false) _ G3 H3 rfl rg3 (s1.trans (s2.trans s3)) q3
  | true =>
    refine ⟨st, G3, _, rs.stay (s1.trans (s2.trans s3)), rg3, q3, fun w vw G4 H4 rw' rg4 s4 q4 => ?_⟩
    exact u' y w vy vw G4 H4 R Q (ry.stay (s3.trans s4)) rw' rg4 q4 (k.stay (s1.trans (s2.trans (s3.trans s4))))
abbrev vle : TR2 := vcmp fun i j => decide (i ≤ j)
theorem w_chainLe (ha : PE X a (LE X.K ta)) (hb : PE X b (LE X.K tb)) (hc : PE X c (LE X.K tc)) (hm : lastMarks [.LtE, .LtE] [b, c] = false := by with_unfolding_all rfl) : PE X (.Compare a [.LtE, .LtE] [b, c] pos) (LE X.K (tchain vle vle ta tb tc)) :=
  (pe_chain op_le op_le ha hb hc hm).imp fun _ _ _ => LE_chain up_cmp up_cmp
theorem wt_chainLe (ha : PE X a (LE X.K ta)) (hb : PE X b (LE X.K tb)) (hc : PE X c (LE X.K tc)) (hm : lastMarks [.LtE, .LtE] [b, c] = false := by with_unfolding_all rfl) : PT X (.Compare a [.LtE, .LtE] [b, c] pos) (LT X.K (tbool (tchain vle vle ta tb tc))) :=
  (pt_chain op_le op_le ha hb hc hm).imp fun _ _ _ => LT_test fun _ _ _ => LE_chain up_cmp up_cmp

def tpair (trs : List (TTE × TTE)) : TSt → GH → (List (T × T) → GH → Prop) → Prop := match trs with
  | [] => fun _ G R => R [] G
  | (k, v) :: r => fun st G R => k st G fun x G1 => v st G1 fun y G2 => tpair r st G2 fun ps G3 => R ((x, y) :: ps) G3
def mergeT (kvs : List (Key × T)) : List (Key × T) → List (Key × T)
  | [] => kvs
  | (k, v) :: r => mergeT (putT kvs k v) r
def keysT : List (T × T) → Option (List (Key × T))
  | [] => some []
  | (x, y) :: r => match keyT x, keysT r with
    | some k, some ks => some ((k, y) :: ks)
    | _, _ => none
def tdisp (trs : List (TTE × TTE)) : TTE := fun st G R => ∀ p, G p = none → tpair trs st (gupd G p (.dK [])) fun ps G2 => G2 p = some (.dK []) ∧ ∃ kvs, keysT ps = some kvs ∧ kvs.length ≤ 15 ∧ R (.ref p) (gupd G2 p (.dK (mergeT [] kvs)))
def LP (K : PySem.W.Frag) (trs : List (TTE × TTE)) : List (TE × TE) := trs.map fun p => (LE K p.1, LE K p.2)
def Reps2 (K : PySem.W.Frag) (H : Hp) (ps : List (T × T)) (vs : List (V × V)) : Prop := Paired (fun p q => Rep K H p.1 q.1 ∧ Rep K H p.2 q.2) ps vs
theorem Reps2.stay {H H' : Hp} {ps : List (T × T)} {vs : List (V × V)} (S : Stay K H H') (h : Reps2 K H ps vs) : Reps2 K H' ps vs := Paired.mapP h fun _ _ q => ⟨q.1.stay S, q.2.stay S⟩
theorem tpairs_up : ∀ (trs : List (TTE × TTE)) {st : TSt} {σ : St} {G : GH} {H : Hp} {R : List (T × T) → GH → Prop} {Q : List (V × V) → Hp → Prop}, RS K H st σ → RG K H G → tpair trs st G R →
    (∀ ps vs G' H', Reps2 K H' ps vs → RG K H' G' → Stay K H H' → R ps G' → Q vs H') → tPairs (LP K trs) σ H Q
  | [], st, σ, G, H, R, Q, rs, rg, q, k => k [] [] G H .nil rg .refl q
  | (a, b) :: r, st, σ, G, H, R, Q, rs, rg, q, k => by
    refine ⟨st, G, _, rs, rg, q, fun x vx G1 H1 rx rg1 s1 q1 => ?_⟩
    refine ⟨st, G1, _, rs.stay s1, rg1, q1, fun y vy G2 H2 ry rg2 s2 q2 => ?_⟩
    refine tpairs_up r (rs.stay (s1.trans s2)) rg2 q2 fun ps vs G3 H3 rp rg3 s3 q3 => ?_
    exact k ((x, y) :: ps) ((vx, vy) :: vs) G3 H3 (.cons ⟨rx.stay (s2.trans s3), ry.stay s3⟩ rp) rg3 (s1.trans (s2.trans s3)) q3
theorem keysT_up {H : Hp} : ∀ {ps : List (T × T)} {vs : List (V × V)} {kvs : List (Key × T)}, Reps2 K H ps vs → keysT ps = some kvs → ∃ ws : List (Key × V), vs = ws.map (fun kv => (kV kv.1, kv.2)) ∧ KVR K H kvs ws
  | _, _, _, .nil, e => by cases e; exact ⟨[], rfl, .nil⟩
  | _, _, kvs, .cons (a := a) (b := b) q r, e => by
    obtain ⟨x, y⟩ := a
    obtain ⟨vx, vy⟩ := b
    unfold keysT at e
    split at e
    · rename_i k ks e1 e2
      cases e
      obtain ⟨ws, rfl, h⟩ := keysT_up r e2
      obtain rfl := keyT_up q.1 e1
      exact ⟨(k, vy) :: ws, rfl, .cons ⟨rfl, q.2⟩ h⟩
    · cases e
theorem merge_up {H : Hp} : ∀ {kvs : List (Key × T)} {ws : List (Key × V)} {k0 : List (Key × T)} {w0 : List (Key × V)}, KVR K H k0 w0 → KVR K H kvs ws → KVR K H (mergeT k0 kvs) (mergeK w0 ws)
  | _, _, _, _, h0, .nil => h0
  | _, _, _, _, h0, .cons (a := a) (b := b) q r => by
    obtain ⟨k, t⟩ := a
    obtain ⟨k', v⟩ := b
    obtain ⟨q1, q2⟩ := q
    have q1 : k = k' := q1
    subst q1
    have := merge_up (put_up (k := k) h0 q2) r
    exact this
theorem pp_nil : PPs X pos [] [] (LP X.K []) := pps_nil
theorem pp_cons {k v : Expr} {ks : List (Option Expr)} {vs : List Expr} {tk tv : TTE} {trs : List (TTE × TTE)} (hk : PE X k (LE X.K tk)) (hv : PE X v (LE X.K tv)) (hr : PPs X pos ks vs (LP X.K trs)) :
    PPs X pos (some k :: ks) (v :: vs) (LP X.K ((tk, tv) :: trs)) := pps_cons hk hv hr
theorem w_disp {keys : List (Option Expr)} {values : List Expr} {trs : List (TTE × TTE)} (h : PPs X pos keys values (LP X.K trs)) (hall : keys.all (·.isSome) = true := by rfl) (hl : keys.length = values.length := by rfl) (h0 : keys ≠ [] := by intro z; cases z)
    (h15 : keys.length ≤ 15 := by decide) : PE X (.Dict keys values pos) (LE X.K (tdisp trs)) := (pe_disp h hall hl h0 h15).imp fun σ H Q => by
  rintro ⟨st, G, R, rs, rg, q, k⟩
  intro p hp
  have s0 : Stay X.K H (upd H p (.dK [])) := stay_upd (wr_none hp)
  refine tpairs_up trs (rs.stay s0) (rg.newD hp .nil) (q p (rg.free hp)) fun ps vs G2 H2 rp rg2 s2 q2 => ?_
  obtain ⟨e, kvs, ek, hl15, q3⟩ := q2
  obtain ⟨ws, hw, r2⟩ := rg2.dK e
  cases r2
  obtain ⟨ws2, rfl, h2⟩ := keysT_up rp ek
  refine ⟨hw, ws2, rfl, by rw [h2.length]; exact hl15, ?_⟩
  have s3 : Stay X.K H2 (upd H2 p (.dK (mergeK [] ws2))) := stay_upd (wr_dK hw)
  exact k (.ref p) _ _ _ rfl (rg2.setD hw (merge_up .nil h2)) (s0.trans (s2.trans s3)) q3
theorem m2_by {o f : Expr} {m : Str} {apos cpos : Pos} (h1 : attributeBase o m X.env (eval o X.env) = eval o X.env := by rfl)
    (h2 : ((backTo cpos (starEach [e, f] X.env)).all (fun x => !x.1) && (backToKw cpos (keywordEach [] X.env)).all (fun x => x.1.isSome) && decide (([e, f] : List Expr).length + ([] : List Keyword).length + (if ([] : List Keyword).isEmpty then 0 else 1) < 30)) = true := by rfl)
    (h3 : (apos.endLine == cpos.line) = true := by rfl) (h4 : backTo cpos (starEach [e, f] X.env) = [(false, eval e X.env), (false, eval f X.env)] := by rfl) : M2 X o m apos e f cpos := ⟨h1, h2, h3, h4⟩
end
end TL

namespace TL
open PySem PySem.Spec PyProof.Rows L2
structure Tbs (TT : List (Addr × Str)) (G : GH) : Prop where
  has : ∀ p ∈ TT, G p.1 = some (.tab p.2)
  only : ∀ a q, G a = some (.tab q) → (a, q) ∈ TT
theorem Tbs.put {TT : List (Addr × Str)} {G : GH} {p : Addr} {o : GO} (h : Tbs TT G) (n : ∀ q, G p ≠ some (.tab q)) (no : ∀ q, o ≠ .tab q) : Tbs TT (gupd G p o) := by
  refine ⟨fun r hr => ?_, fun a q e => ?_⟩
  · have z : r.1 ≠ p := fun z => n r.2 (by rw [← z]; exact h.has r hr)
    rw [gupd_ne z]
    exact h.has r hr
  · by_cases z : a = p
    · rw [z, gupd_same] at e
      exact absurd (Option.some.inj e) (no q)
    · rw [gupd_ne z] at e
      exact h.only a q e
theorem Tbs.newL {TT : List (Addr × Str)} {G : GH} {p : Addr} {xs} (h : Tbs TT G) (n : G p = none) : Tbs TT (gupd G p (.lst xs)) := h.put (fun q e => by rw [n] at e; cases e) (fun q z => by cases z)
theorem Tbs.setL {TT : List (Addr × Str)} {G : GH} {p : Addr} {xs ys} (h : Tbs TT G) (n : G p = some (.lst ys)) : Tbs TT (gupd G p (.lst xs)) := h.put (fun q e => by rw [n] at e; cases e) (fun q z => by cases z)
theorem Tbs.newD {TT : List (Addr × Str)} {G : GH} {p : Addr} {xs} (h : Tbs TT G) (n : G p = none) : Tbs TT (gupd G p (.dK xs)) := h.put (fun q e => by rw [n] at e; cases e) (fun q z => by cases z)
theorem Tbs.setD {TT : List (Addr × Str)} {G : GH} {p : Addr} {xs ys} (h : Tbs TT G) (n : G p = some (.dK ys)) : Tbs TT (gupd G p (.dK xs)) := h.put (fun q e => by rw [n] at e; cases e) (fun q z => by cases z)
theorem stay_extN {K : PySem.W.Frag} {H H1 : Hp} (x : LamX.ExtN H H1) : Stay K H H1 := by
  refine ⟨fun a xs h => ?_, fun a xs h => ?_, fun a φ h => x _ _ h fun ps z => (by cases z), fun a o xs h => x _ _ h fun ps z => nomatch z⟩
  · rcases h with (h | ⟨o, h⟩) | h
    · exact .inl (.inl (x _ _ h fun ps z => by cases z))
    · exact .inl (.inr ⟨o, x _ _ h fun ps z => by cases z⟩)
    · exact .inr h
  · rcases h with ⟨o, h⟩ | h
    · exact .inl ⟨o, x _ _ h fun ps z => by cases z⟩
    · exact .inr h
theorem rg_extN {K : PySem.W.Frag} {H H1 : Hp} {G : GH} {TT : List (Addr × Str)} (rg : RG K H G) (tb : Tbs TT G) (x : LamX.ExtN H H1) (t1 : LamX.Tabs TT H1) : RG K H1 G := fun a g e => by
  have S : Stay K H H1 := stay_extN x
  have r := rg a g e
  cases g with
  | lst xs => obtain ⟨vs, h, q⟩ := r; exact ⟨vs, x _ _ h (fun ps z => nomatch z), q.stay S⟩
  | dK xs => obtain ⟨vs, h, q⟩ := r; exact ⟨vs, x _ _ h (fun ps z => nomatch z), q.stay S⟩
  | dKr xs u =>
    obtain ⟨h, ws, h2, q⟩ := r
    refine ⟨x _ _ h fun ps z => ?_, ws, h2, q.stay S⟩
    rcases h2 with rfl | ⟨o, rfl⟩ <;> cases z
  | dT xs => obtain ⟨vs, h, q⟩ := r; exact ⟨vs, x _ _ h (fun ps z => nomatch z), q.stay S⟩
  | ins C fs => obtain ⟨dx, ws, h, h2, q⟩ := r; exact ⟨dx, ws, x _ _ h (fun ps z => nomatch z), x _ _ h2 (fun ps z => nomatch z), q.stay S⟩
  | tab q => exact t1 _ (tb.only a q e)

section
variable {prog : Program} {w : World} {A : Around} {E : Value → Shared → Prop} {s : Shared}
theorem cloFrom_nil {cells : List (Str × Addr)} : ∀ {l : List (Str × NameKind)}, (∀ y ∈ l, y.2 ≠ .free) → cloFrom cells l [] = []
  | [], _ => rfl
  | (n, k) :: r, h => by
    unfold cloFrom
    have hk : (k == NameKind.free) = false := by
      have := h (n, k) (by simp)
      cases k <;> first | rfl | exact absurd rfl this
    rw [hk]
    exact cloFrom_nil fun y hy => h y (by simp [hy])
structure LamOk (x : Str) (params : Arguments) (scope : Scope) : Prop where
  kind : scope.kind = .function
  co : scope.isCoroutine = false
  gen : scope.isGenerator = false
  nf : ∀ y ∈ scope.names, y.2 ≠ .free
  nc : ∀ y ∈ scope.names, y.2 ≠ .cell
  lc : scope.names.lookup x = some .local
theorem lam0_call {f c' a : Addr} {q x : Str} {params : Arguments} {scope : Scope} {pm ctv : Value} {k0 : Nat} {p1 p2 p3 : Pos} {z : Str} {tk : Tok} {its : List Value} (L : LamOk x params scope)
    (hf : s.heap.get? f = some (PySem.W.kla_obj "<lambda>" q params (.Subscript (.Name x p1) (.Constant (.int 0) k0 p2) p3) scope [] pm c' ctv))
    (hcode : ∃ (oc : Obj) (vs : Array Value) (t : Tok), s.heap.get? c' = some oc ∧ oc.data = .fields vs ∧ vs[1]? = some (.str q t))
    (hbind : ∀ v : Value, bindArgs (PySem.W.kla_fn "<lambda>" q params (.Subscript (.Name x p1) (.Constant (.int 0) k0 p2) p3) scope [] pm (.ref c') ctv) ⟨[v], []⟩ = pure [(x, v)])
    (hd : A.depth < recursionLimit) (hlim : s.heap.NoLimit) (ht : IsTup s.heap a (Value.str z tk :: its).toArray) (hdb : (x == ("__debug__" : Str)) = false) :
    wpAny (model prog w) A (call (.ref f) [.ref a]) (PySem.W.KeyPure (.str z) s) (fun _ _ => False) s := by
  obtain ⟨oc, vs, t, h1, h2, h3⟩ := hcode
  refine wpAny_call ?_
  refine PySem.W.kla_callFunE hd hf rfl L.co L.gen rfl ⟨c', oc, vs, t, rfl, h1, h2, h3⟩ ?_
  rw [hbind]
  refine wpAny_pure (wpAny_newFunctionEnv L.nc (fun y hy => ?_) (fun h' hns hsb => ⟨hlim.fresh _ hsb, ?_⟩) L.kind)
  · obtain rfl : y = (x, Value.ref a) := by simpa using hy
    exact L.lc
  have kp : ∀ b o, s.heap.get? b = some o → h'.get? b = some o := fun b o e => hsb.extBut b o (Nat.ne_of_lt (Heap.lt_size e)) (Heap.get?_push_of_some _ e)
  refine PySem.W.kla_codeExpr ?_
  refine Subscript_Constant (wpAny_Name ?_ hdb)
  refine wpAny_loadName_local (m := fun y => [(x, Value.ref a)].reverse.lookup y) (v := .ref a) L.kind L.lc hns ?_ ?_
  · simp [List.lookup]
  refine wpAny_Constant_int ?_
  refine ⟨"tuple", _, slot_tuple_getitem.lookup, (ht.keeps kp).typeIs, ?_⟩
  refine getItem_tuple (j := 0) (x := .str z tk) (ht.keeps kp) (by decide) (by decide) ?_ ?_ ?_
  · have hn : (Value.str z tk :: its).toArray.size = its.length + 1 := by simp
    rw [hn]
    unfold seqIndex?
    simp
    try omega
  · rfl
  exact ⟨h', _, rfl, kp, .str _ _⟩

theorem collectT {l : Addr} {vs : List Value} {Q : List Value → Shared → Prop} (hl : IsTup s.heap l vs.toArray) (hsz : vs.length ≤ sizeLine)
    (h : Q vs { s with heap := (s.heap.push (seqObj "list" #[] 0)).update s.heap.objs.size (Obj.mapSeq (· ++ vs.toArray)) }) : wpAny (model prog w) A (collect (.ref l)) Q E s := by
  obtain ⟨o, ho, hc, n, hd⟩ := id hl
  unfold collect
  refine wpAny_bind (wpAny_runValue (codeAny_builtin entry_proto_collect' ?_))
  refine wpAny_bind (wpAny_newList (wpAny_pure ⟨Code.quiet_builtin _ (by decide +kernel), codeAny_builtin entry_list_iadd' ?_⟩))
  change wpAny _ _ (Builtin.List.listExtendWith (.ref s.heap.objs.size) (.ref l) (.ref s.heap.objs.size)) _ _ { s with heap := s.heap.push (seqObj "list" #[] 0) }
  have hl2 : (s.heap.push (seqObj "list" #[] 0)).get? l = some o := Heap.get?_push_of_some _ ho
  unfold Builtin.List.listExtendWith
  refine wpAny_bind (wpAny_typeOf (T := "tuple") ⟨o, hl2, hc⟩ ?_)
  have te : (Value.type "tuple" == Value.type "tuple") = true := by decide
  rw [if_pos (by rw [te, Bool.or_true])]
  refine wpAny_bind (listItems_at hl2 hd (wpAny_bind (listItems_at (xs := #[]) (n := 0) (Heap.get?_push_size _ rfl) rfl ?_)))
  rw [if_neg (by simp)]
  have hz2 : (#[] ++ vs.toArray).size ≤ sizeLine + 1 := by simp; omega
  refine wpAny_bind (listUpdate_at (xs := #[]) (n := 0) (Heap.get?_push_size _ rfl) rfl (wpAny_pure ?_) (Nat.zero_le _) hz2)
  refine wpAny_bind (wpAny_load (get?_update_seq (Heap.get?_push_size _ rfl) _) ?_)
  have hv : ((#[] : Array Value) ++ vs.toArray).toList = vs := by simp
  change wpAny _ _ (pure ((#[] : Array Value) ++ vs.toArray).toList) Q E _
  rw [hv]
  exact wpAny_pure h
/-- sorted by a key of which the call is told, of a list or a tuple -/
theorem sorted_any {l : Addr} {f : Value} {kw : List (Str × Value)} {β : Type} {vs : List Value} {bs : List β} {R : Value → β → Prop} {Q : Value → Shared → Prop} (k : β → PyData) (hl : s.heap.IsList l vs.toArray ∨ IsTup s.heap l vs.toArray) (e : PySem.W.EachIs R vs bs)
    (hal : PySem.W.AllAlike (bs.map k)) (hk : PySem.W.Sortable (bs.map k)) (hL : bs.length ≤ sizeLine) (hu : ∀ x, x ∈ bs → A.units + 2 + (k x).depth < cLine) (ha1 : argsOk "sorted" ⟨[.ref l], kw⟩) (ha2 : ∀ x, argsOk "list.sort" ⟨[.ref x], kw⟩)
    (ht : ∀ x, Builtin.«list.sort» ⟨[.ref x], kw⟩ = ksk_tree x f false)
    (turn : ∀ (v : Value) (x : β), R v x → x ∈ bs → ∀ (h : Heap) (tk : Nat), (∀ b o, s.heap.get? b = some o → h.get? b = some o) → wpAny (model prog w) A.in1.in1 (call f [v]) (PySem.W.KeyPure (k x) { s with heap := h, toks := tk }) (fun _ _ => False) { s with heap := h, toks := tk })
    (h : ∀ out c h' tk, (∀ b o, s.heap.get? b = some o → h'.get? b = some o) → h'.get? (s.heap.objs.size + 1) = some (seqObj "list" (List.toArray out) c) → out.length = bs.length → PySem.W.EachIs R out (bs.mergeSort (PySem.W.dataLe false k)) → Q (.ref (s.heap.objs.size + 1)) { s with heap := h', toks := tk }) :
    wpAny (model prog w) A (call (.builtin "sorted") [.ref l] kw) Q E s := by
  have hL2 : vs.length ≤ sizeLine := by rw [e.length]; exact hL
  have up : ∀ {g : Heap}, PySem.W.KeepsBut (s.heap.objs.size + 1) (PySem.W.copyHeap s.heap vs) g → ∀ b o, s.heap.get? b = some o → g.get? b = some o := fun {g} kp b o q => kp b o (Nat.ne_of_lt (Nat.lt_succ_of_lt (Heap.lt_size q))) (PySem.W.copyHeap_old q)
  have hsz : ((s.heap.push (seqObj "list" #[] 0)).update s.heap.objs.size (Obj.mapSeq (· ++ vs.toArray))).objs.size = s.heap.objs.size + 1 := by rw [Heap.size_update, size_push']
  refine call_function_entry_kw kind_sorted plain_sorted entry_sorted ha1 ?_
  unfold Builtin.«sorted»
  refine wpAny_bind (m := checkCount "sorted" 1 1 _) (wpAny_pure ?_)
  have go : wpAny (model prog w) A.in1 (newList vs >>= fun o => holding [o] (call (.builtin "list.sort") [o] kw) >>= fun _ => ret o) (fun f s' => ∃ v, f = .done (.ret v) ∧ Q v s') E { s with heap := (s.heap.push (seqObj "list" #[] 0)).update s.heap.objs.size (Obj.mapSeq (· ++ vs.toArray)) } := by
    refine wpAny_bind (wpAny_newList ?_ hL2)
    change wpAny _ _ _ _ _ { s with heap := PySem.W.copyHeap s.heap vs }
    rw [hsz]
    refine wpAny_bind (wpAny_holding (wpAny_call_entry_kw slot_list_sort ⟨_, PySem.W.copyHeap_at s.heap vs, rfl⟩ entry_list_sort ?_ (ha2 _)))
    rw [show (⟨[.ref (s.heap.objs.size + 1)], kw⟩ : Args) = ⟨[.ref (s.heap.objs.size + 1)], kw⟩ from rfl, ht]
    refine PySem.W.keyH_tree (kz := bs.map k) (s := { s with heap := PySem.W.copyHeap s.heap vs }) (PySem.W.copyHeap_at s.heap vs) (by rw [List.length_map]; exact e.length.symm) hL2 hal hk (fun d hd => ?_)
      (PySem.W.keyH_turns (s := { s with heap := PySem.W.copyHeap s.heap vs }) e fun v x hR hx h tk kp => turn v x hR hx h tk (up kp)) fun h' tk out c kp hD ko => ⟨_, rfl, wpAny_pure ⟨_, rfl, ?_⟩⟩
    · obtain ⟨x, hx, rfl⟩ := List.mem_map.mp hd
      exact hu x hx
    · exact h out c h' tk (up kp) hD ((ko.length (by rw [List.length_map]; exact e.length.symm)).trans e.length) (PySem.W.keyedOut_each k ko e)
  rcases hl with hl | hl
  · exact wpAny_bind (collect_list hl go hL2)
  · exact wpAny_bind (collectT hl hL2 go)
end

def keyT0 : T → Str
  | .tup (.str z :: _) => z
  | _ => Str.empty
def okKey : T → Bool
  | .tup (.str _ :: _) => true
  | _ => false
def leT0 (a b : T) : Bool := decide ((keyT0 a).cps.toList ≤ (keyT0 b).cps.toList)
/-- what sorted(xs, key=lambda x: x[0]) has -/
def sortT0 (xs : List T) : List T := xs.mergeSort leT0
def itemsOf (G : GH) : T → List T → Prop
  | .tup xs, ys => xs = ys
  | .fl xs, ys => xs = ys
  | .ref p, ys => G p = some (.lst ys)
  | _, _ => False
def tsortk (TT : List (Addr × Str)) (te : TTE) : TTE := fun st G R => te st G fun x G1 => Tbs TT G1 ∧ ∃ xs, itemsOf G1 x xs ∧ xs.all okKey = true ∧ xs.length ≤ sizeLine ∧ ∀ p, G1 p = none → R (.ref p) (gupd G1 p (.lst (sortT0 xs)))
theorem itemsOf_up {K : PySem.W.Frag} {H : Hp} {G : GH} {x : T} {xs : List T} {v : V} (rg : RG K H G) (r : Rep K H x v) (h : itemsOf G x xs) : ∃ a vs, v = .ref a ∧ (SqL K H a vs ∨ SqT K H a vs) ∧ Reps K H xs vs := by
  cases x with
  | tup ys =>
    obtain rfl : ys = xs := h
    simp only [Rep] at r
    obtain ⟨a, vs, rfl, h1, h2⟩ := r
    exact ⟨a, vs, rfl, .inr h1, h2⟩
  | fl ys =>
    obtain rfl : ys = xs := h
    simp only [Rep] at r
    obtain ⟨a, vs, rfl, h1, h2⟩ := r
    exact ⟨a, vs, rfl, .inl h1.seq, h2⟩
  | ref p =>
    cases r
    obtain ⟨vs, h1, h2⟩ := rg.lst h
    exact ⟨_, vs, rfl, .inl (.of h1), h2⟩
  | _ => exact h.elim
/-- what is known of an item: its tree, and where it begins with a text -/
def ItR (K : PySem.W.Frag) (H : Hp) (h : Heap) (u : Value) (t : T) : Prop := (∃ v, Rep K H t v ∧ RelV v u) ∧ ∃ a tk its, u = .ref a ∧ IsTup h a (Value.str (keyT0 t) tk :: its).toArray
theorem itR_of {X : Cx} {pins : List (Addr × Obj)} {σ : St} {H : Hp} {s : Shared} (I : Inv X pins σ H s) {t : T} {v : V} {u : Value} (r : Rep X.K H t v) (rv : RelV v u) (ok : okKey t = true) : ItR X.K H s.heap u t := by
  refine ⟨⟨v, r, rv⟩, ?_⟩
  unfold okKey at ok
  split at ok
  · rename_i z zs
    simp only [Rep] at r
    obtain ⟨a, vs, rfl, h1, h2⟩ := r
    obtain ⟨v1, r', rfl, q1, q2⟩ := h2.of_cons
    cases q1
    obtain ⟨its, rs, ht, hz⟩ := I.tuple h1
    cases rv
    cases rs with
    | cons ha hr =>
      obtain ⟨tk, rfl⟩ := ha
      exact ⟨a, tk, _, rfl, ht⟩
  · cases ok
theorem eachR {X : Cx} {pins : List (Addr × Obj)} {σ : St} {H : Hp} {s : Shared} (I : Inv X pins σ H s) : ∀ {xs : List T} {vs : List V} {us : List Value}, Reps X.K H xs vs → Vals vs us → xs.all okKey = true → PySem.W.EachIs (ItR X.K H s.heap) us xs
  | [], _, us, r, rv, _ => by
    cases r.of_nil
    cases rv
    exact .nil
  | t :: ts, _, us, r, rv, ok => by
    obtain ⟨v, r', rfl, q1, q2⟩ := r.of_cons
    simp only [List.all_cons, Bool.and_eq_true] at ok
    cases rv with
    | cons ha hr => exact .cons (itR_of I q1 ha ok.1) (eachR I q2 hr ok.2)
theorem each_reps {K : PySem.W.Frag} {H : Hp} {h : Heap} : ∀ {us : List Value} {xs : List T}, PySem.W.EachIs (ItR K H h) us xs → ∃ vs, Reps K H xs vs ∧ Vals vs us
  | _, _, .nil => ⟨[], .nil, .nil⟩
  | _, _, .cons q r => by
    obtain ⟨⟨v, q1, q2⟩, _⟩ := q
    obtain ⟨vs, r1, r2⟩ := each_reps r
    exact ⟨v :: vs, .cons q1 r1, .cons q2 r2⟩
theorem dataLe_key : PySem.W.dataLe false (fun t => PyData.str (keyT0 t)) = leT0 := PySem.W.dataLe_str keyT0
section
variable {X : Cx} {e : Expr} {te : TTE}
theorem w_sortk {TT : List (Addr × Str)} {c P : Addr} {q x : Str} {params : Arguments} {scope : Scope} {k0 : Nat} {p p1 p2 p3 lpos kpos pos : Pos} (hr : L2.Room 2 X.A) (TB : LamX.TabB X.base X.mg c P) (hcode : X.env.code = .ref c) (hq : X.env.qual ++ "<lambda>" = q) (hT : (P, q) ∈ TT) (hT1 : ∀ r ∈ TT, r.1 = P → r.2 = q)
    (hg : Gl X "sorted") (hm : X.mg "sorted" = none) (he : PE X e (LE X.K te)) (L : LamOk x params scope) (hdef : defaultsOf params X.env = ([], []) := by rfl)
    (hbind : ∀ (c' : Addr) (pm ctv v : Value), bindArgs (PySem.W.kla_fn "<lambda>" q params (.Subscript (.Name x p1) (.Constant (.int 0) k0 p2) p3) scope [] pm (.ref c') ctv) ⟨[v], []⟩ = pure [(x, v)] := by intro _ _ _ _; rfl) (hdb : (x == ("__debug__" : Str)) = false := by decide)
    (hs0 : starEach [e] X.env = (false, eval e X.env) :: starEach [] X.env := by rfl) (hst : backTo pos (starEach [e] X.env) = (false, eval e X.env) :: backTo pos (starEach [] X.env) := by rfl) (hpl : (backTo pos (starEach [e] X.env)).any (·.1) = false := by rfl) :
    PE X (.Call (.Name "sorted" p) [e] [⟨some "key", .Lambda params (.Subscript (.Name x p1) (.Constant (.int 0) k0 p2) p3) scope lpos, kpos⟩] pos) (LE X.K (tsortk TT te)) := by
  refine ⟨fun pins s σ H Q I h => ?_⟩
  obtain ⟨st, G, R, rs, rg, q0, kk⟩ := h
  refine wpAny_Call_Name_kw (ld_blt I hg hm (show bootBuiltins "sorted" = some (.builtin "sorted") by decide +kernel) ?_ (by decide) (by decide))
  refine callWith_kw (thn ((pa_cons he pa_nil hs0).run pos pins s σ H (fun vs H1 => ∃ v x G1, vs = [v] ∧ Rep X.K H1 x v ∧ RG X.K H1 G1 ∧ Stay X.K H H1 ∧ (Tbs TT G1 ∧ ∃ xs, itemsOf G1 x xs ∧ xs.all okKey = true ∧ xs.length ≤ sizeLine ∧ ∀ p, G1 p = none → R (.ref p) (gupd G1 p (.lst (sortT0 xs))))) I
    ⟨st, G, _, rs, rg, q0, fun x v G1 H1 rx rg1 s1 q1 => ⟨v, x, G1, rfl, rx, rg1, s1, q1⟩⟩) fun us s1 ⟨vs, H1, I1, r1, v, x0, G1, ev, rx, rg1, st1, tb, xs, hx, hok, hz, hR⟩ => ?_) hst hpl rfl rfl
  subst ev
  obtain ⟨u, rfl, ru⟩ := r1.one
  obtain ⟨a, ws, rfl, hseq, hreps⟩ := itemsOf_up rg1 rx hx
  cases ru
  have hTabs : LamX.Tabs TT H1 := fun r hr => rg1 _ _ (tb.has r hr)
  change wpAny _ _ (evalAll [(do let v ← eval (.Lambda params (.Subscript (.Name x p1) (.Constant (.int 0) k0 p2) p3) scope lpos) X.env; standAt pos; pure v)]) _ _ s1
  refine wpAny_evalAll_cons (wpAny_bind (LamX.lam_make2 I1 TB hcode (by rw [hq]; exact hT) (fun r hr e => (hT1 r hr e).trans hq.symm) hTabs hdef (fun y hy z => absurd z (L.nf y hy)) fun f c' pm ctv H2 s2 I2 xN T2 hf hfn hfr hco => wpAny_bind (wpAny_standAt (wpAny_pure (wpAny_evalAll_nil ?_)))))
  have S2 : Stay X.K H1 H2 := stay_extN xN
  have rg2 : RG X.K H2 G1 := rg_extN rg1 tb xN T2
  have hcl : cloFrom X.env.cells scope.names [] = [] := cloFrom_nil L.nf
  rw [hcl, hq] at hf
  rw [hq] at hco
  have hreps2 := hreps.stay S2
  have hseq2 : ∃ its, Vals ws its ∧ (s2.heap.IsList a its.toArray ∨ IsTup s2.heap a its.toArray) := by
    rcases hseq with hs | hs
    · obtain ⟨its, rv, pl, _⟩ := I2.list (show SqL X.K H2 a ws from by
        rcases hs with (h | ⟨o, h⟩) | h
        · exact .inl (.inl (xN _ _ h fun ps z => nomatch z))
        · exact .inl (.inr ⟨o, xN _ _ h fun ps z => nomatch z⟩)
        · exact .inr h)
      exact ⟨its, rv, .inl pl.isList⟩
    · obtain ⟨its, rv, pl, _⟩ := I2.tuple (S2.t _ _ hs)
      exact ⟨its, rv, .inr pl⟩
  obtain ⟨its, rv, hseq2⟩ := hseq2
  have hE := eachR I2 hreps2 rv hok
  have hcode2 : ∃ (oc : Obj) (vs : Array Value) (t : Tok), s2.heap.get? c' = some oc ∧ oc.data = .fields vs ∧ vs[1]? = some (.str q t) := (I2.hok c' _ hco).1
  have hlim : s2.heap.NoLimit := I2.nolimit
  refine sorted_any (fun t => PyData.str (keyT0 t)) hseq2 hE ?_ ?_ hz ?_ (ksk_s1 _ _) (fun y => ?_) (fun y => ksk_t1 f y) ?_ ?_
  · intro d hd d' hd'
    obtain ⟨t, _, rfl⟩ := List.mem_map.mp hd
    obtain ⟨t', _, rfl⟩ := List.mem_map.mp hd'
    rfl
  · refine .inr fun d hd => ?_
    obtain ⟨t, _, rfl⟩ := List.mem_map.mp hd
    exact ⟨fun z => (nomatch z), fun xs z => (nomatch z)⟩
  · intro t _
    have hd : (PyData.str (keyT0 t)).depth ≤ 1 := by first | exact Nat.le_refl _ | exact Nat.zero_le _
    have := hr.units
    omega
  · exact ksk_l1 _ _
  · intro v t hv _ h tk kp
    obtain ⟨_, a2, tk2, its2, rfl, ht⟩ := hv
    obtain ⟨oc, vs2, t2, g1, g2, g3⟩ := hcode2
    exact lam0_call (s := { s2 with heap := h, toks := tk }) L (kp _ _ hf) ⟨oc, vs2, t2, kp _ _ g1, g2, g3⟩ (hbind c' pm ctv) hr.in1.in1.depth (hlim.keeps kp) (ht.keeps kp) hdb
  · intro out cc h' tk kp hat hlen hout
    rw [dataLe_key] at hout
    obtain ⟨vs3, r3, v3⟩ := each_reps hout
    have hp : H2 (s2.heap.objs.size + 1) = none := I2.hok.fresh (Nat.le_succ _)
    refine ⟨.ref (s2.heap.objs.size + 1), _, I2.laid (t' := tk) (o := .lst vs3) kp (Nat.le_succ _) ⟨?_, _, _, v3, hat⟩, rfl, ?_⟩
    · rw [r3.length, List.length_mergeSort]
      exact hz
    · have s3 : Stay X.K H2 (upd H2 (s2.heap.objs.size + 1) (.lst vs3)) := stay_upd (wr_none hp)
      exact kk (.ref _) _ _ _ rfl (rg2.newL hp r3) (st1.trans (S2.trans s3)) (hR _ (rg2.free hp))
end
end TL

namespace TL
open PySem PySem.Spec PyProof.Rows L2
/-- what the head tells -/
abbrev Yp (D : Fx) (ts : List He.Tab) (w : World) (h : Heap) : Prop := ∃ K : PySem.W.Frag, K.In h ∧ He.SaysX D.fa D.fn ts (D.tf.map (·.1)) D.exB w h K
/-- the things at the law's start: the tables, the script where it may be written -/
def startG (TT : List (Addr × Str)) (a : Addr) (o : Option GO) : GH := fun b => match TT.find? fun p => decide (p.1 = b) with
  | some p => some (.tab p.2)
  | none => if b = a then o else none
/-- the law's promise: True, whatever the script -/
def spEnd (TT : List (Addr × Str)) (sp : TSp) : Prop := ∀ (x : T) (ns : List Int) (G : GH) (R : TK), ns.length ≤ 63 → (x = .fl (ns.map T.int) ∨ ∃ a, x = .ref a ∧ G a = some (.lst (ns.map T.int))) → Tbs TT G → (∀ G', R (.bl true) G') → sp [x] G R
theorem reps_ints {K : PySem.W.Frag} {H : Hp} : ∀ ns : List Int, Reps K H (ns.map T.int) (ns.map V.int)
  | [] => .nil
  | n :: r => .cons (t := .int n) rfl (reps_ints r)
theorem walk_tx {l : PySem.W.OpenLaw} {k : Nat} {q : Program} {loose : List Str} {XP : (Str → Option Value) → Heap → Prop} {D : Fx} {d : DefRec} {sp : PySem.W.Frag → TSp} {st : Stmt}
    (hn : l.most = some 63) (hdf : d.params.defaults = []) (hnm : d.name = "law") (hr : Room k callerA) (i : Nat) (hi : D.fn[i]? = some (dOf "law" st)) (gl : glB D.fa "law" = true)
    (hb : ∀ (kV doc pm : Value) (an : Option Addr) (cdv ct : Value) (us : List Value), us.length = (["script"] : List Str).length → bindArgs (PySem.W.fnOf "law" "law" (defArgs st) (defBody st) (defScope st) .none kV doc pm an cdv ct) ⟨us, []⟩ = pure ((["script"] : List Str).zip us))
    (F : ∀ (w : World) (K : PySem.W.Frag) (mg : Str → Option Value) (base : Heap), Tx D w K mg base → FnK l.prog w K mg base "law" k ["script"] (sp K)) (hsp : ∀ K, spEnd (D.TT K) (sp K)) :
    PySem.W.WalkO q loose XP (Yp D D.ts) l.row.toRowW d [] (fun f vs => PySem.call f vs) := by
  refine Att.attach_callB hn hdf fun w s₀ s₁ mg mb fa o pm cd doc a vs ns G Y ho hd hcd hmg hobj hints hlen hbits hg => ?_
  obtain ⟨K, KX, c⟩ := Y
  have hmg2 : mg "law" = some (.ref fa) := by rw [← hnm]; exact hmg
  obtain ⟨fd, Fd⟩ := c.t.d.def_ i hi
  have F' : FunD K "law" "law" (defArgs st) (defBody st) (defScope st) [] [] (He.ga K "law") fd := Fd
  obtain ⟨oc, od, dV, kV, doc', pm', an, cdv, ct, osl, e, lk, _⟩ := F'.ex
  have hga : fa = He.ga K "law" := by
    obtain ⟨f, hf, qf⟩ := List.any_eq_true.mp gl
    split at qf
    · rename_i y
      obtain rfl : y = "law" := of_decide_eq_true qf
      have := He.glo_ok KX G.T.g (c.t.d.facts hf)
      rw [hmg2] at this
      cases this
      rfl
    · cases qf
  subst hga
  have hz : 63 ≤ sizeLine := by decide
  have cT : ∀ p ∈ D.tf.map (fun p => He.cT K p.1), s₁.heap.get? p.2 = some { cls := .none, data := .fields #[] } := by
    intro p hp
    obtain ⟨r, hr, rfl⟩ := List.mem_map.mp hp
    exact c.empty _ (List.mem_map_of_mem hr)
  obtain ⟨H, FS⟩ := Fst.ex (P := l.prog) (w := w) (K := K) (cs := D.tf.map fun p => He.cT K p.1) KX cT hobj hints (Nat.le_trans hlen hz)
  have hH := FS.tab
  have hS := FS.scr
  refine FS.run (k := k) (fd := fd) (x := "script") (sp := LSp K (sp K)) KX G.T.g G.T.b G.T.builtins G.T.nolimit hg cT (fun p hp => ?_) (fun p hp => ?_) G.T.bmain hobj hr
    (fun base hK hG hT => ?_) (fun s u => F'.bindsA hb s [u] rfl) (fun E => ?_)
  · obtain ⟨r, hr, rfl⟩ := List.mem_map.mp hp
    exact c.out _ (List.mem_map_of_mem hr)
  · obtain ⟨r, hr, rfl⟩ := List.mem_map.mp hp
    exact PySem.W.codeHd_of_K KX (c.hd _ (List.mem_map_of_mem hr))
  · obtain ⟨fd2, h1, h2, oc2, od2, osl2, lk2⟩ := (F w K mg base ⟨hK, hG, c.t, c.more, fun p hp => hT _ (List.mem_map_of_mem hp)⟩).ex
    rw [lk] at lk2
    cases lk2
    exact h1
  · have hTT : ∀ p ∈ D.TT K, H p.1 = some (.tbl #[]) := fun p hp => by
      obtain ⟨r, hr, rfl⟩ := List.mem_map.mp hp
      exact hH _ (List.mem_map_of_mem hr)
    have hex := c.more
    have hnd : ((D.TT K).map (·.1)).Nodup := by
      have := of_decide_eq_true (Bool.and_eq_true_iff.mp hex).1
      unfold Fx.TT
      rw [List.map_map]
      exact this
    have hfind : ∀ (b : Addr) (p : Addr × Str), (D.TT K).find? (fun p => decide (p.1 = b)) = some p → p ∈ D.TT K ∧ p.1 = b := fun b p h => ⟨List.mem_of_find?_eq_some h, by have := List.find?_some h; exact of_decide_eq_true this⟩
    have hget : ∀ p ∈ D.TT K, (D.TT K).find? (fun r => decide (r.1 = p.1)) = some p := fun p hp => by
      cases hf : (D.TT K).find? (fun r => decide (r.1 = p.1)) with
      | none => exact absurd (decide_eq_true rfl) (List.find?_eq_none.mp hf p hp)
      | some r =>
        obtain ⟨h1, h2⟩ := hfind _ _ hf
        rw [nodup_map hnd r h1 p hp h2]
    have tb : ∀ o, (∀ q, o ≠ some (.tab q)) → Tbs (D.TT K) (startG (D.TT K) a o) := fun o ho => by
      refine ⟨fun p hp => ?_, fun b q hq => ?_⟩
      · unfold startG
        rw [hget p hp]
      · unfold startG at hq
        split at hq
        · rename_i p hf
          cases hq
          obtain ⟨h1, h2⟩ := hfind _ _ hf
          rw [← h2]
          exact h1
        · split at hq
          · exact absurd hq (ho q)
          · cases hq
    have rg : ∀ o, (∀ g, o = some g → RO K H a g) → RG K H (startG (D.TT K) a o) := fun o ho b g hq => by
      unfold startG at hq
      split at hq
      · rename_i p hf
        cases hq
        obtain ⟨h1, h2⟩ := hfind _ _ hf
        rw [← h2]
        exact LamX.TabS.nil (hTT p h1)
      · split at hq
        · rename_i hb
          subst hb
          exact ho g hq
        · cases hq
    have ka : Kont K H (fun t _ => t = .bl true) (fun v _ => v = V.bl true) := fun t v G' H' r _ _ e => by
      subst e
      cases r
      rfl
    rcases hS with (hS | ⟨ob, hS⟩) | hS
    · refine ⟨[.ref a], startG (D.TT K) a (some (.lst (ns.map T.int))), fun t _ => t = .bl true, .one rfl, rg _ fun g hg => ?_, ?_, ka⟩
      · cases hg
        exact ⟨_, hS, reps_ints ns⟩
      · refine hsp K _ ns _ _ hlen (.inr ⟨a, rfl, ?_⟩) (tb _ fun q z => by cases z) fun _ => rfl
        unfold startG
        split
        · rename_i p hf
          obtain ⟨h1, h2⟩ := hfind _ _ hf
          have := hTT p h1
          rw [h2, hS] at this
          cases this
        · rw [if_pos rfl]
    · refine ⟨[.fl (ns.map T.int)], startG (D.TT K) a none, fun t _ => t = .bl true, .one ?_, rg none (fun g hg => by cases hg), hsp K _ ns _ _ hlen (.inl rfl) (tb none fun q z => by cases z) fun _ => rfl, ka⟩
      simp only [Rep]
      exact ⟨a, _, rfl, .inl ⟨ob, hS⟩, reps_ints ns⟩
    · refine ⟨[.fl (ns.map T.int)], startG (D.TT K) a none, fun t _ => t = .bl true, .one ?_, rg none (fun g hg => by cases hg), hsp K _ ns _ _ hlen (.inl rfl) (tb none fun q z => by cases z) fun _ => rfl, ka⟩
      simp only [Rep]
      exact ⟨a, _, rfl, .inr hS, reps_ints ns⟩
end TL

namespace TL
open PySem PySem.Spec PyProof.Rows L2
/-- no dict in data that is told -/
theorem noDictAll : ∀ {ds : List PyData}, (∀ (i : Nat) d, ds[i]? = some d → d.hasDict = false) → PyData.hasDictAll ds = false
  | [], _ => by simp only [PyData.hasDictAll]
  | d :: ds, h => by
    simp only [PyData.hasDictAll, h 0 d rfl, Bool.false_or]
    exact noDictAll fun i e q => h (i + 1) e q
theorem Dat.noDict {G : GH} {t d} (h : Dat G t d) : d.hasDict = false := by
  induction h with
  | non => simp only [PyData.hasDict]
  | bl b => simp only [PyData.hasDict]
  | int i => simp only [PyData.hasDict]
  | str x => simp only [PyData.hasDict]
  | tup hl _ ih =>
    simp only [PyData.hasDict]
    exact noDictAll fun i d e => by
      obtain ⟨t, et⟩ : ∃ t, _ = some t := ⟨_, List.getElem?_eq_getElem (by rw [hl]; exact (List.getElem?_eq_some_iff.mp e).1)⟩
      exact ih i t d et e
  | fl hl _ ih =>
    simp only [PyData.hasDict]
    exact noDictAll fun i d e => by
      obtain ⟨t, et⟩ : ∃ t, _ = some t := ⟨_, List.getElem?_eq_getElem (by rw [hl]; exact (List.getElem?_eq_some_iff.mp e).1)⟩
      exact ih i t d et e
  | lst _ hl _ ih =>
    simp only [PyData.hasDict]
    exact noDictAll fun i d e => by
      obtain ⟨t, et⟩ : ∃ t, _ = some t := ⟨_, List.getElem?_eq_getElem (by rw [hl]; exact (List.getElem?_eq_some_iff.mp e).1)⟩
      exact ih i t d et e
/-- data that can be shown, not too deep, not too long -/
def Shw (d : PyData) : Prop := d.showable = true ∧ d.depth ≤ 1200 ∧ d.shown.length ≤ sizeLine
section
variable {X : Cx} {e : Expr} {pos p : Pos} {t : TTA}
def rRepr (K : PySem.W.Frag) : List V → Hp → VK → Prop := fun xs H Q => ∃ x d, xs = [x] ∧ Dp K H x d ∧ d.hasDict = false ∧ Shw d ∧ Q (.str d.shown) H
theorem call_repr {n : Nat} (hr : Room n X.A) (hq : Qt X.A) : CallR X (.builtin "repr") (rRepr X.K) := by
  intro pins s σ H xs us Q I r h
  obtain ⟨x, d, rfl, hd, nd, ⟨h1, h2, h3⟩, q⟩ := h
  obtain ⟨u, rfl, ru⟩ := vals1 r
  obtain ⟨as, rd⟩ := Dp.reads I d x u hd ru
  have hu : X.A.units + (d.depth + 1) < cLine := by have := hr.un; omega
  have nh : d.hasDict = true → sysModules ∉ as := PyData.noDict_hsm nd
  have fin : ∀ h' u tk, (∀ b o, s.heap.get? b = some o → h'.get? b = some o) → EP X pins σ Q (.str d.shown u) { s with heap := h', toks := tk } := fun h' u tk hk => ⟨.str d.shown, H, I.kept hk, ⟨u, rfl⟩, q⟩
  cases rd with
  | none => exact PySem.P.repr_of_none (by simpa only [PyData.shown] using fin s.heap _ _ fun _ _ e => e)
  | bool b => exact PySem.P.repr_of_bool (by simpa only [PyData.shown] using fin s.heap _ _ fun _ _ e => e)
  | int i t => exact PySem.P.repr_of_int (by simpa [PyData.showable] using h1) (by simpa only [PyData.shown] using fin s.heap _ _ fun _ _ e => e)
  | str x t => exact PySem.P.repr_of_str (by simpa only [PyData.shown] using fin s.heap _ _ fun _ _ e => e) (by simpa only [PyData.shown] using h3)
  | list a1 a2 a3 a4 => exact repr_of_reads' (.list a1 a2 a3 a4) h1 nh hq hu (fun _ _ e => e) fin h3
  | tuple a1 a2 a3 a4 => exact repr_of_reads' (.tuple a1 a2 a3 a4) h1 nh hq hu (fun _ _ e => e) fin h3
  | dict a1 a2 a3 a4 a5 => cases hd
/-- repr(x) -/
def vrepr : TRN := fun xs G R => match xs with
  | [x] => ∃ d, Dat G x d ∧ Shw d ∧ R (.str d.shown) G
  | _ => False
theorem up_repr {K : PySem.W.Frag} : UpN K vrepr (rRepr K) := by
  intro xs vs G H R Q rx rg h k
  unfold vrepr at h
  split at h
  · obtain ⟨d, hd, sh, q⟩ := h
    obtain ⟨v, rfl, r⟩ := rx.of_one
    exact ⟨v, d, rfl, hd.up rg r, hd.noDict, sh, k (.str _) _ G H rfl rg .refl q⟩
  · exact h.elim
theorem w_repr {n : Nat} (hr : Room n X.A) (hq : Qt X.A) (hg : Gl X "repr") (hm : X.mg "repr" = none) (ha : PA X [e] (LA X.K t)) (hs : starEach [e] X.env = (false, eval e X.env) :: starEach [] X.env := by rfl) (hpl : (backTo pos (starEach [] X.env)).any (·.1) = false := by rfl) : PE X (.Call (.Name "repr" p) [e] [] pos) (LE X.K (tcb vrepr t)) :=
  w_callB (call_repr hr hq) up_repr hg hm (by decide +kernel) ha (hs := hs) (hpl := hpl)
/-- isinstance(x, tuple) -/
def T.isTup : T → Option Bool
  | .tup _ => some true
  | .non => some false
  | .bl _ => some false
  | .int _ => some false
  | .str _ => some false
  | _ => none
def vistup : TRN := fun xs G R => match xs with
  | [x, .ty n] => n = "tuple" ∧ ∃ c, x.isTup = some c ∧ R (.bl c) G
  | _ => False
theorem up_istup {K : PySem.W.Frag} : UpN K vistup (rIsi K) := by
  intro xs vs G H R Q rx rg h k
  unfold vistup at h
  split at h
  · rename_i x n
    obtain ⟨rfl, c, hc, q⟩ := h
    obtain ⟨v, y, rfl, r1, r2⟩ := rx.of_two
    cases r2
    have done := k (.bl c) (.bl c) G H rfl rg .refl q
    have key : ∀ t, TyX K H v t → PySem.W.kitOne K t (.type "tuple") = some c → rIsi K [v, .ty "tuple"] H Q := fun t ht e => ⟨v, .ty "tuple", t, .type "tuple", c, rfl, .ty "tuple", ht, e, done⟩
    cases x with
    | tup ys =>
      cases hc
      simp only [Rep] at r1
      obtain ⟨a, us, rfl, hs, _⟩ := r1
      refine key (.type "tuple") ?_ (if_pos (beq_self_eq_true _))
      rcases hs with (hs | ⟨o, hs⟩) | ⟨o, its, n, hk, hc, _⟩
      · exact .base (.tup hs)
      · exact .fTuple hs
      · exact .kTuple hk hc
    | non => cases hc; cases r1; exact key _ (.base .non) (by kernel_rfl)
    | bl b => cases hc; cases r1; exact key _ (.base (.bl b)) (by kernel_rfl)
    | int i => cases hc; cases r1; exact key _ (.base (.int i)) (by kernel_rfl)
    | str z => cases hc; cases r1; exact key _ (.base (.str z)) (by kernel_rfl)
    | _ => cases hc
  · exact h.elim
theorem w_bty {n : String} {x : Str} (hg : Gl X x) (hm : X.mg x = none) (hv : bootBuiltins x = some (.type n)) (h1 : x ≠ "__name__" := by decide) (hd : (x == ("__debug__" : Str)) = false := by decide) : PE X (.Name x pos) (LE X.K (tcon (.ty n))) :=
  (pe_bltn hg hm hv (v := .ty n) rfl h1 hd).imp fun _ _ _ => LE_con fun _ => rfl
theorem w_istup {e2 : Expr} (hg : Gl X "isinstance") (hm : X.mg "isinstance" = none) (ha : PA X [e, e2] (LA X.K t)) (hs : starEach [e, e2] X.env = (false, eval e X.env) :: starEach [e2] X.env := by rfl) (hpl : (backTo pos (starEach [e2] X.env)).any (·.1) = false := by rfl) : PE X (.Call (.Name "isinstance" p) [e, e2] [] pos) (LE X.K (tcb vistup t)) :=
  w_callB call_isi up_istup hg hm (by decide +kernel) ha (hs := hs) (hpl := hpl)
end
end TL

namespace TL
open PySem PySem.Spec PyProof.Rows L2
section
variable {X : Cx} {tg e : Expr} {te : TTE} {K : PySem.W.Frag}
theorem fits_revr {H : Hp} (n : Nat) : Fits K (Itc (0 + (n : Int) - 1) (-1) n) ((List.range n).reverse.map fun (i : Nat) => T.int (i : Int)) (fun _ => True) H := by
  refine ⟨fun H1 G i t s rg kp e => ?_, fun H1 G i s rg kp hl => ?_⟩
  · have hl : i < n := by
      have := (List.getElem?_eq_some_iff.mp e).1
      simpa using this
    refine ⟨hl, fun x H' y => ?_⟩
    obtain ⟨rfl, rfl⟩ := y
    rw [List.getElem?_map, List.getElem?_reverse (by simpa using hl), List.length_range, List.getElem?_range (by omega)] at e
    cases e
    refine ⟨?_, rg, .refl⟩
    show V.int _ = V.int _
    congr 1
    omega
  · show n ≤ i
    rw [hl]; simp
def irevr1 (t : TTE) : TTI := fun st G RT => t st G fun x G1 => ∃ j : Int, x = .int j ∧ -(2 ^ 62) ≤ j ∧ j < 2 ^ 62 ∧ RT ((List.range j.toNat).reverse.map fun (i : Nat) => T.int (i : Int)) (fun _ => True) G1
theorem i_revr1 {p pos p2 pos2 : Pos} (hg : Gl X "reversed") (hm : X.mg "reversed" = none) (hg2 : Gl X "range") (hm2 : X.mg "range" = none) (he : PE X e (LE X.K te)) (hs : starEach [e] X.env = (false, eval e X.env) :: starEach [] X.env := by rfl)
    (hs2 : starEach [.Call (.Name "range" p2) [e] [] pos2] X.env = (false, eval (.Call (.Name "range" p2) [e] [] pos2) X.env) :: starEach [] X.env := by rfl) :
    PI X tg (.Call (.Name "reversed" p) [.Call (.Name "range" p2) [e] [] pos2] [] pos) (LI X.K (irevr1 te)) := (pi_revR hg hm (prg_1 hg2 hm2 he hs) hs2).imp fun σ H R => by
  rintro ⟨st, G, RT, rs, rg, q, k⟩
  refine ⟨st, G, _, rs, rg, q, fun x vx G1 H1 rx rg1 s1 ⟨j, e, h1, h2, q1⟩ => ?_⟩
  subst e
  cases rx
  refine ⟨j, rfl, by decide, by decide, h1, h2, ?_⟩
  have := k _ _ _ G1 H1 (fits_revr (K := X.K) (H := H1) j.toNat) rg1 s1 q1
  rw [show j - 0 = j by omega]
  exact this
variable {o : Expr} {to : TTE} {t : TTA} {apos cpos : Pos}
def mindex : T → List T → GH → TK → Prop := fun x xs G R => ∃ (p : Addr) (ns : List Int) (i : Int) (j : Nat), x = .ref p ∧ xs = [.int i] ∧ G p = some (.lst (ns.map T.int)) ∧ ns[j]? = some i ∧ (∀ m, m < j → ns[m]? ≠ some i) ∧ R (.int (j : Int)) G
theorem reps_intV {H : Hp} : ∀ {ns : List Int} {vs : List V}, Reps K H (ns.map T.int) vs → vs = ns.map V.int
  | [], _, h => h.of_nil
  | n :: r, _, h => by
    obtain ⟨v, vr, rfl, q, s⟩ := h.of_cons
    cases q
    rw [reps_intV s]; rfl
theorem up_index : UpM K mindex (rIndex K) := by
  rintro x vx xs vs G H R Q rx rxs rg ⟨p, ns, i, j, rfl, rfl, e, hj, hm, q⟩ k
  cases rx
  obtain ⟨v, rfl, r⟩ := rxs.of_one
  cases r
  obtain ⟨ws, h1, r1⟩ := rg.lst e
  obtain rfl := reps_intV r1
  refine ⟨p, ns.map V.int, .int i, j, .int i, rfl, rfl, .of h1, rfl, ?_, by rw [List.getElem?_map, hj]; rfl, ?_, fun m z' hmj hz => ?_, k (.int j) _ G H rfl rg .refl q⟩
  · rw [List.all_map]; exact List.all_eq_true.mpr fun _ _ => rfl
  · show decide (i = i) = true
    exact decide_eq_true rfl
  · rw [List.getElem?_map] at hz
    cases e2 : ns[m]? with
    | none => rw [e2] at hz; cases hz
    | some a =>
      rw [e2] at hz
      cases hz
      show decide (a = i) = false
      exact decide_eq_false fun z => hm m hmj (by rw [e2, z])
theorem w_index (ho : PE X o (LE X.K to)) (ha : PA X [e] (LA X.K t)) (hbase : attributeBase o "index" X.env (eval o X.env) = eval o X.env := by rfl)
    (hfew : ((backTo cpos (starEach [e] X.env)).all (fun x => !x.1) && (backToKw cpos (keywordEach [] X.env)).all (fun x => x.1.isSome) && decide (([e] : List Expr).length + ([] : List Keyword).length + (if ([] : List Keyword).isEmpty then 0 else 1) < 30)) = true := by rfl)
    (hline : (apos.endLine == cpos.line) = true := by rfl) (hs : starEach [e] X.env = (false, eval e X.env) :: starEach [] X.env := by rfl) (hplain : (backTo cpos (starEach [] X.env)).any (·.1) = false := by rfl) :
    PE X (.Call (.Attribute o "index" apos) [e] [] cpos) (LE X.K (tmeth mindex to t)) :=
  (pe_bm PySem.F.plainAttrs_list PySem.F.slot_list_index PySem.F.type_list_index mt_index ho ha hbase hfew hline hs hplain).imp fun _ _ _ => LE_bm up_index
end
end TL

namespace TL
open PySem PySem.Spec PyProof.Rows L2
section
variable {X : Cx} {K : PySem.W.Frag} {a b o e : Expr} {ta tb to : TTE} {t : TTA} {pos apos cpos : Pos}
/-- x == y, both lists, y empty -/
def rNil (K : PySem.W.Frag) (neg : Bool) : R2 := fun x y H Q => ∃ (p q : Addr) (xs : List V), x = .ref p ∧ y = .ref q ∧ SqL K H p xs ∧ SqL K H q [] ∧ Q (.bl (xs.isEmpty != neg)) H
theorem op_eqNil (hu : X.A.units + 64 < cLine) : OpR X (compareOp .Eq) (rNil X.K false) := by
  intro pins s σ H x y v u Q I rx ry h
  obtain ⟨p, q, xs, rfl, rfl, hx, hy, h⟩ := h
  cases rx; cases ry
  obtain ⟨its, rv, lx, _⟩ := I.list hx
  obtain ⟨its2, rv2, ly, _⟩ := I.list hy
  cases rv2
  cases rv with
  | nil => exact PySem.SeqAt.eq_listAt (e := fun _ => true) lx.isList ly.isList rfl (by omega) (fun j h1 => absurd h1 (by simp)) ⟨.bl true, H, I, rfl, h⟩
  | cons r rs => exact PySem.SeqAt.eq_list_lengthsAt lx.isList ly.isList (by simp) (by omega) ⟨.bl false, H, I, rfl, h⟩
theorem op_neNil (hu : X.A.units + 64 < cLine) : OpR X (compareOp .NotEq) (rNil X.K true) := by
  intro pins s σ H x y v u Q I rx ry h
  obtain ⟨p, q, xs, rfl, rfl, hx, hy, h⟩ := h
  cases rx; cases ry
  obtain ⟨its, rv, lx, _⟩ := I.list hx
  obtain ⟨its2, rv2, ly, _⟩ := I.list hy
  cases rv2
  cases rv with
  | nil => exact PySem.SeqAt.RcNeAt.lists (e := fun _ => true) lx.isList ly.isList rfl (by omega) (fun j h1 => absurd h1 (by simp)) _ _ _ _ ⟨.bl false, H, I, rfl, h⟩
  | cons r rs => exact PySem.SeqAt.RcNeAt.lists_lengths lx.isList ly.isList (by simp) (by omega) _ _ _ _ ⟨.bl true, H, I, rfl, h⟩
def vnil (neg : Bool) : TR2 := fun x y G R => ∃ (p q : Addr) (xs : List T), x = .ref p ∧ y = .ref q ∧ G p = some (.lst xs) ∧ G q = some (.lst []) ∧ R (.bl (xs.isEmpty != neg)) G
abbrev veqN : TR2 := vnil false
abbrev vneN : TR2 := vnil true
theorem up_nil {neg : Bool} : Up2 K (vnil neg) (rNil K neg) := by
  rintro x y vx vy G H R Q rx ry rg ⟨p, q, xs, rfl, rfl, h1, h2, h⟩ k
  cases rx; cases ry
  obtain ⟨va, g1, r1⟩ := rg.lst h1
  obtain ⟨vb, g2, r2⟩ := rg.lst h2
  obtain rfl := r2.of_nil
  refine ⟨p, q, va, rfl, rfl, .of g1, .of g2, k (.bl _) _ G H ?_ rg .refl h⟩
  show V.bl _ = V.bl _
  cases xs with
  | nil => rw [r1.of_nil]; rfl
  | cons y ys => obtain ⟨v, vr, rfl, _⟩ := r1.of_cons; rfl
theorem w_eqN {n : Nat} (hr : L2.Room n X.A) (ha : PE X a (LE X.K ta)) (hb : PE X b (LE X.K tb)) : PE X (.Compare a [.Eq] [b] pos) (LE X.K (top veqN ta tb)) := w_cmp (op_eqNil hr.units) up_nil ha hb (nomark _)
theorem w_neN {n : Nat} (hr : L2.Room n X.A) (ha : PE X a (LE X.K ta)) (hb : PE X b (LE X.K tb)) : PE X (.Compare a [.NotEq] [b] pos) (LE X.K (top vneN ta tb)) := w_cmp (op_neNil hr.units) up_nil ha hb (nomark _)
theorem wt_eqN {n : Nat} (hr : L2.Room n X.A) (ha : PE X a (LE X.K ta)) (hb : PE X b (LE X.K tb)) : PT X (.Compare a [.Eq] [b] pos) (LT X.K (tbool (top veqN ta tb))) := wt_cmp (op_eqNil hr.units) up_nil ha hb (nomark _)
theorem wt_neN {n : Nat} (hr : L2.Room n X.A) (ha : PE X a (LE X.K ta)) (hb : PE X b (LE X.K tb)) : PT X (.Compare a [.NotEq] [b] pos) (LT X.K (tbool (top vneN ta tb))) := wt_cmp (op_neNil hr.units) up_nil ha hb (nomark _)
theorem flat_ints (ys : List Int) : (ys.map V.int).all flatV = true := by
  rw [List.all_map]
  exact List.all_eq_true.mpr fun _ _ => rfl
def rTIndex : V → List V → Hp → VK → Prop := fun x xs H Q => ∃ p, ∃ ys : List Int, ∃ z j, x = .ref p ∧ xs = [.int z] ∧ PlT H p (ys.map V.int) ∧ ys[j]? = some z ∧ (∀ m, m < j → ys[m]? ≠ some z) ∧ Q (.int (j : Nat)) H
theorem mt_tup_indexI : MtR X "tuple.index" rTIndex := by
  intro pins s σ H x xs v us Q I rx rs h
  obtain ⟨p, ys, z, j, rfl, rfl, hq, hy, hno, q⟩ := h
  cases rx
  obtain ⟨u, rfl, t, rfl⟩ := vals1 rs
  obtain ⟨its, r, pl, hz⟩ := I.tuple (hq.seq (K := X.K))
  obtain ⟨⟨cls, dd, dt, sl⟩, ho, hc, n, hd⟩ := pl
  simp only at hc hd
  subst hc
  subst hd
  have hl : its.toArray.size = ys.length := by rw [List.size_toArray, ← r.length, List.length_map]
  have hj : j < its.toArray.size := by rw [hl]; exact (List.getElem?_eq_some_iff.mp hy).1
  have at' : ∀ (m : Nat) (hm : m < its.toArray.size), ∃ y t', ys[m]? = some y ∧ its.toArray[m] = Value.int y t' := fun m hm => by
    have hm' : m < ys.length := by rw [← hl]; exact hm
    obtain ⟨w, hw, t', hw'⟩ := r.get (i := m) (x := .int ys[m]) (by simp [hm'])
    refine ⟨ys[m], t', List.getElem?_eq_getElem hm', ?_⟩
    have e := (List.getElem?_eq_some_iff.mp hw).2
    rw [← hw', ← e]
    simp
  refine call_meets PySem.F.slot_tuple_index ⟨_, ho, rfl⟩ PySem.F.entry_tuple_index (PySem.F.args_tuple_index_2 _ _) (TI.tuple_indexAt p its.toArray n dd sl (.int z t) (eqU (.int z)) j hj ?_ ?_)
    ⟨ho, fun w hw => mem_eqAt (x := .int z) ⟨t, rfl⟩ rfl r (flat_ints ys) w (by simpa using hw), ⟨.int (j : Nat), H, I.tok _, ⟨_, rfl⟩, q⟩⟩
  · obtain ⟨y, t', h1, h2⟩ := at' j hj
    rw [hy] at h1
    cases h1
    rw [h2]
    show (z == z) = true
    exact beq_self_eq_true z
  · intro m hm hmj
    obtain ⟨y, t', h1, h2⟩ := at' m hm
    rw [h2]
    show (y == z) = false
    exact beq_eq_false_iff_ne.mpr fun e => hno m hmj (e ▸ h1)
/-- a method of a plain tuple -/
def tBMT (r : V → List V → Hp → VK → Prop) (to : TE) (t : TA) : TE := fun σ H Q => to σ H fun x H1 => (∃ p xs, x = .ref p ∧ PlT H1 p xs) ∧ t σ H1 fun xs H2 => r x xs H2 Q
theorem pe_bmT {id : String} {name : Str} {r : V → List V → Hp → VK → Prop} {to : TE} {t : TA} {es : List Expr} (slot : Slot "tuple" name id) (hty : typeOf (.builtin id) = pure (.type "method_descriptor")) (hm : MtR X id r) (ho : PE X o to) (ha : PA X (e :: es) t)
    (hbase : attributeBase o name X.env (eval o X.env) = eval o X.env := by rfl)
    (hfew : ((backTo cpos (starEach (e :: es) X.env)).all (fun x => !x.1) && (backToKw cpos (keywordEach [] X.env)).all (fun x => x.1.isSome)
      && decide ((e :: es).length + ([] : List Keyword).length + (if ([] : List Keyword).isEmpty then 0 else 1) < 30)) = true := by rfl)
    (hline : (apos.endLine == cpos.line) = true := by rfl) (hs : starEach (e :: es) X.env = (false, eval e X.env) :: starEach es X.env := by rfl) (hplain : (backTo cpos (starEach es X.env)).any (·.1) = false := by rfl) :
    PE X (.Call (.Attribute o name apos) (e :: es) [] cpos) (tBMT r to t) := by
  refine ⟨fun pins s σ H Q I h => ?_⟩
  refine wpAny_Call_method_late hbase hfew hline rfl (thn (ho.run pins s σ H _ I h) fun v s1 ⟨x, H1, I1, r1, ty, q1⟩ => ?_)
  obtain ⟨p, ys, rfl, ⟨ob, hp, hn⟩⟩ := ty
  cases r1
  obtain ⟨hg, ok⟩ := (show ObjOk X.prog X.w H1 s1.heap p (.frz ob (.tup ys)) from I1.hok p _ hp)
  obtain ⟨_, its, _, it⟩ := ok
  obtain ⟨o2, e2, c2, _⟩ := it
  refine ⟨"tuple", id, PySem.F.plainAttrs_tuple, slot, hty, ⟨o2, e2, c2⟩, fun a e => ?_, ?_⟩
  · cases e
    exact ⟨ob, hg, hn⟩
  have hA := ha.run cpos pins s1 σ H1 _ I1 q1
  rw [hs] at hA ⊢
  refine Calls.callWith_builtin (by show (false || (backTo cpos (starEach es X.env)).any (·.1)) = false; rw [hplain] <;> rfl) (Calls.evalArgs_plain ?_)
  exact thn hA fun us s2 ⟨vs, H2, I2, r2, q2⟩ => hm pins s2 σ H2 (.ref p) vs _ us Q I2 rfl r2 q2
def mtindex : T → List T → GH → TK → Prop := fun x xs G R => ∃ (ns : List Int) (i : Int) (j : Nat), x = .ptup (ns.map T.int) ∧ xs = [.int i] ∧ ns[j]? = some i ∧ (∀ m, m < j → ns[m]? ≠ some i) ∧ R (.int (j : Int)) G
theorem up_tindex : UpM K mtindex rTIndex := by
  rintro x vx xs vs G H R Q rx rxs rg ⟨ns, i, j, rfl, rfl, hj, hm, q⟩ k
  simp only [Rep] at rx
  obtain ⟨a, ws, rfl, hs, r1⟩ := rx
  obtain ⟨v, rfl, r⟩ := rxs.of_one
  cases r
  obtain rfl := reps_intV r1
  exact ⟨a, ns, i, j, rfl, rfl, hs, hj, hm, k (.int j) _ G H rfl rg .refl q⟩
def tmethT (r : T → List T → GH → TK → Prop) (to : TTE) (t : TTA) : TTE := fun st G R => to st G fun x G1 => ∃ ys, x = .ptup ys ∧ t st G1 fun xs G2 => r x xs G2 R
theorem LE_bmT {r r' σ H Q} (u : UpM K r r') (h : LE K (tmethT r to t) σ H Q) : tBMT r' (LE K to) (LA K t) σ H Q := by
  obtain ⟨st, G, R, rs, rg, q, k⟩ := h
  refine ⟨st, G, _, rs, rg, q, fun x vx G1 H1 rx rg1 s1 ⟨ys, e1, q1⟩ => ?_⟩
  subst e1
  have rx2 := rx
  simp only [Rep] at rx2
  obtain ⟨a, ws, rfl, hs, _⟩ := rx2
  refine ⟨⟨a, ws, rfl, hs⟩, st, G1, _, rs.stay s1, rg1, q1, fun ys vs G2 H2 ry rg2 s2 q2 => ?_⟩
  exact u _ _ ys vs G2 H2 R Q (rx.stay s2) ry rg2 q2 (k.stay (s1.trans s2))
theorem w_tindex (ho : PE X o (LE X.K to)) (ha : PA X [e] (LA X.K t)) (hbase : attributeBase o "index" X.env (eval o X.env) = eval o X.env := by rfl)
    (hfew : ((backTo cpos (starEach [e] X.env)).all (fun x => !x.1) && (backToKw cpos (keywordEach [] X.env)).all (fun x => x.1.isSome) && decide (([e] : List Expr).length + ([] : List Keyword).length + (if ([] : List Keyword).isEmpty then 0 else 1) < 30)) = true := by rfl)
    (hline : (apos.endLine == cpos.line) = true := by rfl) (hs : starEach [e] X.env = (false, eval e X.env) :: starEach [] X.env := by rfl) (hplain : (backTo cpos (starEach [] X.env)).any (·.1) = false := by rfl) :
    PE X (.Call (.Attribute o "index" apos) [e] [] cpos) (LE X.K (tmethT mtindex to t)) :=
  (pe_bmT PySem.F.slot_tuple_index PySem.F.type_tuple_index mt_tup_indexI ho ha hbase hfew hline hs hplain).imp fun _ _ _ => LE_bmT up_tindex
theorem call_tuple_p : CallR X (.type "tuple") (fun xs H Q => ∃ p ys, xs = [.ref p] ∧ SqL X.K H p ys ∧ ∀ l o, H l = none → o.dict = none → Q (.ref l) (upd H l (.frz o (.tup ys)))) := by
  intro pins s σ H xs us Q I r h
  obtain ⟨p, ys, rfl, hq, q⟩ := h
  obtain ⟨u, rfl, rx⟩ := vals1 r
  cases rx
  obtain ⟨its, r', pl, hz⟩ := I.list hq
  have hlen := r'.length
  refine call_tuple_list pl.isList (fun h' kp => ?_) (by simp only [List.size_toArray] <;> omega)
  have I1 : Inv X pins σ H { s with heap := h' } := I.kept (t' := s.toks) kp
  have I2 : Inv X pins σ (upd H h'.objs.size (.frz { cls := .type "tuple", data := .seq its.toArray } (.tup ys))) { s with heap := h'.push { cls := .type "tuple", data := .seq its.toArray } } :=
    I1.laid (t' := s.toks) (fun b o e => Heap.get?_push_of_some _ e) (Nat.le_refl _) (show ObjOk X.prog X.w _ _ _ (.frz _ (.tup ys)) from ⟨Heap.get?_push_size _ rfl, hz, its, r', IsTup.new _ _⟩)
  exact ⟨.ref h'.objs.size, _, I2, rfl, q _ _ (I1.hok.fresh (Nat.le_refl _)) rfl⟩
def vptuple : TRN := fun xs G R => match xs with
  | [.ref p] => ∃ ys, G p = some (.lst ys) ∧ R (.ptup ys) G
  | _ => False
theorem up_ptuple : UpN K vptuple (fun xs H Q => ∃ p ys, xs = [V.ref p] ∧ SqL K H p ys ∧ ∀ l o, H l = none → o.dict = none → Q (.ref l) (upd H l (.frz o (.tup ys)))) := by
  intro xs vs G H R Q rx rg h k
  unfold vptuple at h
  split at h
  · obtain ⟨ys, e, q⟩ := h
    obtain ⟨v, rfl, r⟩ := rx.of_one
    cases r
    obtain ⟨ws, h1, r1⟩ := rg.lst e
    refine ⟨_, ws, rfl, .of h1, fun l o hl ho => ?_⟩
    have S : Stay K H (upd H l (.frz o (.tup ws))) := stay_upd (wr_none hl)
    refine k (.ptup ys) (.ref l) G _ ?_ (rg.new hl) S q
    simp only [Rep]
    exact ⟨l, ws, rfl, ⟨o, upd_same, ho⟩, r1.stay S⟩
  · exact h.elim
theorem w_ptuple {p : Pos} (hg : Gl X "tuple") (hm : X.mg "tuple" = none) (ha : PA X [e] (LA X.K t)) (hs : starEach [e] X.env = (false, eval e X.env) :: starEach [] X.env := by rfl) (hpl : (backTo pos (starEach [] X.env)).any (·.1) = false := by rfl) : PE X (.Call (.Name "tuple" p) [e] [] pos) (LE X.K (tcb vptuple t)) :=
  w_callTy call_tuple_p up_ptuple hg hm (by decide +kernel) ha (hs := hs) (hpl := hpl)
/-- a plain tuple, read as any tuple -/
def tpl (te : TTE) : TTE := fun st G R => te st G fun x G1 => ∃ ys, x = .ptup ys ∧ R (.tup ys) G1
theorem w_tpl (he : PE X e (LE X.K ta)) : PE X e (LE X.K (tpl ta)) := he.imp fun σ H Q => by
  rintro ⟨st, G, R, rs, rg, q, k⟩
  refine ⟨st, G, _, rs, rg, q, fun x vx G1 H1 rx rg1 s1 ⟨ys, e, q1⟩ => ?_⟩
  subst e
  simp only [Rep] at rx
  obtain ⟨a, ws, rfl, hs, r1⟩ := rx
  refine k (.tup ys) _ G1 H1 ?_ rg1 s1 q1
  simp only [Rep]
  exact ⟨a, ws, rfl, hs.seq, r1⟩
end
theorem vneg_int {i : Int} {G : GH} {R : TK} : vneg (.int i) G R = R (.int (-i)) G := rfl
theorem vint_bl {b : Bool} {G : GH} {R : TK} : vint [.bl b] G R = R (.int (if b = true then 1 else 0)) G := rfl
def rvr (x : T) (G : GH) (RT : List T → (GH → Prop) → GH → Prop) : Prop := ∃ j : Int, x = .int j ∧ -(2 ^ 62) ≤ j ∧ j < 2 ^ 62 ∧ RT ((List.range j.toNat).reverse.map fun (i : Nat) => T.int (i : Int)) (fun _ => True) G
theorem irevr1_eq {t : TTE} {st : TSt} {G : GH} {RT : List T → (GH → Prop) → GH → Prop} : irevr1 t st G RT = t st G fun x G1 => rvr x G1 RT := rfl
theorem rvr_nat {n : Nat} {G : GH} {RT : List T → (GH → Prop) → GH → Prop} (h : n < 2 ^ 62) (q : RT ((List.range n).reverse.map fun (i : Nat) => T.int (i : Int)) (fun _ => True) G) : rvr (.int (n : Int)) G RT := by
  refine ⟨n, rfl, by omega, by omega, ?_⟩
  rw [Int.toNat_natCast]; exact q
theorem rvr_int {j : Int} {n : Nat} {G : GH} {RT : List T → (GH → Prop) → GH → Prop} (e : j = (n : Int)) (h : n < 2 ^ 62) (q : RT ((List.range n).reverse.map fun (i : Nat) => T.int (i : Int)) (fun _ => True) G) : rvr (.int j) G RT := by
  subst e; exact rvr_nat h q
theorem vptuple_ref {p : Addr} {G : GH} {R : TK} : vptuple [.ref p] G R = ∃ ys, G p = some (.lst ys) ∧ R (.ptup ys) G := rfl
theorem vnil_mk {neg : Bool} {p q : Addr} {xs : List T} {G : GH} {R : TK} (h1 : G p = some (.lst xs)) (h2 : G q = some (.lst [])) (h : R (.bl (xs.isEmpty != neg)) G) : vnil neg (.ref p) (.ref q) G R := ⟨p, q, xs, rfl, rfl, h1, h2, h⟩
theorem exists_ptup {ys : List T} {P : List T → Prop} : (∃ zs, T.ptup ys = .ptup zs ∧ P zs) = P ys := propext ⟨fun ⟨_, e, h⟩ => by cases e; exact h, fun h => ⟨ys, rfl, h⟩⟩
theorem mtindex_mk {ns : List Int} {i : Int} {G : GH} {R : TK} (j : Nat) (hj : ns[j]? = some i) (hm : ∀ m, m < j → ns[m]? ≠ some i) (q : R (.int (j : Int)) G) : mtindex (.ptup (ns.map T.int)) [.int i] G R := ⟨ns, i, j, rfl, rfl, hj, hm, q⟩
end TL

namespace TL
open PySem PySem.Spec PyProof.Rows L2
theorem gupd_free {G : GH} {p q : Addr} {o : GO} (hp : G p = none) (hq : (G q).isSome = true) : gupd G p o q = G q := gupd_ne fun z => by subst z; rw [hp] at hq; cases hq
theorem gupd_none {G : GH} {p q : Addr} {o : GO} (hp : (G p).isSome = true) (hq : G q = none) : gupd G p o q = none := by
  rw [gupd_ne fun z => by subst z; rw [hq] at hp; cases hp]; exact hq
theorem ne_none {G : GH} {p q : Addr} {o : GO} (h : gupd G p o q = none) : q ≠ p ∧ G q = none := by
  by_cases z : q = p
  · subst z; rw [gupd_same] at h; cases h
  · rw [gupd_ne z] at h; exact ⟨z, h⟩
theorem Sub.drop {G0 G : GH} {p : Addr} {o : GO} (n : G0 p = none) (s : Sub G0 G) : Sub G0 (TL.gupd G p o) := fun a u e => by
  rw [gupd_ne fun z => by subst z; rw [n] at e; cases e]
  exact s a u e
theorem Sub.at {G0 G : GH} {p : Addr} {o : GO} (s : ∀ a u, a ≠ p → G0 a = some u → G a = some u) : Sub (TL.gupd G0 p o) (TL.gupd G p o) := fun a u e => by
  by_cases z : a = p
  · subst z; rw [gupd_same] at e ⊢; exact e
  · rw [gupd_ne z] at e ⊢; exact s a u z e
theorem wkR_new {R : TK} {v : T} {G : GH} {p : Addr} {o : GO} (n : G p = none) (h : R v G) : WkR R v (gupd G p o) := ⟨G, .gupd n, h⟩
theorem atI_lt {α : Type} {xs : List α} {i : Nat} {x : α} (h : xs[i]? = some x) : atI xs (i : Int) = some x := by
  have hl : i < xs.length := by
    rcases Nat.lt_or_ge i xs.length with h' | h'
    · exact h'
    · rw [List.getElem?_eq_none h'] at h; cases h
  unfold atI ixN
  rw [if_pos (by omega), if_pos (by omega)]
  simpa using h
theorem atI0 {α : Type} {x : α} {xs : List α} : atI (x :: xs) 0 = some x := atI_lt (i := 0) rfl
theorem atI1 {α : Type} {x y : α} {xs : List α} : atI (x :: y :: xs) 1 = some y := atI_lt (i := 1) rfl
theorem atI2 {α : Type} {x y z : α} {xs : List α} : atI (x :: y :: z :: xs) 2 = some z := atI_lt (i := 2) rfl
theorem atI3 {α : Type} {x y z u : α} {xs : List α} : atI (x :: y :: z :: u :: xs) 3 = some u := atI_lt (i := 3) rfl
theorem vix_tup {xs : List T} {i : Int} {G : GH} {R : TK} : vix (.tup xs) (.int i) G R = ∃ t, atI xs i = some t ∧ R t G := rfl
theorem vix_fl {xs : List T} {i : Int} {G : GH} {R : TK} : vix (.fl xs) (.int i) G R = ∃ t, atI xs i = some t ∧ R t G := rfl
theorem vix_lst {p : Addr} {xs : List T} {i : Int} {G : GH} {R : TK} {t : T} (h : G p = some (.lst xs)) (e : atI xs i = some t) (q : R t G) : vix (.ref p) (.int i) G R := ⟨t, .inl ⟨i, xs, rfl, h, e⟩, q⟩
theorem vix_dK {p : Addr} {kvs : List (Key × T)} {k : Key} {y : T} {G : GH} {R : TK} {t : T} (h : gd G p kvs) (ek : keyT y = some k) (e : lookT kvs k = some t) (q : R t G) : vix (.ref p) y G R := ⟨t, .inr ⟨kvs, k, h, ek, e⟩, q⟩
theorem veq_str {a b : Str} {G : GH} {R : TK} : veq (.str a) (.str b) G R = R (.bl (decide (a = b))) G := rfl
theorem vne_str {a b : Str} {G : GH} {R : TK} : vne (.str a) (.str b) G R = R (.bl (!decide (a = b))) G := rfl
theorem veq_int {a b : Int} {G : GH} {R : TK} : veq (.int a) (.int b) G R = R (.bl (decide (a = b))) G := rfl
theorem vne_int {a b : Int} {G : GH} {R : TK} : vne (.int a) (.int b) G R = R (.bl (!decide (a = b))) G := rfl
theorem vcmp_int {p : Int → Int → Bool} {a b : Int} {G : GH} {R : TK} : vcmp p (.int a) (.int b) G R = R (.bl (p a b)) G := rfl
theorem vadd_int {a b : Int} {G : GH} {R : TK} : vadd (.int a) (.int b) G R = R (.int (a + b)) G := rfl
theorem vaddI_int {a b : Int} {G : GH} {R : TK} : vaddI (.int a) (.int b) G R = R (.int (a + b)) G := rfl
theorem vadd_tup {a b : List T} {G : GH} {R : TK} : vadd (.tup a) (.tup b) G R = (a.length + b.length ≤ sizeLine ∧ R (.tup (a ++ b)) G) := rfl
theorem vadd_str {a b : Str} {G : GH} {R : TK} : vadd (.str a) (.str b) G R = (a.length + b.length ≤ sizeLine ∧ R (.str (a ++ b)) G) := rfl
theorem vsub_int {a b : Int} {G : GH} {R : TK} : vsub (.int a) (.int b) G R = R (.int (a - b)) G := rfl
theorem vI_int {C : Int → Int → Prop} {f : Int → Int → Int} {a b : Int} {G : GH} {R : TK} : vI C f (.int a) (.int b) G R = (C a b ∧ R (.int (f a b)) G) := rfl
theorem vlen_tup {xs : List T} {G : GH} {R : TK} : vlen [.tup xs] G R = R (.int xs.length) G := rfl
theorem vlen_fl {xs : List T} {G : GH} {R : TK} : vlen [.fl xs] G R = R (.int xs.length) G := rfl
theorem vlen_str {z : Str} {G : GH} {R : TK} : vlen [.str z] G R = (z.length ≤ sizeLine ∧ R (.int z.length) G) := rfl
theorem vtuple_tup {xs : List T} {G : GH} {R : TK} : vtuple [.tup xs] G R = R (.tup xs) G := rfl
theorem vtuple_ref {p : Addr} {G : GH} {R : TK} : vtuple [.ref p] G R = ∃ ys, G p = some (.lst ys) ∧ R (.tup ys) G := rfl
theorem vint_int {i : Int} {G : GH} {R : TK} : vint [.int i] G R = R (.int i) G := rfl
theorem vsl_tup {xs : List T} {lo hi : Option Int} {G : GH} {R : TK} : vsl (.tup xs) lo hi G R = R (.tup (cutT xs lo hi)) G := rfl
theorem cut_from1 {x : T} {xs : List T} : cutT (x :: xs) (some 1) none = xs := by
  unfold cutT
  have h : HT.sIx (x :: xs).length 0 (some 1) = 1 := by simp [HT.sIx]
  rw [h, HT.sIx_none]
  simp
theorem items_tup {xs : List T} {G : GH} {RT : List T → (GH → Prop) → GH → Prop} : items G RT (.tup xs) = RT xs (fun _ => True) G := rfl
theorem items_fl {xs : List T} {G : GH} {RT : List T → (GH → Prop) → GH → Prop} : items G RT (.fl xs) = RT xs (fun _ => True) G := rfl
theorem items_ref {p : Addr} {G : GH} {RT : List T → (GH → Prop) → GH → Prop} : items G RT (.ref p) = ∃ xs, G p = some (.lst xs) ∧ RT xs (fun G' => G' p = some (.lst xs)) G := rfl
theorem gcons_cons {t : TTG} {u : TTGs} {x : T} {r : List T} {st : TSt} {G : GH} {R : TSt → GH → Prop} : gcons t u (x :: r) st G R = t x st G fun st' G' => u r st' G' R :=
  propext ⟨fun ⟨x', r', e, h⟩ => by cases e; exact h, fun h => ⟨x, r, rfl, h⟩⟩
theorem gnil_nil {st : TSt} {G : GH} {R : TSt → GH → Prop} : gnil [] st G R = R st G := propext ⟨fun h => h.2, fun h => ⟨rfl, h⟩⟩
theorem gtup_tup {n : Nat} {t : TTGs} {xs : List T} {st : TSt} {G : GH} {R : TSt → GH → Prop} : gtup n t (.tup xs) st G R = (xs.length = n ∧ t xs st G R) :=
  propext ⟨fun ⟨x', e, h⟩ => by cases e; exact h, fun h => ⟨xs, rfl, h⟩⟩
theorem truth_bl {G : GH} {b c : Bool} : truth G (.bl b) c = (c = b) := rfl
theorem truth_non {G : GH} {c : Bool} : truth G .non c = (c = false) := rfl
theorem truth_int {G : GH} {i : Int} {c : Bool} : truth G (.int i) c = (c = (i != 0)) := rfl
theorem truth_tup {G : GH} {xs : List T} {c : Bool} : truth G (.tup xs) c = (c = !xs.isEmpty) := rfl
theorem truth_fl {G : GH} {xs : List T} {c : Bool} : truth G (.fl xs) c = (c = !xs.isEmpty) := rfl
/-- what zip walks -/
def zipP (vs : List T) (G : GH) (RT : List T → (GH → Prop) → GH → Prop) : Prop := ∃ x y xs ys kx ky, vs = [x, y] ∧ Sqn G x xs kx ∧ Sqn G y ys ky ∧ RT (List.zipWith (fun a b => T.tup [a, b]) xs ys) (fun G' => kx G' ∧ ky G') G
theorem izip_eq {t : TTA} {st : TSt} {G : GH} {RT : List T → (GH → Prop) → GH → Prop} : izip t st G RT = t st G fun vs G1 => zipP vs G1 RT := rfl
theorem zipP_mk {x y : T} {xs ys : List T} {kx ky : GH → Prop} {G : GH} {RT : List T → (GH → Prop) → GH → Prop} (hx : Sqn G x xs kx) (hy : Sqn G y ys ky) (h : RT (List.zipWith (fun a b => T.tup [a, b]) xs ys) (fun G' => kx G' ∧ ky G') G) : zipP [x, y] G RT := ⟨x, y, xs, ys, kx, ky, rfl, hx, hy, h⟩
theorem isL {G : GH} {p : Addr} : (∃ q xs, p = q ∧ G q = some (.lst xs)) = ∃ xs, G p = some (.lst xs) := propext ⟨fun ⟨q, xs, e, h⟩ => (by cases e; exact ⟨xs, h⟩), fun ⟨xs, h⟩ => ⟨p, xs, rfl, h⟩⟩
theorem mappend_ref {p : Addr} {t : T} {G : GH} {R : TK} : mappend (.ref p) [t] G R = ∃ ys, G p = some (.lst ys) ∧ ys.length < sizeLine ∧ R .non (gupd G p (.lst (ys ++ [t]))) :=
  propext ⟨fun ⟨q, ys, t', e, e2, h⟩ => (by cases e; cases e2; exact ⟨ys, h⟩), fun ⟨ys, h⟩ => ⟨p, ys, t, rfl, rfl, h⟩⟩
theorem mpop_ref {p : Addr} {G : GH} {R : TK} : mpop (.ref p) [] G R = ∃ ys t, G p = some (.lst ys) ∧ ys[ys.length - 1]? = some t ∧ R t (gupd G p (.lst ys.dropLast)) :=
  propext ⟨fun ⟨q, ys, t', e, e2, h⟩ => (by cases e; exact ⟨ys, t', h⟩), fun ⟨ys, t', h⟩ => ⟨p, ys, t', rfl, rfl, h⟩⟩
theorem pop_mk {p : Addr} {G : GH} {R : TK} {ys : List T} {t : T} (h : G p = some (.lst (ys ++ [t]))) (q : R t (gupd G p (.lst ys))) : mpop (.ref p) [] G R := ⟨p, _, t, rfl, rfl, h, by simp, by simpa using q⟩
theorem mextend_tup {p : Addr} {zs : List T} {G : GH} {R : TK} : mextend (.ref p) [.tup zs] G R = ∃ ys, G p = some (.lst ys) ∧ ys.length + zs.length ≤ sizeLine ∧ R .non (gupd G p (.lst (ys ++ zs))) :=
  propext ⟨fun ⟨q, ys, t', e, e2, h⟩ => (by
    cases e
    rcases e2 with e2 | ⟨r, e2, _⟩
    · cases e2; exact ⟨ys, h⟩
    · cases e2), fun ⟨ys, h⟩ => ⟨p, ys, zs, rfl, .inl rfl, h⟩⟩
/-- o[i] = v, by values -/
def putP (x y v : T) (st : TSt) (nx : TSt → GH → Prop) (G : GH) : Prop := ∃ p, x = .ref p ∧ ((∃ kvs k, G p = some (.dK kvs) ∧ keyT y = some k ∧ kvs.length < sizeLine ∧ nx st (gupd G p (.dK (putT kvs k v)))) ∨ ∃ xs k j, y = .int k ∧ G p = some (.lst xs) ∧ ixN xs.length k = some j ∧ nx st (gupd G p (.lst (xs.set j v))))
theorem tput_eq {to ti tv : TTE} {D : TEnds} {st : TSt} {G : GH} : tput to ti tv D st G = tv st G fun v G1 => to st G1 fun x G2 => ti st G2 fun y G3 => putP x y v st D.nx G3 := rfl
theorem put_dK {p : Addr} {y v : T} {st : TSt} {nx : TSt → GH → Prop} {G : GH} {kvs : List (Key × T)} {k : Key} (h : G p = some (.dK kvs)) (e : keyT y = some k) (l : kvs.length < sizeLine) (q : nx st (gupd G p (.dK (putT kvs k v)))) : putP (.ref p) y v st nx G := ⟨p, rfl, .inl ⟨kvs, k, h, e, l, q⟩⟩
theorem put_lst {p : Addr} {v : T} {i : Int} {st : TSt} {nx : TSt → GH → Prop} {G : GH} {xs : List T} {j : Nat} (h : G p = some (.lst xs)) (e : ixN xs.length i = some j) (q : nx st (gupd G p (.lst (xs.set j v)))) : putP (.ref p) (.int i) v st nx G := ⟨p, rfl, .inr ⟨xs, i, j, rfl, h, e, q⟩⟩
theorem list_dK {p : Addr} {kvs : List (Key × T)} {G : GH} {R : TK} (h : G p = some (.dK kvs)) (q : ∀ l, G l = none → R (.ref l) (gupd G l (.lst (kvs.map fun kv => kT kv.1)))) : vlist [.ref p] G R := .inr ⟨kvs, .inl h, q⟩
theorem list_lst {p : Addr} {xs : List T} {G : GH} {R : TK} (h : G p = some (.lst xs)) (q : ∀ l, G l = none → R (.ref l) (gupd G l (.lst xs))) : vlist [.ref p] G R := .inl ⟨xs, h, q⟩
theorem vlist_tup {xs : List T} {G : GH} {R : TK} : vlist [.tup xs] G R = ∀ l, G l = none → R (.ref l) (gupd G l (.lst xs)) := rfl
def rng1 (xs : List T) (G : GH) (RT : List T → (GH → Prop) → GH → Prop) : Prop := ∃ j : Int, xs = [.int j] ∧ -(2 ^ 62) ≤ j ∧ j < 2 ^ 62 ∧ RT (rangeT 0 j.toNat) (fun _ => True) G
def rng2 (xs : List T) (G : GH) (RT : List T → (GH → Prop) → GH → Prop) : Prop := ∃ i j : Int, xs = [.int i, .int j] ∧ (-(2 ^ 62) ≤ i ∧ i < 2 ^ 62 ∧ -(2 ^ 62) ≤ j ∧ j < 2 ^ 62) ∧ RT (rangeT i (j - i).toNat) (fun _ => True) G
theorem irange1_eq {t : TTA} {st : TSt} {G : GH} {RT : List T → (GH → Prop) → GH → Prop} : irange1 t st G RT = t st G fun xs G1 => rng1 xs G1 RT := rfl
theorem irange2_eq {t : TTA} {st : TSt} {G : GH} {RT : List T → (GH → Prop) → GH → Prop} : irange2 t st G RT = t st G fun xs G1 => rng2 xs G1 RT := rfl
theorem rng1_nat {n : Nat} {G : GH} {RT : List T → (GH → Prop) → GH → Prop} (h : n < 2 ^ 62) (q : RT ((List.range n).map fun (i : Nat) => T.int (i : Int)) (fun _ => True) G) : rng1 [.int (n : Int)] G RT := by
  refine ⟨n, rfl, by omega, by omega, ?_⟩
  have e : rangeT 0 ((n : Int)).toNat = (List.range n).map fun (i : Nat) => T.int (i : Int) := by
    unfold rangeT
    rw [Int.toNat_natCast]
    refine List.map_congr_left fun i _ => ?_
    rw [Int.zero_add]
  rw [e]
  exact q
theorem rng1_lit {j : Int} {G : GH} {RT : List T → (GH → Prop) → GH → Prop} (n : Nat) (e : j = (n : Int)) (h : n < 2 ^ 62) (q : RT ((List.range n).map fun (i : Nat) => T.int (i : Int)) (fun _ => True) G) : rng1 [.int j] G RT := by
  subst e; exact rng1_nat h q
theorem rng2_nat {a b : Nat} {G : GH} {RT : List T → (GH → Prop) → GH → Prop} (h : b < 2 ^ 62) (ha : a < 2 ^ 62) (q : RT ((List.range (b - a)).map fun (i : Nat) => T.int ((a + i : Nat) : Int)) (fun _ => True) G) : rng2 [.int (a : Int), .int (b : Int)] G RT := by
  refine ⟨a, b, rfl, ⟨by omega, by omega, by omega, by omega⟩, ?_⟩
  have e : rangeT (a : Int) ((b : Int) - (a : Int)).toNat = (List.range (b - a)).map fun (i : Nat) => T.int ((a + i : Nat) : Int) := by
    unfold rangeT
    rw [show ((b : Int) - (a : Int)).toNat = b - a by omega]
    refine List.map_congr_left fun i _ => ?_
    rw [Int.natCast_add]
  rw [e]
  exact q
theorem g2_p {G : GH} {p q : Addr} {A B : GO} (h : q ≠ p) : gupd (gupd G p A) q B p = some A := by rw [gupd_ne (Ne.symm h), gupd_same]
theorem g2_setp {G : GH} {p q : Addr} {A B A' : GO} (h : q ≠ p) : gupd (gupd (gupd G p A) q B) p A' = gupd (gupd G p A') q B := by
  rw [gupd_comm h, gupd_gupd]
theorem g2_setq {G : GH} {p q : Addr} {A B B' : GO} : gupd (gupd (gupd G p A) q B) q B' = gupd (gupd G p A) q B' := gupd_gupd
theorem truth_ref {G : GH} {p : Addr} {xs : List T} {c : Bool} (h : G p = some (.lst xs)) (hc : c = !xs.isEmpty) : truth G (.ref p) c := .inl ⟨xs, h, hc⟩
theorem truth_dK {G : GH} {p : Addr} {xs : List (Key × T)} {c : Bool} (h : G p = some (.dK xs)) (hc : c = !xs.isEmpty) : truth G (.ref p) c := .inr ⟨xs, h, hc⟩
theorem last_app {α : Type} {xs : List α} {x : α} : (xs ++ [x])[(xs ++ [x]).length - 1]? = some x := by simp
theorem Less.nil : Less [] [] := ⟨rfl, fun i t e => by simp at e⟩
theorem Less.same {a b : TSt} {x : Option T} (h : Less a b) : Less (x :: a) (x :: b) := by
  refine ⟨by simp [h.1], fun i t e => ?_⟩
  cases i with
  | zero => exact e
  | succ i => exact h.2 i t (by simpa using e)
theorem Less.none {a b : TSt} {x : Option T} (h : Less a b) : Less (Option.none :: a) (x :: b) := by
  refine ⟨by simp [h.1], fun i t e => ?_⟩
  cases i with
  | zero => simp at e
  | succ i => exact h.2 i t (by simpa using e)
theorem Less.blank : ∀ {n : Nat} {st : TSt}, st.length = n → Less (List.replicate n Option.none) st
  | 0, [], _ => .nil
  | n + 1, x :: r, h => by
    rw [List.replicate_succ]
    exact .none (Less.blank (by simpa using h))
theorem Wk.mk {P : TSt → GH → Prop} {st0 st : TSt} {G0 G : GH} (h : P st0 G0) (l : Less st0 st) (s : Sub G0 G) : Wk P st G := ⟨st0, G0, l, s, h⟩
/-- for: I: what holds ahead of the turns that are left -/
theorem for_inv {α : Type} {keep : GH → Prop} {g : TTG} {tb : TTS} {D : TEnds} (enc : α → T) (I : List α → TSt → GH → Prop)
    (step : ∀ x xs st G (N : TSt → GH → Prop), (∀ st G, Wk (I xs) st G → N st G) → I (x :: xs) st G → keep G ∧ g (enc x) st G fun st2 G2 => tb { D with nx := N, ct := N, bk := D.nx } st2 G2)
    (fin : ∀ st G, I [] st G → keep G ∧ D.nx st G) : ∀ xs st G, I xs st G → forGo keep g tb D (xs.map enc) st G
  | [], st, G, h => fin st G h
  | x :: xs, st, G, h => step x xs st G _ (fun st' G' ⟨st0, G0, l, s, q⟩ => ⟨st0, G0, l, s, for_inv enc I step fin xs st0 G0 q⟩) h
/-- a comprehension: I: what holds ahead of the turns that are left, acc being made -/
theorem lc_inv {α : Type} {keep : GH → Prop} {g : TTG} {tt : TTT} {te : TTE} {vs : List Nat} {D : Addr} {R : TK} {st : TSt} (enc : α → T) (I : List α → List T → GH → Prop)
    (step : ∀ x xs acc G (N : GH → Prop), (∀ acc G, WkG (I xs acc) G → N G) → I (x :: xs) acc G → keep G ∧ g (enc x) (twipe st vs) G fun st2 G2 => tt st2 G2 fun b G3 =>
      if b = true then te st2 G3 fun y G4 => ∃ acc, G4 D = some (.lst acc) ∧ acc.length < sizeLine ∧ N (gupd G4 D (.lst (acc ++ [y]))) else N G3)
    (fin : ∀ acc G, I [] acc G → keep G ∧ R (.ref D) G) : ∀ xs acc G, I xs acc G → lcGo keep g tt te vs D R st (xs.map enc) G
  | [], acc, G, h => fin acc G h
  | x :: xs, acc, G, h => step x xs acc G _ (fun acc' G' ⟨G0, s, q⟩ => ⟨G0, s, lc_inv enc I step fin xs acc' G0 q⟩) h
/-- [f(x) for x in xs]: an element that changes nothing -/
theorem lc_map {α : Type} {keep : GH → Prop} {g : TTG} {te : TTE} {vs : List Nat} {D : Addr} {R : TK} {st : TSt} {G : GH} (enc : α → T) (f : α → T) (xs : List α) (hk : ∀ acc, keep (gupd G D (.lst acc))) (hlen : xs.length ≤ sizeLine)
    (hx : ∀ x ∈ xs, ∀ acc (N : TK), N (f x) (gupd G D (.lst acc)) → g (enc x) (twipe st vs) (gupd G D (.lst acc)) fun st2 G2 => te st2 G2 N) (hR : R (.ref D) (gupd G D (.lst (xs.map f)))) :
    lcGo keep g tyes te vs D R st (xs.map enc) (gupd G D (.lst [])) := by
  refine lc_inv (α := α) enc (fun ys acc G' => G' = gupd G D (.lst acc) ∧ ∃ zs, xs = zs ++ ys ∧ acc = zs.map f) ?_ ?_ xs [] _ ⟨rfl, [], rfl, rfl⟩
  · rintro x ys acc G' N hN ⟨rfl, zs, e, rfl⟩
    refine ⟨hk _, ?_⟩
    refine hx x (by rw [e]; simp) (zs.map f) _ ⟨_, gupd_same, ?_, ?_⟩
    · rw [e] at hlen
      simp at hlen ⊢
      omega
    · rw [gupd_gupd]
      exact hN (zs.map f ++ [f x]) _ (.of ⟨rfl, zs ++ [x], by rw [e]; simp, by simp⟩)
  · rintro acc G' ⟨rfl, zs, e, rfl⟩
    simp at e
    subst e
    exact ⟨hk _, hR⟩
end TL

namespace TL
open PySem PySem.Spec PyProof.Rows L2
local macro_rules | `(tactic| walk_at "tl") => `(tactic| try simp +decide only [tseq, tasg, tifs, tbool, tret, tretN, tdrop, tnext, tcont, tbreak, gname, gtup_tup, gcons_cons, gnil_nil, GO.lst.injEq, GO.dK.injEq, top, tvar, tcon, tun, ttup, tlst, tacons, tanil, tcb, tcall, tife, tand, tor, tnot, tandV, torV, tnotV, tisN, tnotN, T.isNon, ttruth, truth_bl, truth_non, truth_int, truth_tup, truth_fl, tsl, tpart, tnopart, tsortk, tlc, tfor, iany, irev, irange1_eq, irange2_eq, items_tup, items_fl, items_ref, twipe, List.set, izip_eq, tput_eq, vlist_tup, tmeth, isL, mappend_ref, mextend_tup, trev, exists_eq, exists_eq', 
  vix_tup, vix_fl, veq_str, vne_str, veq_int, vne_int, vcmp_int, vadd_int, vaddI_int, vadd_tup, vadd_str, vsub_int, vI_int, vlen_tup, vlen_fl, vlen_str, vtuple_tup, vtuple_ref, vint_int, vsl_tup, cut_from1, atI0, atI1, atI2, atI3, taug,
  startT, List.map_cons, List.map_nil, List.length_cons, List.length_nil, List.cons_append, List.nil_append, List.getElem?_cons_zero, List.getElem?_cons_succ, List.set_cons_zero, List.set_cons_succ, List.replicate, Option.some.injEq, exists_eq_left', exists_eq_left, T.bl.injEq, T.int.injEq, T.str.injEq, T.tup.injEq, T.ref.injEq, if_true, if_false, ite_true, ite_false, true_and, and_true, reduceCtorEq, gupd_same, gupd_gupd, Option.map_some, Option.map_none, Option.isSome_some, Option.isSome_none, Bool.not_true, Bool.not_false, Bool.true_eq_false, Bool.false_eq_true, List.cons.injEq, decide_true, decide_false])
inductive Ty where
  | num | tru | var (a : Str) | fn (a b : Ty) | rcd (fs : List (Str × Ty)) (e : Option Str)
def encE : Option Str → T
  | none => .non
  | some r => .str r
mutual
def Ty.enc : Ty → T
  | .num => .tup [.str "number"]
  | .tru => .tup [.str "truth"]
  | .var a => .tup [.str "var", .str a]
  | .fn a b => .tup [.str "fun", a.enc, b.enc]
  | .rcd fs e => .tup [.str "record", .tup (encFs fs), encE e]
def encFs : List (Str × Ty) → List T
  | [] => []
  | (l, t) :: r => .tup [.str l, t.enc] :: encFs r
end
theorem encFs_map (fs : List (Str × Ty)) : encFs fs = fs.map fun p => T.tup [.str p.1, p.2.enc] := by
  induction fs with
  | nil => rfl
  | cons p r ih => obtain ⟨l, t⟩ := p; rw [encFs, ih]; rfl
def Ty.kids : Ty → List Ty
  | .fn a b => [a, b]
  | .rcd fs _ => fs.map (·.2)
  | _ => []
def t_type_parts : TTS :=
  (tseq (tifs (tbool (top veq (top vix (tvar 0) (tcon (.int 0))) (tcon (.str "fun"))))
  (tret (tsl (tvar 0) (tpart (tcon (.int 1))) tnopart))
  tnext)
  (tseq (tifs (tbool (top veq (top vix (tvar 0) (tcon (.int 0))) (tcon (.str "record"))))
  (tret (tcb vtuple (tacons (tlc (iany (top vix (tvar 0) (tcon (.int 1)))) (gtup 2 (gcons (gname 1) (gcons (gname 2) gnil))) tyes (tvar 2) [1, 2]) tanil)))
  tnext)
  (tret (ttup tanil))))

def sp_type_parts : TSp := fun ts G R => (∃ t : Ty, ts = [t.enc] ∧ t.kids.length ≤ sizeLine ∧ R (.tup (t.kids.map Ty.enc)) G) ∨ ∃ r, ts = [.tup [.str "end", .str r]] ∧ R (.tup []) G
theorem pure_type_parts (ts : List T) (G : GH) (R : TK) (h : sp_type_parts ts G R) : t_type_parts { nx := fun _ G' => WkR R .non G', rt := WkR R } (startT ["given", "_", "inner"] ts) G := by
  unfold t_type_parts
  obtain ⟨t, rfl, hl, h⟩ | ⟨r, rfl, h⟩ := h
  case inr => walk_at "tl"; exact .of h
  cases t with
  | num => simp only [Ty.enc]; walk_at "tl"; exact .of h
  | tru => simp only [Ty.enc]; walk_at "tl"; exact .of h
  | var a => simp only [Ty.enc]; walk_at "tl"; exact .of h
  | fn a b => simp only [Ty.enc]; walk_at "tl"; exact .of h
  | rcd fs e =>
    simp only [Ty.enc]; walk_at "tl"
    intro D hD
    rw [encFs_map]
    refine lc_map (α := Str × Ty) _ (fun p => p.2.enc) fs (fun _ => trivial) (by simpa [Ty.kids] using hl) (fun p _ acc N hN => ?_) ?_
    · walk_at "tl"; exact hN
    · walk_at "tl"
      refine wkR_new hD ?_
      simpa [Ty.kids, Function.comp_def] using h
/-- the type with other kids -/
def Ty.withK : Ty → List Ty → Ty
  | .fn _ _, [a, b] => .fn a b
  | .rcd fs e, ks => .rcd (List.zipWith (fun p k => (p.1, k)) fs ks) e
  | t, _ => t
theorem zip_enc (fs : List (Str × Ty)) (ks : List Ty) : List.zipWith (fun a b => T.tup [a, b]) (encFs fs) (ks.map Ty.enc) = (fs.zip ks).map fun p => T.tup [.tup [.str p.1.1, p.1.2.enc], p.2.enc] := by
  rw [encFs_map]
  induction fs generalizing ks with
  | nil => rfl
  | cons p r ih => cases ks with
    | nil => rfl
    | cons k ks => simp only [List.map_cons, List.zipWith_cons_cons, List.zip_cons_cons, ih]
def t_with_parts : TTS :=
  (tseq (tifs (tbool (top veq (top vix (tvar 0) (tcon (.int 0))) (tcon (.str "fun"))))
  (tret (ttup (tacons (tcon (.str "fun")) (tacons (top vix (tvar 1) (tcon (.int 0))) (tacons (top vix (tvar 1) (tcon (.int 1))) tanil)))))
  tnext)
  (tseq (tifs (tbool (top veq (top vix (tvar 0) (tcon (.int 0))) (tcon (.str "record"))))
  (tseq (tasg (tlc (izip (tacons (top vix (tvar 0) (tcon (.int 1))) (tacons (tvar 1) tanil))) (gtup 2 (gcons (gtup 2 (gcons (gname 3) (gcons (gname 4) gnil))) (gcons (gname 5) gnil))) tyes (ttup (tacons (tvar 3) (tacons (tvar 5) tanil))) [5, 3, 4]) (gname 2))
  (tret (ttup (tacons (tcon (.str "record")) (tacons (tcb vtuple (tacons (tvar 2) tanil)) (tacons (top vix (tvar 0) (tcon (.int 2))) tanil))))))
  tnext)
  (tret (tvar 0))))

def sp_with_parts : TSp := fun ts G R => ∃ (t : Ty) (ks : List Ty) (p : Addr), ts = [t.enc, .ref p] ∧ G p = some (.lst (ks.map Ty.enc)) ∧ ks.length = t.kids.length ∧ ks.length ≤ sizeLine ∧ R (t.withK ks).enc G
theorem pure_with_parts (ts : List T) (G : GH) (R : TK) (h : sp_with_parts ts G R) : t_with_parts { nx := fun _ G' => WkR R .non G', rt := WkR R } (startT ["given", "parts", "fields", "label", "_", "inner"] ts) G := by
  obtain ⟨t, ks, p, rfl, hp, hk, hl, h⟩ := h
  unfold t_with_parts
  cases t with
  | num => simp only [Ty.enc]; walk_at "tl"; exact .of h
  | tru => simp only [Ty.enc]; walk_at "tl"; exact .of h
  | var a => simp only [Ty.enc]; walk_at "tl"; exact .of h
  | fn a b =>
    obtain ⟨x, y, rfl⟩ : ∃ x y, ks = [x, y] := by
      match ks, hk with
      | [x, y], _ => exact ⟨x, y, rfl⟩
    simp only [Ty.enc]; walk_at "tl"
    refine vix_lst hp atI0 (vix_lst hp atI1 ?_)
    exact .of h
  | rcd fs e =>
    simp only [Ty.enc]; walk_at "tl"
    refine zipP_mk (.tup _) (.ref hp) fun D hD => ?_
    rw [zip_enc]
    refine lc_map (α := (Str × Ty) × Ty) _ (fun p => T.tup [.str p.1.1, p.2.enc]) (fs.zip ks) (fun acc => ⟨trivial, ?_⟩) ?_ (fun q _ acc N hN => ?_) ?_
    · rw [gupd_free hD (by rw [hp]; rfl)]; exact hp
    · rw [List.length_zip]; omega
    · walk_at "tl"; exact hN
    · walk_at "tl"
      refine wkR_new hD ?_
      have e1 : List.map (fun q : (Str × Ty) × Ty => T.tup [.str q.1.1, q.2.enc]) (fs.zip ks) = encFs (List.zipWith (fun p k => (p.1, k)) fs ks) := by
        rw [encFs_map, List.zip_eq_zipWith, List.map_zipWith, List.map_zipWith]
      rw [e1]
      exact h
mutual
def Ty.pre : Ty → List Ty
  | .fn a b => .fn a b :: (a.pre ++ b.pre)
  | .rcd fs e => .rcd fs e :: presF fs
  | t => [t]
def presF : List (Str × Ty) → List Ty
  | [] => []
  | (_, t) :: r => t.pre ++ presF r
end
theorem presF_eq (fs : List (Str × Ty)) : presF fs = (fs.map (·.2)).flatMap Ty.pre := by
  induction fs with
  | nil => rfl
  | cons p r ih => obtain ⟨l, t⟩ := p; rw [presF, ih]; rfl
theorem Ty.pre_eq (t : Ty) : t.pre = t :: t.kids.flatMap Ty.pre := by
  cases t with
  | fn a b => simp [Ty.pre, Ty.kids]
  | rcd fs e => rw [Ty.pre, presF_eq]; rfl
  | _ => rfl
theorem Ty.pre_pos (t : Ty) : 1 ≤ t.pre.length := by rw [t.pre_eq]; simp
theorem flat_len (ts : List Ty) : ts.length ≤ (ts.flatMap Ty.pre).length := by
  induction ts with
  | nil => simp
  | cons t r ih => have := t.pre_pos; simp only [List.flatMap_cons, List.length_append, List.length_cons]; omega
theorem Ty.kids_len (t : Ty) : t.kids.length < t.pre.length := by rw [t.pre_eq]; have := flat_len t.kids; simp only [List.length_cons]; omega
def t_all_types : TTS :=
  (tseq (tasg (tlst tanil) (gname 1))
  (tseq (tasg (tlst (tacons (tvar 0) tanil)) (gname 2))
  (tseq (twhile (ttruth (tvar 2))
  (tseq (tasg (tmeth mpop (tvar 2) tanil) (gname 3))
  (tseq (tdrop (tmeth mappend (tvar 1) (tacons (tvar 3) tanil)))
  (tdrop (tmeth mextend (tvar 2) (tacons (trev (tcall sp_type_parts (tacons (tvar 3) tanil))) tanil))))))
  (tret (tvar 1)))))

def sp_all_types : TSp := fun ts G R => ∃ t : Ty, ts = [t.enc] ∧ t.pre.length ≤ sizeLine ∧ ∀ p, G p = none → R (.ref p) (gupd G p (.lst (t.pre.map Ty.enc)))
theorem pure_all_types (ts : List T) (G : GH) (R : TK) (h : sp_all_types ts G R) : t_all_types { nx := fun _ G' => WkR R .non G', rt := WkR R } (startT ["given", "found", "waiting", "part"] ts) G := by
  obtain ⟨t, rfl, hl, h⟩ := h
  unfold t_all_types
  walk_at "tl"
  intro p hp q hq0
  obtain ⟨hqp, hq⟩ := ne_none hq0
  refine ⟨fun m st G' => ∃ F W : List Ty, st = [some t.enc, some (.ref p), some (.ref q), none] ∧ G' = gupd (gupd G p (.lst (F.map Ty.enc))) q (.lst (W.map Ty.enc)) ∧ F ++ W.reverse.flatMap Ty.pre = t.pre ∧ m = (W.reverse.flatMap Ty.pre).length, ⟨_, [], [t], rfl, rfl, by simp, rfl⟩, ?_⟩
  rintro m st G' ⟨F, W, rfl, rfl, hF, rfl⟩
  have hlen := congrArg List.length hF
  rw [List.length_append] at hlen
  walk_at "tl"
  refine ⟨_, truth_ref gupd_same rfl, ?_⟩
  rcases List.eq_nil_or_concat W with rfl | ⟨W', u, rfl⟩
  · walk_at "tl"
    have eF : F = t.pre := by simpa using hF
    subst eF
    exact ⟨_, Sub.gupd (by rw [gupd_ne hqp]; exact hq), h p hp⟩
  · have hk : (W' ++ [u]).reverse.flatMap Ty.pre = u :: (u.kids.flatMap Ty.pre ++ W'.reverse.flatMap Ty.pre) := by
      simp only [List.reverse_append, List.reverse_cons, List.reverse_nil, List.nil_append, List.cons_append, List.flatMap_cons]
      rw [u.pre_eq]
      rfl
    rw [List.concat_eq_append] at *
    rw [hk] at hlen
    simp only [List.length_cons, List.length_append] at hlen
    have w1 := flat_len u.kids
    have w2 := flat_len W'.reverse
    rw [List.length_reverse] at w2
    have e1 : (!(List.map Ty.enc (W' ++ [u])).isEmpty) = true := by simp
    rw [e1]
    walk_at "tl"
    refine pop_mk (t := u.enc) (ys := W'.map Ty.enc) (by rw [gupd_same, List.map_append]; rfl) ?_
    rw [g2_setq]
    walk_at "tl"
    refine ⟨⟨_, g2_p hqp⟩, _, g2_p hqp, by rw [List.length_map]; omega, ?_⟩
    rw [g2_setp hqp]
    walk_at "tl"
    refine .inl ⟨u, rfl, by omega, ?_⟩
    walk_at "tl"
    refine ⟨by rw [List.length_reverse, List.length_map, List.length_map]; omega, (u.kids.flatMap Ty.pre ++ W'.reverse.flatMap Ty.pre).length, by rw [hk]; simp, ?_⟩
    refine Wk.mk ⟨F ++ [u], W' ++ u.kids.reverse, rfl, ?_, ?_, ?_⟩ (.same (.same (.same (.none .nil)))) .refl
    · simp
    · rw [hk] at hF
      simpa using hF
    · simp
end TL

namespace TL
open PySem PySem.Spec PyProof.Rows L2
local macro_rules | `(tactic| walk_at "tl") => `(tactic| try simp +decide only [tseq, tasg, tifs, tbool, tret, tretN, tdrop, tnext, tcont, tbreak, gname, gtup_tup, gcons_cons, gnil_nil, GO.lst.injEq, GO.dK.injEq, top, tvar, tcon, tun, ttup, tlst, tacons, tanil, tcb, tcall, tife, tand, tor, tnot, tandV, torV, tnotV, tisN, tnotN, T.isNon, ttruth, truth_bl, truth_non, truth_int, truth_tup, truth_fl, tsl, tpart, tnopart, tsortk, tlc, tfor, iany, irev, irange1_eq, irange2_eq, items_tup, items_fl, items_ref, twipe, List.set, izip_eq, tput_eq, vlist_tup, tmeth, isL, mappend_ref, mextend_tup, trev, exists_eq, exists_eq', 
  vix_tup, vix_fl, veq_str, vne_str, veq_int, vne_int, vcmp_int, vadd_int, vaddI_int, vadd_tup, vadd_str, vsub_int, vI_int, vlen_tup, vlen_fl, vlen_str, vtuple_tup, vtuple_ref, vint_int, vsl_tup, cut_from1, atI0, atI1, atI2, atI3, taug,
  startT, List.map_cons, List.map_nil, List.length_cons, List.length_nil, List.cons_append, List.nil_append, List.getElem?_cons_zero, List.getElem?_cons_succ, List.set_cons_zero, List.set_cons_succ, List.replicate, Option.some.injEq, exists_eq_left', exists_eq_left, T.bl.injEq, T.int.injEq, T.str.injEq, T.tup.injEq, T.ref.injEq, if_true, if_false, ite_true, ite_false, true_and, and_true, reduceCtorEq, gupd_same, gupd_gupd, Option.map_some, Option.map_none, Option.isSome_some, Option.isSome_none, Bool.not_true, Bool.not_false, Bool.true_eq_false, Bool.false_eq_true, List.cons.injEq, decide_true, decide_false])
def occE : Option Str → List (Str × Bool)
  | none => []
  | some r => [(r, true)]
mutual
def Ty.occ : Ty → List (Str × Bool)
  | .var a => [(a, false)]
  | .fn a b => a.occ ++ b.occ
  | .rcd fs e => occF fs ++ occE e
  | _ => []
def occF : List (Str × Ty) → List (Str × Bool)
  | [] => []
  | (_, t) :: r => t.occ ++ occF r
end
theorem occF_eq (fs : List (Str × Ty)) : occF fs = (fs.map (·.2)).flatMap Ty.occ := by
  induction fs with
  | nil => rfl
  | cons p r ih => obtain ⟨l, t⟩ := p; rw [occF, ih]; rfl
/-- what the stack of occurrences holds -/
inductive OI where
  | ty (t : Ty) | en (r : Str)
def OI.enc : OI → T
  | .ty t => t.enc
  | .en r => .tup [.str "end", .str r]
def OI.occ : OI → List (Str × Bool)
  | .ty t => t.occ
  | .en r => [(r, true)]
def OI.wt : OI → Nat
  | .ty t => 2 * t.pre.length
  | .en _ => 1
def encO (o : Str × Bool) : T := .tup [.str o.1, .bl o.2]
def wts (W : List OI) : Nat := (W.map OI.wt).sum
theorem wts_app (a b : List OI) : wts (a ++ b) = wts a + wts b := by simp [wts]
theorem wts_kids (ts : List Ty) : wts (ts.map OI.ty) = 2 * (ts.flatMap Ty.pre).length := by
  induction ts with
  | nil => rfl
  | cons t r ih => rw [List.map_cons, ← List.singleton_append, wts_app, ih, List.flatMap_cons, List.length_append]; simp [wts, OI.wt]; omega
theorem wts_rev (W : List OI) : wts W.reverse = wts W := by
  unfold wts; rw [List.map_reverse]; exact List.sum_reverse _
theorem wts_len (W : List OI) : W.length ≤ wts W := by
  induction W with
  | nil => simp
  | cons x r ih =>
    have : 1 ≤ x.wt := by
      cases x with
      | ty t => have := t.pre_pos; simp only [OI.wt]; omega
      | en r => exact Nat.le_refl _
    rw [← List.singleton_append, wts_app]
    simp only [List.length_append, List.length_singleton]
    have : wts [x] = x.wt := by simp [wts]
    omega
def t_occurrences_r1 : TTS :=
  (tdrop (tmeth mextend (tvar 2) (tacons (trev (tcall sp_type_parts (tacons (tvar 3) tanil))) tanil)))
def t_occurrences : TTS :=
  (tseq (tasg (tlst tanil) (gname 1))
  (tseq (tasg (tlst (tacons (tvar 0) tanil)) (gname 2))
  (tseq (twhile (ttruth (tvar 2))
  (tseq (tasg (tmeth mpop (tvar 2) tanil) (gname 3))
  (tseq (tifs (tbool (top veq (top vix (tvar 3) (tcon (.int 0))) (tcon (.str "end"))))
  (tdrop (tmeth mappend (tvar 1) (tacons (ttup (tacons (top vix (tvar 3) (tcon (.int 1))) (tacons (tcon (.bl true)) tanil))) tanil)))
  (tifs (tbool (top veq (top vix (tvar 3) (tcon (.int 0))) (tcon (.str "var"))))
  (tdrop (tmeth mappend (tvar 1) (tacons (ttup (tacons (top vix (tvar 3) (tcon (.int 1))) (tacons (tcon (.bl false)) tanil))) tanil)))
  (tifs (tand (tbool (top veq (top vix (tvar 3) (tcon (.int 0))) (tcon (.str "record")))) (tbool (tnotN (top vix (tvar 3) (tcon (.int 2))))))
  (tdrop (tmeth mappend (tvar 2) (tacons (ttup (tacons (tcon (.str "end")) (tacons (top vix (tvar 3) (tcon (.int 2))) tanil))) tanil)))
  tnext)))
  t_occurrences_r1)))
  (tret (tvar 1)))))

def sp_occurrences : TSp := fun ts G R => ∃ t : Ty, ts = [t.enc] ∧ 2 * t.pre.length ≤ sizeLine ∧ ∀ p, G p = none → R (.ref p) (gupd G p (.lst (t.occ.map encO)))
theorem pure_occurrences (ts : List T) (G : GH) (R : TK) (h : sp_occurrences ts G R) : t_occurrences { nx := fun _ G' => WkR R .non G', rt := WkR R } (startT ["given", "found", "waiting", "part"] ts) G := by
  obtain ⟨t, rfl, hl, h⟩ := h
  unfold t_occurrences t_occurrences_r1
  walk_at "tl"
  intro p hp q hq0
  obtain ⟨hqp, hq⟩ := ne_none hq0
  refine ⟨fun m st G' => ∃ (F : List (Str × Bool)) (W : List OI), st = [some t.enc, some (.ref p), some (.ref q), none] ∧ G' = gupd (gupd G p (.lst (F.map encO))) q (.lst (W.map OI.enc)) ∧ F ++ W.reverse.flatMap OI.occ = t.occ ∧ m = wts W ∧ F.length + wts W ≤ sizeLine, ⟨_, [], [.ty t], rfl, rfl, by simp [OI.occ], rfl, by simp [wts, OI.wt]; exact hl⟩, ?_⟩
  rintro m st G' ⟨F, W, rfl, rfl, hF, rfl, hz⟩
  walk_at "tl"
  refine ⟨_, truth_ref gupd_same rfl, ?_⟩
  rcases List.eq_nil_or_concat W with rfl | ⟨W', u, rfl⟩
  · walk_at "tl"
    have eF : F = t.occ := by simpa using hF
    subst eF
    exact ⟨_, Sub.gupd (by rw [gupd_ne hqp]; exact hq), h p hp⟩
  · rw [List.concat_eq_append] at *
    have hk : F ++ (u.occ ++ W'.reverse.flatMap OI.occ) = t.occ := by simpa using hF
    rw [wts_app] at hz
    have hw := wts_len W'
    have hu : wts [u] = u.wt := by simp [wts]
    have e1 : (!(List.map OI.enc (W' ++ [u])).isEmpty) = true := by simp
    have tail : ∀ (X : T) (F' : List (Str × Bool)) (W2 : List OI), F' ++ W2.reverse.flatMap OI.occ = t.occ → wts W2 < wts (W' ++ [u]) → F'.length + wts W2 ≤ sizeLine →
        ∃ m', m' < wts (W' ++ [u]) ∧ Wk (fun st G' => ∃ (F : List (Str × Bool)) (W : List OI), st = [some t.enc, some (.ref p), some (.ref q), none] ∧ G' = gupd (gupd G p (.lst (F.map encO))) q (.lst (W.map OI.enc)) ∧ F ++ W.reverse.flatMap OI.occ = t.occ ∧ m' = wts W ∧ F.length + wts W ≤ sizeLine)
          [some t.enc, some (.ref p), some (.ref q), some X] (gupd (gupd G p (.lst (F'.map encO))) q (.lst (W2.map OI.enc))) :=
      fun X F' W2 h1 h2 h3 => ⟨_, h2, .mk ⟨F', W2, rfl, rfl, h1, rfl, h3⟩ (.same (.same (.same (.none .nil)))) .refl⟩
    rw [e1]
    walk_at "tl"
    refine pop_mk (t := u.enc) (ys := W'.map OI.enc) (by rw [gupd_same, List.map_append]; rfl) ?_
    rw [g2_setq]
    cases u with
    | en r =>
      simp only [OI.enc, OI.wt, OI.occ] at *
      walk_at "tl"
      refine ⟨⟨_, g2_p hqp⟩, _, g2_p hqp, by rw [List.length_map]; omega, ?_⟩
      rw [g2_setp hqp]
      walk_at "tl"
      refine .inr ⟨r, rfl, ?_⟩
      walk_at "tl"
      refine ⟨by rw [List.length_reverse, List.length_map]; simp; omega, ?_⟩
      have := tail (.tup [.str "end", .str r]) (F ++ [(r, true)]) W' (by simpa using hk) (by rw [wts_app]; omega) (by simp; omega)
      simpa [encO] using this
    | ty v =>
      have hp1 := v.pre_pos
      have hkl := v.kids_len
      cases v with
      | var a =>
        simp only [OI.enc, OI.wt, OI.occ, Ty.enc, Ty.occ] at *
        walk_at "tl"
        refine ⟨⟨_, g2_p hqp⟩, _, g2_p hqp, by rw [List.length_map]; omega, ?_⟩
        rw [g2_setp hqp]
        walk_at "tl"
        refine .inl ⟨.var a, rfl, by omega, ?_⟩
        walk_at "tl"
        refine ⟨by simp [Ty.kids]; omega, ?_⟩
        have := tail (.tup [.str "var", .str a]) (F ++ [(a, false)]) W' (by simpa using hk) (by rw [wts_app]; omega) (by simp; omega)
        simpa [encO, Ty.kids] using this
      | num =>
        simp only [OI.enc, OI.wt, OI.occ, Ty.enc, Ty.occ] at *
        walk_at "tl"
        refine .inl ⟨.num, rfl, by omega, ?_⟩
        walk_at "tl"
        refine ⟨by simp [Ty.kids]; omega, ?_⟩
        have := tail (.tup [.str "number"]) F W' (by simpa using hk) (by rw [wts_app]; omega) (by omega)
        simpa [encO, Ty.kids] using this
      | tru =>
        simp only [OI.enc, OI.wt, OI.occ, Ty.enc, Ty.occ] at *
        walk_at "tl"
        refine .inl ⟨.tru, rfl, by omega, ?_⟩
        walk_at "tl"
        refine ⟨by simp [Ty.kids]; omega, ?_⟩
        have := tail (.tup [.str "truth"]) F W' (by simpa using hk) (by rw [wts_app]; omega) (by omega)
        simpa [encO, Ty.kids] using this
      | fn x y =>
        have hx := x.pre_pos
        have hpre : (Ty.fn x y).pre.length = x.pre.length + y.pre.length + 1 := by simp [Ty.pre]
        simp only [OI.enc, OI.wt, OI.occ, Ty.enc, Ty.occ] at *
        walk_at "tl"
        refine .inl ⟨.fn x y, rfl, by omega, ?_⟩
        walk_at "tl"
        refine ⟨by simp [Ty.kids]; omega, ?_⟩
        have hw2 : wts (W' ++ [.ty y, .ty x]) = wts W' + (2 * y.pre.length + 2 * x.pre.length) := by rw [wts_app]; simp [wts, OI.wt]
        have := tail (.tup [.str "fun", x.enc, y.enc]) F (W' ++ [.ty y, .ty x]) (by simpa [OI.occ] using hk) (by rw [hw2, wts_app]; omega) (by rw [hw2]; omega)
        simpa [encO, Ty.kids, OI.enc] using this
      | rcd fs e =>
        have hpre : (Ty.rcd fs e).pre.length = ((fs.map (·.2)).flatMap Ty.pre).length + 1 := by rw [Ty.pre, presF_eq]; simp
        have hkk : (Ty.rcd fs e).kids = fs.map (·.2) := rfl
        have hfl := flat_len (fs.map (·.2))
        simp only [List.length_map] at hfl
        simp only [OI.enc, OI.wt, OI.occ, Ty.enc, Ty.occ, occF_eq] at *
        cases e with
        | none =>
          simp only [encE, occE] at *
          walk_at "tl"
          refine .inl ⟨.rcd fs none, rfl, by omega, ?_⟩
          walk_at "tl"
          refine ⟨by simp [Ty.kids]; omega, ?_⟩
          have hw2 : wts (W' ++ ((fs.map (·.2)).map OI.ty).reverse) = wts W' + 2 * ((fs.map (·.2)).flatMap Ty.pre).length := by rw [wts_app, wts_rev, wts_kids]
          have := tail (Ty.rcd fs none).enc F (W' ++ ((fs.map (·.2)).map OI.ty).reverse) (by simpa [List.flatMap_map, OI.occ] using hk) (by rw [hw2, wts_app]; omega) (by rw [hw2]; omega)
          simpa [encO, Ty.kids, OI.enc, Ty.enc, encE, Function.comp_def] using this
        | some r =>
          simp only [encE, occE] at *
          walk_at "tl"
          refine ⟨by rw [List.length_map]; omega, .inl ⟨.rcd fs (some r), rfl, by omega, ?_⟩⟩
          walk_at "tl"
          refine ⟨by simp [Ty.kids]; omega, ?_⟩
          have hw2 : wts (W' ++ [.en r] ++ ((fs.map (·.2)).map OI.ty).reverse) = wts W' + 1 + 2 * ((fs.map (·.2)).flatMap Ty.pre).length := by rw [wts_app, wts_app, wts_rev, wts_kids]; rfl
          have := tail (Ty.rcd fs (some r)).enc F (W' ++ [.en r] ++ ((fs.map (·.2)).map OI.ty).reverse) (by simpa [List.flatMap_map, OI.occ] using hk) (by rw [hw2, wts_app]; omega) (by rw [hw2]; omega)
          simpa [encO, Ty.kids, OI.enc, Ty.enc, encE, Function.comp_def] using this
end TL

namespace TL
open PySem PySem.Spec PyProof.Rows L2
local macro_rules | `(tactic| walk_at "tl") => `(tactic| try simp +decide only [tseq, tasg, tifs, tbool, tret, tretN, tdrop, tnext, tcont, tbreak, gname, gtup_tup, gcons_cons, gnil_nil, GO.lst.injEq, GO.dK.injEq, top, tvar, tcon, tun, ttup, tlst, tacons, tanil, tcb, tcall, tife, tand, tor, tnot, tandV, torV, tnotV, tisN, tnotN, T.isNon, ttruth, truth_bl, truth_non, truth_int, truth_tup, truth_fl, tsl, tpart, tnopart, tsortk, tlc, tfor, iany, irev, irange1_eq, irange2_eq, items_tup, items_fl, items_ref, twipe, List.set, izip_eq, tput_eq, vlist_tup, tmeth, isL, mappend_ref, mextend_tup, trev, exists_eq, exists_eq', 
  vix_tup, vix_fl, veq_str, vne_str, veq_int, vne_int, vcmp_int, vadd_int, vaddI_int, vadd_tup, vadd_str, vsub_int, vI_int, vlen_tup, vlen_fl, vlen_str, vtuple_tup, vtuple_ref, vint_int, vsl_tup, cut_from1, atI0, atI1, atI2, atI3, taug,
  startT, List.map_cons, List.map_nil, List.length_cons, List.length_nil, List.cons_append, List.nil_append, List.getElem?_cons_zero, List.getElem?_cons_succ, List.set_cons_zero, List.set_cons_succ, List.replicate, Option.some.injEq, exists_eq_left', exists_eq_left, T.bl.injEq, T.int.injEq, T.str.injEq, T.tup.injEq, T.ref.injEq, if_true, if_false, ite_true, ite_false, true_and, and_true, reduceCtorEq, gupd_same, gupd_gupd, Option.map_some, Option.map_none, Option.isSome_some, Option.isSome_none, Bool.not_true, Bool.not_false, Bool.true_eq_false, Bool.false_eq_true, List.cons.injEq, decide_true, decide_false])
/-- each once, by its first place -/
def once (acc : List Str) : List Str → List Str
  | [] => acc
  | x :: r => once (if x ∈ acc then acc else acc ++ [x]) r
def nmD (xs : List Str) : List (Key × T) := xs.map fun x => (.inr x, .bl true)
theorem nmD_any (xs : List Str) (x : Str) : ((nmD xs).any fun kv => decide (kv.1 = Sum.inr x)) = decide (x ∈ xs) := by
  induction xs with
  | nil => rfl
  | cons y r ih =>
    simp only [nmD, List.map_cons, List.any_cons] at ih ⊢
    rw [ih]
    by_cases h : y = x
    · subst h; simp
    · have h2 : ¬ (Sum.inr y : Key) = Sum.inr x := fun z => h (Sum.inr.inj z)
      have h3 : ¬ x = y := fun z => h z.symm
      simp [h2, h3]
theorem nmD_put (xs : List Str) (x : Str) : putT (nmD xs) (.inr x) (.bl true) = nmD (if x ∈ xs then xs else xs ++ [x]) := by
  unfold putT
  rw [nmD_any]
  by_cases h : x ∈ xs
  · rw [if_pos (decide_eq_true h), if_pos h]
    unfold nmD
    rw [List.map_map]
    refine List.map_congr_left fun y _ => ?_
    show (if (Sum.inr y : Key) = Sum.inr x then _ else _) = _
    split
    · rfl
    · rfl
  · rw [if_neg (by simp [h]), if_neg h]
    simp [nmD]
theorem nmD_len (xs : List Str) : (nmD xs).length = xs.length := by simp [nmD]
theorem nmD_keys (xs : List Str) : ((nmD xs).map fun kv => kT kv.1) = xs.map T.str := by simp [nmD, kT]
theorem once_len (xs : List Str) : ∀ acc, (once acc xs).length ≤ acc.length + xs.length := by
  induction xs with
  | nil => intro acc; simp [once]
  | cons x r ih =>
    intro acc
    have := ih (if x ∈ acc then acc else acc ++ [x])
    rw [once, List.length_cons]
    have h2 : (if x ∈ acc then acc else acc ++ [x]).length ≤ acc.length + 1 := by split <;> simp
    omega
theorem once_app (ys : List Str) : ∀ xs acc, once acc (xs ++ ys) = once (once acc xs) ys
  | [], acc => rfl
  | x :: r, acc => by simp only [List.cons_append, once]; exact once_app ys r _
def Ty.vars (t : Ty) : List Str := once [] ((t.occ.filter fun o => !o.2).map (·.1))
def Ty.rows (t : Ty) : List Str := once [] ((t.occ.filter fun o => o.2).map (·.1))
def encS (xs : List Str) : List T := xs.map T.str
mutual
theorem occ_len : ∀ t : Ty, t.occ.length ≤ 2 * t.pre.length
  | .num => by simp [Ty.occ]
  | .tru => by simp [Ty.occ]
  | .var a => by simp [Ty.occ, Ty.pre]
  | .fn a b => by
    have h1 := occ_len a
    have h2 := occ_len b
    simp only [Ty.occ, Ty.pre, List.length_append, List.length_cons]; omega
  | .rcd fs e => by
    have h := occF_len fs
    have : (occE e).length ≤ 1 := by cases e <;> simp [occE]
    simp only [Ty.occ, Ty.pre, List.length_append, List.length_cons]; omega
theorem occF_len : ∀ fs : List (Str × Ty), (occF fs).length ≤ 2 * (presF fs).length
  | [] => by simp [occF]
  | (_, t) :: r => by
    have h1 := occ_len t
    have h2 := occF_len r
    simp only [occF, presF, List.length_append]; omega
end
def t_variables : TTS :=
  (tseq (tasg tdnew (gname 1))
  (tseq (tasg tdnew (gname 2))
  (tseq (tfor (iany (tcall sp_occurrences (tacons (tvar 0) tanil))) (gtup 2 (gcons (gname 3) (gcons (gname 4) gnil)))
  (tifs (ttruth (tvar 4))
  (tput (tvar 2) (tvar 3) (tcon (.bl true)))
  (tput (tvar 1) (tvar 3) (tcon (.bl true)))))
  (tret (ttup (tacons (tcb vlist (tacons (tvar 1) tanil)) (tacons (tcb vlist (tacons (tvar 2) tanil)) tanil)))))))

def sp_variables : TSp := fun ts G R => ∃ t : Ty, ts = [t.enc] ∧ 2 * t.pre.length ≤ sizeLine ∧ ∀ p q, G p = none → G q = none → p ≠ q → R (.tup [.ref p, .ref q]) (gupd (gupd G p (.lst (encS t.vars))) q (.lst (encS t.rows)))
theorem pure_variables (ts : List T) (G : GH) (R : TK) (h : sp_variables ts G R) : t_variables { nx := fun _ G' => WkR R .non G', rt := WkR R } (startT ["given", "kinds", "rows", "name", "ends_row"] ts) G := by
  obtain ⟨t, rfl, hl, h⟩ := h
  unfold t_variables tdnew
  walk_at "tl"
  intro p hp q hq0
  obtain ⟨hqp, hq⟩ := ne_none hq0
  refine ⟨t, rfl, hl, fun a ha => ?_⟩
  obtain ⟨haq, ha⟩ := ne_none ha
  obtain ⟨hap, ha⟩ := ne_none ha
  walk_at "tl"
  have ol := occ_len t
  refine for_inv (α := Str × Bool) encO (fun xs st G' => ∃ zs, t.occ = zs ++ xs ∧ st = [some t.enc, some (.ref p), some (.ref q), none, none] ∧ G' = gupd (gupd (gupd G p (.dK (nmD (once [] ((zs.filter fun o => !o.2).map (·.1)))))) q (.dK (nmD (once [] ((zs.filter fun o => o.2).map (·.1)))))) a (.lst (t.occ.map encO))) ?_ ?_ t.occ _ _ ⟨[], rfl, rfl, rfl⟩
  · rintro ⟨x, b⟩ xs st G' N hN ⟨zs, hz, rfl, rfl⟩
    refine ⟨gupd_same, ?_⟩
    simp only [encO]
    walk_at "tl"
    have hln := congrArg List.length hz
    simp at hln
    cases b with
    | true =>
      walk_at "tl"
      refine put_dK (k := .inr x) (by rw [gupd_ne (Ne.symm haq), gupd_same]) rfl ?_ ?_
      · rw [nmD_len]
        have := once_len ((zs.filter fun o => o.2).map (·.1)) []
        have h3 := List.length_filter_le (fun o : Str × Bool => o.2) zs
        simp only [List.length_map, List.length_nil] at this
        omega
      · rw [nmD_put]
        refine hN _ _ (.mk ⟨zs ++ [(x, true)], by simpa using hz, rfl, ?_⟩ (.same (.same (.same (.none (.none .nil))))) .refl)
        rw [gupd_comm haq, gupd_gupd]
        simp [once_app, once]
    | false =>
      walk_at "tl"
      refine put_dK (k := .inr x) (by rw [gupd_ne (Ne.symm hap), g2_p hqp]) rfl ?_ ?_
      · rw [nmD_len]
        have := once_len ((zs.filter fun o => !o.2).map (·.1)) []
        have h3 := List.length_filter_le (fun o : Str × Bool => !o.2) zs
        simp only [List.length_map, List.length_nil] at this
        omega
      · rw [nmD_put]
        refine hN _ _ (.mk ⟨zs ++ [(x, false)], by simpa using hz, rfl, ?_⟩ (.same (.same (.same (.none (.none .nil))))) .refl)
        rw [gupd_comm hap, g2_setp hqp]
        simp [once_app, once]
  · rintro st G' ⟨zs, hz, rfl, rfl⟩
    rw [List.append_nil] at hz
    subst hz
    refine ⟨gupd_same, ?_⟩
    walk_at "tl"
    refine list_dK (by rw [gupd_ne (Ne.symm hap), g2_p hqp]) fun u hu => ?_
    obtain ⟨hua, hu⟩ := ne_none hu
    obtain ⟨huq, hu⟩ := ne_none hu
    obtain ⟨hup, hu⟩ := ne_none hu
    refine list_dK (by rw [gupd_ne (Ne.symm huq), gupd_ne (Ne.symm haq), gupd_same]) fun v hv => ?_
    obtain ⟨hvu, hv⟩ := ne_none hv
    obtain ⟨hva, hv⟩ := ne_none hv
    obtain ⟨hvq, hv⟩ := ne_none hv
    obtain ⟨hvp, hv⟩ := ne_none hv
    rw [nmD_keys, nmD_keys]
    refine ⟨_, ?_, h u v hu hv (Ne.symm hvu)⟩
    refine Sub.at fun b o hb e => ?_
    by_cases z : b = u
    · subst z
      rw [gupd_same] at e ⊢
      exact e
    · rw [gupd_ne z] at e ⊢
      rw [gupd_ne (fun z => by subst z; rw [ha] at e; cases e), gupd_ne (fun z => by subst z; rw [hq] at e; cases e), gupd_ne (fun z => by subst z; rw [hp] at e; cases e)]
      exact e
def Ty.sym1 : Ty → Nat
  | .rcd fs e => 1 + fs.length + (match e with | none => 0 | some _ => 1)
  | _ => 1
def Ty.sym (t : Ty) : Nat := (t.pre.map Ty.sym1).sum
def t_symbols : TTS :=
  (tseq (tasg (tcon (.int 0)) (gname 1))
  (tseq (tfor (iany (tcall sp_all_types (tacons (tvar 0) tanil))) (gname 2)
  (tseq (taug 1 (tcon (.int 1)) vaddI)
  (tifs (tbool (top veq (top vix (tvar 2) (tcon (.int 0))) (tcon (.str "record"))))
  (tseq (taug 1 (tcb vlen (tacons (top vix (tvar 2) (tcon (.int 1))) tanil)) vaddI)
  (tifs (tbool (tnotN (top vix (tvar 2) (tcon (.int 2)))))
  (taug 1 (tcon (.int 1)) vaddI)
  tnext))
  tnext)))
  (tret (tvar 1))))

def sp_symbols : TSp := fun ts G R => ∃ t : Ty, ts = [t.enc] ∧ t.pre.length ≤ sizeLine ∧ R (.int t.sym) G
theorem pure_symbols (ts : List T) (G : GH) (R : TK) (h : sp_symbols ts G R) : t_symbols { nx := fun _ G' => WkR R .non G', rt := WkR R } (startT ["given", "many", "part"] ts) G := by
  obtain ⟨t, rfl, hl, h⟩ := h
  unfold t_symbols
  walk_at "tl"
  refine ⟨t, rfl, hl, fun a ha => ?_⟩
  walk_at "tl"
  refine for_inv (α := Ty) Ty.enc (fun xs st G' => ∃ zs, t.pre = zs ++ xs ∧ st = [some t.enc, some (.int ((zs.map Ty.sym1).sum : Nat)), none] ∧ G' = gupd G a (.lst (t.pre.map Ty.enc))) ?_ ?_ t.pre _ _ ⟨[], rfl, rfl, rfl⟩
  · rintro x xs st G' N hN ⟨zs, hz, rfl, rfl⟩
    refine ⟨gupd_same, ?_⟩
    have step : ∀ k : Nat, x.sym1 = k → ∀ X, N [some t.enc, some (.int (((zs.map Ty.sym1).sum : Nat) + (k : Int))), some X] (gupd G a (.lst (t.pre.map Ty.enc))) := fun k hk X => by
      refine hN _ _ (.mk ⟨zs ++ [x], by simpa using hz, rfl, rfl⟩ ?_ .refl)
      have e : (((zs ++ [x]).map Ty.sym1).sum : Nat) = (zs.map Ty.sym1).sum + k := by simp [hk]
      rw [e, Int.natCast_add]
      exact .same (.same (.none .nil))
    cases x with
    | rcd fs e =>
      cases e with
      | none =>
        simp only [Ty.enc, encE]
        walk_at "tl"
        have := step (1 + fs.length + 0) rfl (Ty.rcd fs none).enc
        rw [encFs_map, List.length_map]
        rw [show (((zs.map Ty.sym1).sum : Nat) : Int) + 1 + (fs.length : Int) = ((zs.map Ty.sym1).sum : Nat) + ((1 + fs.length + 0 : Nat) : Int) by omega, ← encFs_map]
        exact this
      | some r =>
        simp only [Ty.enc, encE]
        walk_at "tl"
        have := step (1 + fs.length + 1) rfl (Ty.rcd fs (some r)).enc
        rw [encFs_map, List.length_map]
        rw [show (((zs.map Ty.sym1).sum : Nat) : Int) + 1 + (fs.length : Int) + 1 = ((zs.map Ty.sym1).sum : Nat) + ((1 + fs.length + 1 : Nat) : Int) by omega, ← encFs_map]
        exact this
    | _ =>
      simp only [Ty.enc, encE]
      walk_at "tl"
      exact step 1 rfl _
  · rintro st G' ⟨zs, hz, rfl, rfl⟩
    rw [List.append_nil] at hz
    subst hz
    refine ⟨gupd_same, ?_⟩
    walk_at "tl"
    exact ⟨_, Sub.gupd ha, h⟩
def leF (a b : Str × Ty) : Bool := decide (a.1.cps.toList ≤ b.1.cps.toList)
def sortF (fs : List (Str × Ty)) : List (Str × Ty) := fs.mergeSort leF
def Ty.sortK : Ty → Ty
  | .rcd fs e => .rcd (sortF fs) e
  | t => t
theorem sortT0_enc (fs : List (Str × Ty)) : sortT0 (encFs fs) = encFs (sortF fs) := by
  rw [encFs_map, encFs_map]
  exact (List.map_mergeSort (f := fun p : Str × Ty => T.tup [.str p.1, p.2.enc]) fun a _ b _ => rfl).symm
theorem okKey_enc (fs : List (Str × Ty)) : (encFs fs).all okKey = true := by
  rw [encFs_map]; simp [okKey]
def t__sorted_fields (TT : List (Addr × Str)) : TTS :=
  (tseq (tifs (tbool (top vne (top vix (tvar 0) (tcon (.int 0))) (tcon (.str "record"))))
  (tret (tvar 0))
  tnext)
  (tseq (tasg (tsortk TT (top vix (tvar 0) (tcon (.int 1)))) (gname 1))
  (tret (ttup (tacons (tcon (.str "record")) (tacons (tcb vtuple (tacons (tvar 1) tanil)) (tacons (top vix (tvar 0) (tcon (.int 2))) tanil)))))))

def sp__sorted_fields (TT : List (Addr × Str)) : TSp := fun ts G R => ∃ t : Ty, ts = [t.enc] ∧ Tbs TT G ∧ t.kids.length ≤ sizeLine ∧ R t.sortK.enc G
theorem pure__sorted_fields (TT : List (Addr × Str)) (ts : List T) (G : GH) (R : TK) (h : sp__sorted_fields TT ts G R) : t__sorted_fields TT { nx := fun _ G' => WkR R .non G', rt := WkR R } (startT ["given", "fields"] ts) G := by
  obtain ⟨t, rfl, hT, hl, h⟩ := h
  unfold t__sorted_fields
  cases t with
  | rcd fs e =>
    simp only [Ty.enc, tsortk]
    walk_at "tl"
    refine ⟨hT, _, rfl, okKey_enc fs, ?_, fun p hp => ?_⟩
    · rw [encFs_map, List.length_map]
      simpa [Ty.kids] using hl
    · walk_at "tl"
      rw [sortT0_enc]
      exact wkR_new hp h
  | _ =>
    simp only [Ty.enc]
    walk_at "tl"
    exact .of h
end TL

namespace TL
open PySem PySem.Spec PyProof.Rows L2
local macro_rules | `(tactic| walk_at "tl") => `(tactic| try simp +decide only [tseq, tasg, tifs, tbool, tret, tretN, tdrop, tnext, tcont, tbreak, gname, gtup_tup, gcons_cons, gnil_nil, GO.lst.injEq, GO.dK.injEq, top, tvar, tcon, tun, ttup, tlst, tacons, tanil, tcb, tcall, tife, tand, tor, tnot, tandV, torV, tnotV, tisN, tnotN, T.isNon, ttruth, truth_bl, truth_non, truth_int, truth_tup, truth_fl, tsl, tpart, tnopart, tsortk, tlc, tfor, iany, irev, irange1_eq, irange2_eq, items_tup, items_fl, items_ref, twipe, List.set, izip_eq, tput_eq, vlist_tup, tmeth, isL, mappend_ref, mextend_tup, trev, exists_eq, exists_eq', 
  vix_tup, vix_fl, veq_str, vne_str, veq_int, vne_int, vcmp_int, vadd_int, vaddI_int, vadd_tup, vadd_str, vsub_int, vI_int, vlen_tup, vlen_fl, vlen_str, vtuple_tup, vtuple_ref, vint_int, vsl_tup, cut_from1, atI0, atI1, atI2, atI3, taug,
  startT, List.map_cons, List.map_nil, List.length_cons, List.length_nil, List.cons_append, List.nil_append, List.getElem?_cons_zero, List.getElem?_cons_succ, List.set_cons_zero, List.set_cons_succ, List.replicate, Option.some.injEq, exists_eq_left', exists_eq_left, T.bl.injEq, T.int.injEq, T.str.injEq, T.tup.injEq, T.ref.injEq, if_true, if_false, ite_true, ite_false, true_and, and_true, reduceCtorEq, gupd_same, gupd_gupd, Option.map_some, Option.map_none, Option.isSome_some, Option.isSome_none, Bool.not_true, Bool.not_false, Bool.true_eq_false, Bool.false_eq_true, List.cons.injEq, decide_true, decide_false])
theorem mem_sum {x : Nat} : ∀ {xs : List Nat}, x ∈ xs → x ≤ xs.sum
  | [], h => absurd h (by simp)
  | y :: r, h => by
    rcases List.mem_cons.mp h with rfl | h
    · simp
    · have := mem_sum h; simp; omega
theorem pre_loop {β : Type} {P : List β → List Ty → Prop} (g : Ty → β) (root : Ty) (step : ∀ u S rest, u ∈ root.pre → P (S ++ [g u]) rest → P (S ++ (u.kids.map g).reverse) (u :: rest)) : ∀ S rest, P (S ++ [g root]) rest → P S (root.pre.reverse ++ rest) := by
  have forest : ∀ ts : List Ty, (∀ t ∈ ts, ∀ S rest, P (S ++ [g t]) rest → P S (t.pre.reverse ++ rest)) → ∀ S rest, P (S ++ (ts.map g).reverse) rest → P S ((ts.flatMap Ty.pre).reverse ++ rest) := by
    intro ts
    induction ts with
    | nil => intro _ S rest h; simpa using h
    | cons t ts ih =>
      intro hs S rest h
      rw [List.flatMap_cons, List.reverse_append, List.append_assoc]
      refine ih (fun u hu => hs u (by simp [hu])) S _ (hs t (by simp) _ _ ?_)
      simpa using h
  have all : ∀ n (t : Ty), t.pre.length ≤ n → (∀ u ∈ t.pre, u ∈ root.pre) → ∀ S rest, P (S ++ [g t]) rest → P S (t.pre.reverse ++ rest) := by
    intro n
    induction n with
    | zero => intro t h; have := t.pre_pos; omega
    | succ n ih =>
      intro t hn hs S rest h
      have e := t.pre_eq
      rw [e, List.reverse_cons, List.append_assoc]
      refine forest t.kids (fun u hu => ih u ?_ ?_) S _ (step t S rest (hs t (by rw [e]; simp)) h)
      · have h1 : u.pre.length ≤ (t.kids.flatMap Ty.pre).length := by
          rw [List.length_flatMap]
          exact mem_sum (List.mem_map_of_mem hu)
        rw [e] at hn
        simp only [List.length_cons] at hn
        omega
      · intro v hv
        refine hs v ?_
        rw [e]
        exact List.mem_cons_of_mem _ (List.mem_flatMap.mpr ⟨u, hu, hv⟩)
  exact fun S rest h => all _ root (Nat.le_refl _) (fun _ h => h) S rest h
mutual
def Ty.norm : Ty → Ty
  | .fn a b => .fn a.norm b.norm
  | .rcd fs e => .rcd (sortF (normF fs)) e
  | t => t
def normF : List (Str × Ty) → List (Str × Ty)
  | [] => []
  | (l, t) :: r => (l, t.norm) :: normF r
end
theorem normF_eq (fs : List (Str × Ty)) : normF fs = fs.map fun p => (p.1, p.2.norm) := by
  induction fs with
  | nil => rfl
  | cons p r ih => obtain ⟨l, t⟩ := p; rw [normF, ih]; rfl
theorem zip_map_self {α β γ : Type} (f : α → β) (h : α → β → γ) (xs : List α) : List.zipWith h xs (xs.map f) = xs.map fun x => h x (f x) := by
  induction xs with
  | nil => rfl
  | cons x r ih => simp [ih]
theorem norm_step (t : Ty) : (t.withK (t.kids.map Ty.norm)).sortK = t.norm := by
  cases t with
  | fn a b => rfl
  | rcd fs e =>
    simp only [Ty.kids, List.map_map, Ty.withK, Ty.sortK, Ty.norm, normF_eq]
    rw [show (Ty.norm ∘ fun x : Str × Ty => x.2) = fun p : Str × Ty => p.2.norm from rfl, zip_map_self (fun p : Str × Ty => p.2.norm)]
  | _ => rfl
theorem pre_kids {t u : Ty} (h : u ∈ t.pre) : u.kids.length ≤ t.pre.length ∧ u.pre.length ≤ t.pre.length := by
  suffices H : ∀ n (t : Ty), t.pre.length ≤ n → u ∈ t.pre → u.pre.length ≤ t.pre.length by
    have := H _ t (Nat.le_refl _) h
    have := u.kids_len
    omega
  intro n
  induction n with
  | zero => intro t h; have := t.pre_pos; omega
  | succ n ih =>
    intro t hn hu
    have e := t.pre_eq
    rw [e] at hu hn ⊢
    rcases List.mem_cons.mp hu with rfl | hu
    · rw [← e]; exact Nat.le_refl _
    · obtain ⟨v, hv, huv⟩ := List.mem_flatMap.mp hu
      have h1 : v.pre.length ≤ (t.kids.flatMap Ty.pre).length := by
        rw [List.length_flatMap]
        exact mem_sum (List.mem_map_of_mem hv)
      simp only [List.length_cons] at hn ⊢
      have := ih v (by omega) huv
      omega
theorem withK_len (t : Ty) (ks : List Ty) : (t.withK ks).kids.length ≤ t.kids.length := by
  unfold Ty.withK
  split
  · simp [Ty.kids]
  · simp [Ty.kids]; omega
  · exact Nat.le_refl _
def t_normal (TT : List (Addr × Str)) : TTS :=
  (tseq (tasg (tlst tanil) (gname 1))
  (tseq (tfor (irev (tcall sp_all_types (tacons (tvar 0) tanil))) (gname 2)
  (tseq (tasg (tlc (iany (tcall sp_type_parts (tacons (tvar 2) tanil))) (gname 4) tyes (tmeth mpop (tvar 1) tanil) [4]) (gname 3))
  (tdrop (tmeth mappend (tvar 1) (tacons (tcall (sp__sorted_fields TT) (tacons (tcall sp_with_parts (tacons (tvar 2) (tacons (tvar 3) tanil))) tanil)) tanil)))))
  (tret (tmeth mpop (tvar 1) tanil))))

def sp_normal (TT : List (Addr × Str)) : TSp := fun ts G R => ∃ t : Ty, ts = [t.enc] ∧ Tbs TT G ∧ 2 * t.pre.length ≤ sizeLine ∧ R t.norm.enc G
theorem pure_normal (TT : List (Addr × Str)) (ts : List T) (G : GH) (R : TK) (h : sp_normal TT ts G R) : t_normal TT { nx := fun _ G' => WkR R .non G', rt := WkR R } (startT ["given", "built", "part", "inner", "_"] ts) G := by
  obtain ⟨t, rfl, hT, hl, h⟩ := h
  unfold t_normal
  walk_at "tl"
  intro p hp
  refine ⟨t, rfl, by omega, fun a ha0 => ?_⟩
  obtain ⟨hap, ha⟩ := ne_none ha0
  walk_at "tl"
  refine cast (congrArg (fun l => forGo _ _ _ _ l _ _) (List.map_reverse (f := Ty.enc) (l := t.pre))) ?_
  have main := pre_loop (P := fun S xs => S.length + xs.length ≤ sizeLine → forGo (fun G' => G' a = some (.lst (t.pre.map Ty.enc))) (gname 2) (tseq (tasg (tlc (iany (tcall sp_type_parts (tacons (tvar 2) tanil))) (gname 4) tyes (tmeth mpop (tvar 1) tanil) [4]) (gname 3))
      (tdrop (tmeth mappend (tvar 1) (tacons (tcall (sp__sorted_fields TT) (tacons (tcall sp_with_parts (tacons (tvar 2) (tacons (tvar 3) tanil))) tanil)) tanil))))
      { nx := tret (tmeth mpop (tvar 1) tanil) { nx := fun x G' => WkR R T.non G', rt := WkR R }, rt := WkR R } (xs.map Ty.enc) [some t.enc, some (.ref p), none, none, none] (gupd (gupd G p (.lst (S.map Ty.enc))) a (.lst (t.pre.map Ty.enc)))) Ty.norm t ?_ [] [] ?_ (by simp; omega)
  · simpa using main
  · intro u S rest hu hP hlen
    have hk := pre_kids hu
    refine ⟨gupd_same, ?_⟩
    walk_at "tl"
    refine .inl ⟨u, rfl, by omega, ?_⟩
    walk_at "tl"
    intro D hD0
    obtain ⟨hDa, hD⟩ := ne_none hD0
    obtain ⟨hDp, hD⟩ := ne_none hD
    have hD0' : ∀ A, gupd (gupd G p A) a (.lst (t.pre.map Ty.enc)) D = none := fun A => by rw [gupd_ne hDa, gupd_ne hDp]; exact hD
    refine lc_inv (α := Ty) Ty.enc (fun ys acc G' => ∃ zs, u.kids = zs ++ ys ∧ acc = zs.map (fun v => v.norm.enc) ∧ G' = gupd (gupd (gupd G p (.lst ((S ++ (ys.map Ty.norm).reverse).map Ty.enc))) a (.lst (t.pre.map Ty.enc))) D (.lst acc)) ?_ ?_ u.kids [] _ ⟨[], rfl, rfl, rfl⟩
    · rintro x ys acc G' N hN ⟨zs, hz, rfl, rfl⟩
      have hzl := congrArg List.length hz
      simp only [List.length_append, List.length_cons] at hzl
      refine ⟨trivial, ?_⟩
      walk_at "tl"
      refine ⟨⟨_, by rw [gupd_ne (Ne.symm hDp), g2_p hap]⟩, pop_mk (t := x.norm.enc) (ys := (S ++ (ys.map Ty.norm).reverse).map Ty.enc) (by rw [gupd_ne (Ne.symm hDp), g2_p hap]; simp) ?_⟩
      refine ⟨zs.map (fun v => v.norm.enc), by rw [gupd_ne hDp, gupd_same], by rw [List.length_map]; omega, hN (zs.map (fun v => v.norm.enc) ++ [x.norm.enc]) _ (.of ⟨zs ++ [x], by simpa using hz, by simp, ?_⟩)⟩
      rw [gupd_comm hDp, g2_setp hap, gupd_gupd]
    · rintro acc G' ⟨zs, hz, rfl, rfl⟩
      rw [List.append_nil] at hz
      refine ⟨trivial, ⟨_, by rw [gupd_ne (Ne.symm hDp), g2_p hap]⟩, u, u.kids.map Ty.norm, D, rfl, by rw [gupd_same, hz]; simp, by simp, by rw [List.length_map]; omega, ?_⟩
      have hw : (u.withK (u.kids.map Ty.norm)).kids.length ≤ sizeLine := by
        refine Nat.le_trans (withK_len u _) ?_
        omega
      refine ⟨_, rfl, ((hT.newL hp).newL ?_).newL (hD0' _), hw, ?_⟩
      · rw [gupd_ne hap]; exact ha
      rw [norm_step]
      refine ⟨_, by rw [gupd_ne (Ne.symm hDp), g2_p hap], ?_, ?_⟩
      · simp at hlen ⊢
        omega
      · rw [gupd_comm hDp, g2_setp hap]
        refine .mk (hP (by simp at hlen ⊢; omega)) (.same (.same (.none (.none (.same .nil))))) ?_
        simp only [List.map_nil, List.reverse_nil, List.append_nil, List.map_append, List.map_cons]
        refine Sub.gupd ?_
        rw [gupd_ne hDa, gupd_ne hDp]
        exact hD
  · intro _
    refine ⟨gupd_same, ?_⟩
    walk_at "tl"
    refine ⟨⟨_, g2_p hap⟩, pop_mk (t := t.norm.enc) (ys := []) (by rw [g2_p hap]; rfl) ?_⟩
    rw [g2_setp hap]
    exact ⟨_, (Sub.gupd hp).trans (Sub.gupd (by rw [gupd_ne hap]; exact ha)), h⟩
end TL

namespace TL
open PySem PySem.Spec PyProof.Rows L2
local macro_rules | `(tactic| walk_at "tl") => `(tactic| try simp +decide only [tseq, tasg, tifs, tbool, tret, tretN, tdrop, tnext, tcont, tbreak, gname, gtup_tup, gcons_cons, gnil_nil, GO.lst.injEq, GO.dK.injEq, top, tvar, tcon, tun, ttup, tlst, tacons, tanil, tcb, tcall, tife, tand, tor, tnot, tandV, torV, tnotV, tisN, tnotN, T.isNon, ttruth, truth_bl, truth_non, truth_int, truth_tup, truth_fl, tsl, tpart, tnopart, tsortk, tlc, tfor, iany, irev, irange1_eq, irange2_eq, items_tup, items_fl, items_ref, twipe, List.set, izip_eq, tput_eq, vlist_tup, tmeth, isL, mappend_ref, mextend_tup, trev, exists_eq, exists_eq', 
  vix_tup, vix_fl, veq_str, vne_str, veq_int, vne_int, vcmp_int, vadd_int, vaddI_int, vadd_tup, vadd_str, vsub_int, vI_int, vlen_tup, vlen_fl, vlen_str, vtuple_tup, vtuple_ref, vint_int, vsl_tup, cut_from1, atI0, atI1, atI2, atI3, taug,
  startT, List.map_cons, List.map_nil, List.length_cons, List.length_nil, List.cons_append, List.nil_append, List.getElem?_cons_zero, List.getElem?_cons_succ, List.set_cons_zero, List.set_cons_succ, List.replicate, Option.some.injEq, exists_eq_left', exists_eq_left, T.bl.injEq, T.int.injEq, T.str.injEq, T.tup.injEq, T.ref.injEq, if_true, if_false, ite_true, ite_false, true_and, and_true, reduceCtorEq, gupd_same, gupd_gupd, Option.map_some, Option.map_none, Option.isSome_some, Option.isSome_none, Bool.not_true, Bool.not_false, Bool.true_eq_false, Bool.false_eq_true, List.cons.injEq, decide_true, decide_false])
def look (ms : List (Str × Ty)) (x : Str) : Option Ty := (ms.find? fun p => decide (p.1 = x)).map (·.2)
def encI (ms : List (Str × Ty)) : List (Key × T) := ms.map fun p => (.inr p.1, p.2.enc)
theorem look_enc (ms : List (Str × Ty)) (x : Str) : lookT (encI ms) (.inr x) = (look ms x).map Ty.enc := by
  induction ms with
  | nil => rfl
  | cons p r ih =>
    unfold lookT look encI at *
    simp only [List.map_cons, List.find?_cons]
    by_cases h : p.1 = x
    · rw [decide_eq_true h, decide_eq_true (congrArg Sum.inr h)]
      rfl
    · rw [decide_eq_false h, decide_eq_false (fun z => h (Sum.inr.inj z))]
      exact ih
theorem gd_new {G : GH} {d p : Addr} {o : GO} {kvs : List (Key × T)} (h : gd G d kvs) (n : G p = none) : gd (gupd G p o) d kvs := by
  have z : d ≠ p := fun z => by subst z; rcases h with h | ⟨r, h⟩ <;> (rw [n] at h; cases h)
  unfold gd at *
  rw [gupd_ne z]
  exact h
theorem gd_ne {G : GH} {d p : Addr} {o : GO} {kvs : List (Key × T)} (h : gd G d kvs) (z : d ≠ p) : gd (gupd G p o) d kvs := by
  unfold gd at *
  rw [gupd_ne z]
  exact h
theorem gd_some {G : GH} {d p : Addr} {kvs : List (Key × T)} (h : gd G d kvs) (n : G p = none) : d ≠ p := fun z => by subst z; rcases h with h | ⟨r, h⟩ <;> (rw [n] at h; cases h)
/-- a row's image, put behind the fields -/
def putRow (fs : List (Str × Ty)) (r : Str) : Option Ty → Ty
  | some (.rcd f2 e2) => .rcd (fs ++ f2) e2
  | _ => .rcd fs (some r)
def putIm (ms : List (Str × Ty)) : Ty → Ty
  | .var a => (look ms a).getD (.var a)
  | .rcd fs (some r) => putRow fs r (look ms r)
  | t => t
def isRow : Ty → Bool
  | .rcd _ _ => true
  | _ => false
/-- the images of the ends are records -/
def okR (ms : List (Str × Ty)) (rs : List Str) : Prop := ∀ r ∈ rs, ∀ i, look ms r = some i → isRow i = true
def Ty.end1 : Ty → List Str
  | .rcd _ (some r) => [r]
  | _ => []
mutual
def Ty.sub (ms : List (Str × Ty)) : Ty → Ty
  | .var a => (look ms a).getD (.var a)
  | .fn a b => .fn (a.sub ms) (b.sub ms)
  | .rcd fs none => .rcd (subF ms fs) none
  | .rcd fs (some r) => putRow (subF ms fs) r (look ms r)
  | t => t
def subF (ms : List (Str × Ty)) : List (Str × Ty) → List (Str × Ty)
  | [] => []
  | (l, t) :: r => (l, t.sub ms) :: subF ms r
end
theorem subF_eq (ms fs : List (Str × Ty)) : subF ms fs = fs.map fun p => (p.1, p.2.sub ms) := by
  induction fs with
  | nil => rfl
  | cons p r ih => obtain ⟨l, t⟩ := p; rw [subF, ih]; rfl
theorem sub_step (ms : List (Str × Ty)) (t : Ty) : putIm ms (t.withK (t.kids.map (Ty.sub ms))) = t.sub ms := by
  cases t with
  | rcd fs e =>
    have e1 : List.zipWith (fun (p : Str × Ty) k => (p.1, k)) fs ((fs.map (·.2)).map (Ty.sub ms)) = subF ms fs := by
      rw [List.map_map, show (Ty.sub ms ∘ fun x : Str × Ty => x.2) = fun p : Str × Ty => p.2.sub ms from rfl, zip_map_self (fun p : Str × Ty => p.2.sub ms), subF_eq]
    cases e with
    | none => simp only [Ty.kids, Ty.withK, putIm, Ty.sub, e1]
    | some r => simp only [Ty.kids, Ty.withK, putIm, Ty.sub, e1]
  | _ => rfl
def t__put_image : TTS :=
  (tseq (tifs (tbool (top veq (top vix (tvar 0) (tcon (.int 0))) (tcon (.str "var"))))
  (tret (tdget2 (tvar 1) (top vix (tvar 0) (tcon (.int 1))) (tvar 0)))
  tnext)
  (tseq (tifs (tand (tbool (top veq (top vix (tvar 0) (tcon (.int 0))) (tcon (.str "record")))) (tbool (top (vin false) (top vix (tvar 0) (tcon (.int 2))) (tvar 1))))
  (tseq (tasg (top vix (tvar 1) (top vix (tvar 0) (tcon (.int 2)))) (gname 2))
  (tret (ttup (tacons (tcon (.str "record")) (tacons (top vadd (top vix (tvar 0) (tcon (.int 1))) (top vix (tvar 2) (tcon (.int 1)))) (tacons (top vix (tvar 2) (tcon (.int 2))) tanil))))))
  tnext)
  (tret (tvar 0))))

def sp__put_image : TSp := fun ts G R => ∃ (t : Ty) (d : Addr) (ms : List (Str × Ty)), ts = [t.enc, .ref d] ∧ gd G d (encI ms) ∧ okR ms t.end1 ∧ (putIm ms t).kids.length ≤ sizeLine ∧ R (putIm ms t).enc G
theorem pure__put_image (ts : List T) (G : GH) (R : TK) (h : sp__put_image ts G R) : t__put_image { nx := fun _ G' => WkR R .non G', rt := WkR R } (startT ["given", "images", "row"] ts) G := by
  obtain ⟨t, d, ms, rfl, hd, hok, hl, h⟩ := h
  unfold t__put_image tdget2
  cases t with
  | num => simp only [Ty.enc]; walk_at "tl"; exact .of h
  | tru => simp only [Ty.enc]; walk_at "tl"; exact .of h
  | fn a b => simp only [Ty.enc]; walk_at "tl"; exact .of h
  | var a =>
    simp only [Ty.enc]
    walk_at "tl"
    refine ⟨⟨_, hd⟩, _, .inr a, hd, rfl, ?_⟩
    rw [look_enc]
    cases e : look ms a with
    | none => simp only [putIm, e] at h; exact .of h
    | some i => simp only [putIm, e] at h; exact .of h
  | rcd fs e =>
    cases e with
    | none =>
      simp only [Ty.enc, encE]
      walk_at "tl"
      refine .inr (.inr ⟨_, hd, rfl, ?_⟩)
      walk_at "tl"
      exact .of h
    | some r =>
      simp only [Ty.enc, encE]
      walk_at "tl"
      refine .inr (.inl ⟨_, .inr r, hd, rfl, ?_⟩)
      rw [look_enc]
      cases e : look ms r with
      | none =>
        walk_at "tl"
        simp only [putIm, e, putRow] at h
        exact .of h
      | some i =>
        have hi := hok r (by simp [Ty.end1]) i e
        cases i with
        | rcd f2 e2 =>
          simp only [putIm, e, putRow] at h hl
          walk_at "tl"
          refine vix_dK (y := .str r) (k := .inr r) hd rfl (by rw [look_enc, e]; rfl) ?_
          simp only [Ty.enc]
          walk_at "tl"
          rw [encFs_map, encFs_map]
          refine ⟨by simpa [Ty.kids] using hl, ?_⟩
          rw [← List.map_append, ← encFs_map]
          exact .of h
        | _ => cases hi
def t_substitute : TTS :=
  (tseq (tasg (tlst tanil) (gname 2))
  (tseq (tfor (irev (tcall sp_all_types (tacons (tvar 0) tanil))) (gname 3)
  (tseq (tasg (tlc (iany (tcall sp_type_parts (tacons (tvar 3) tanil))) (gname 5) tyes (tmeth mpop (tvar 2) tanil) [5]) (gname 4))
  (tdrop (tmeth mappend (tvar 2) (tacons (tcall sp__put_image (tacons (tcall sp_with_parts (tacons (tvar 3) (tacons (tvar 4) tanil))) (tacons (tvar 1) tanil))) tanil)))))
  (tret (tmeth mpop (tvar 2) tanil))))

/-- all ends of a type -/
def Ty.ends (t : Ty) : List Str := t.pre.flatMap Ty.end1
def sp_substitute : TSp := fun ts G R => ∃ (t : Ty) (d : Addr) (ms : List (Str × Ty)), ts = [t.enc, .ref d] ∧ gd G d (encI ms) ∧ okR ms t.ends ∧ 2 * t.pre.length ≤ sizeLine ∧ (∀ u ∈ t.pre, (u.sub ms).kids.length ≤ sizeLine) ∧ R (t.sub ms).enc G
theorem end1_withK (t : Ty) (ks : List Ty) : (t.withK ks).end1 = t.end1 := by
  unfold Ty.withK
  split
  · rfl
  · rename_i e; cases e <;> rfl
  · rfl
theorem pure_substitute (ts : List T) (G : GH) (R : TK) (h : sp_substitute ts G R) : t_substitute { nx := fun _ G' => WkR R .non G', rt := WkR R } (startT ["given", "images", "built", "part", "inner", "_"] ts) G := by
  obtain ⟨t, d, ms, rfl, hd, hok, hl, hw, h⟩ := h
  unfold t_substitute
  walk_at "tl"
  intro p hp
  refine ⟨t, rfl, by omega, fun a ha0 => ?_⟩
  obtain ⟨hap, ha⟩ := ne_none ha0
  have hdp := gd_some hd hp
  walk_at "tl"
  refine cast (congrArg (fun l => forGo _ _ _ _ l _ _) (List.map_reverse (f := Ty.enc) (l := t.pre))) ?_
  have main := pre_loop (P := fun S xs => S.length + xs.length ≤ sizeLine → forGo (fun G' => G' a = some (.lst (t.pre.map Ty.enc))) (gname 3) (tseq (tasg (tlc (iany (tcall sp_type_parts (tacons (tvar 3) tanil))) (gname 5) tyes (tmeth mpop (tvar 2) tanil) [5]) (gname 4))
      (tdrop (tmeth mappend (tvar 2) (tacons (tcall sp__put_image (tacons (tcall sp_with_parts (tacons (tvar 3) (tacons (tvar 4) tanil))) (tacons (tvar 1) tanil))) tanil))))
      { nx := tret (tmeth mpop (tvar 2) tanil) { nx := fun x G' => WkR R T.non G', rt := WkR R }, rt := WkR R } (xs.map Ty.enc) [some t.enc, some (.ref d), some (.ref p), none, none, none] (gupd (gupd G p (.lst (S.map Ty.enc))) a (.lst (t.pre.map Ty.enc)))) (Ty.sub ms) t ?_ [] [] ?_ (by simp; omega)
  · simpa using main
  · intro u S rest hu hP hlen
    have hk := pre_kids hu
    refine ⟨gupd_same, ?_⟩
    walk_at "tl"
    refine .inl ⟨u, rfl, by omega, ?_⟩
    walk_at "tl"
    intro D hD0
    obtain ⟨hDa, hD⟩ := ne_none hD0
    obtain ⟨hDp, hD⟩ := ne_none hD
    refine lc_inv (α := Ty) Ty.enc (fun ys acc G' => ∃ zs, u.kids = zs ++ ys ∧ acc = zs.map (fun v => (v.sub ms).enc) ∧ G' = gupd (gupd (gupd G p (.lst ((S ++ (ys.map (Ty.sub ms)).reverse).map Ty.enc))) a (.lst (t.pre.map Ty.enc))) D (.lst acc)) ?_ ?_ u.kids [] _ ⟨[], rfl, rfl, rfl⟩
    · rintro x ys acc G' N hN ⟨zs, hz, rfl, rfl⟩
      have hzl := congrArg List.length hz
      simp only [List.length_append, List.length_cons] at hzl
      refine ⟨trivial, ?_⟩
      walk_at "tl"
      refine ⟨⟨_, by rw [gupd_ne (Ne.symm hDp), g2_p hap]⟩, pop_mk (t := (x.sub ms).enc) (ys := (S ++ (ys.map (Ty.sub ms)).reverse).map Ty.enc) (by rw [gupd_ne (Ne.symm hDp), g2_p hap]; simp) ?_⟩
      refine ⟨zs.map (fun v => (v.sub ms).enc), by rw [gupd_ne hDp, gupd_same], by rw [List.length_map]; omega, hN (zs.map (fun v => (v.sub ms).enc) ++ [(x.sub ms).enc]) _ (.of ⟨zs ++ [x], by simpa using hz, by simp, ?_⟩)⟩
      rw [gupd_comm hDp, g2_setp hap, gupd_gupd]
    · rintro acc G' ⟨zs, hz, rfl, rfl⟩
      rw [List.append_nil] at hz
      refine ⟨trivial, ⟨_, by rw [gupd_ne (Ne.symm hDp), g2_p hap]⟩, u, u.kids.map (Ty.sub ms), D, rfl, by rw [gupd_same, hz]; simp, by simp, by rw [List.length_map]; omega, ?_⟩
      walk_at "tl"
      refine ⟨_, d, ms, rfl, gd_ne (gd_new (gd_new hd hp) (by rw [gupd_ne hap]; exact ha)) (gd_some hd hD), ?_, ?_, ?_⟩
      · rw [end1_withK]
        exact fun r hr => hok r (List.mem_flatMap.mpr ⟨u, hu, hr⟩)
      · rw [sub_step]
        exact hw u hu
      rw [sub_step]
      refine ⟨_, by rw [gupd_ne (Ne.symm hDp), g2_p hap], ?_, ?_⟩
      · simp at hlen ⊢
        omega
      · rw [gupd_comm hDp, g2_setp hap]
        refine .mk (hP (by simp at hlen ⊢; omega)) (.same (.same (.same (.none (.none (.same .nil)))))) ?_
        simp only [List.map_nil, List.reverse_nil, List.append_nil, List.map_append, List.map_cons]
        refine Sub.gupd ?_
        rw [gupd_ne hDa, gupd_ne hDp]
        exact hD
  · intro _
    refine ⟨gupd_same, ?_⟩
    walk_at "tl"
    refine ⟨⟨_, g2_p hap⟩, pop_mk (t := (t.sub ms).enc) (ys := []) (by rw [g2_p hap]; rfl) ?_⟩
    rw [g2_setp hap]
    exact ⟨_, (Sub.gupd hp).trans (Sub.gupd (by rw [gupd_ne hap]; exact ha)), h⟩
end TL

namespace TL
open PySem PySem.Spec PyProof.Rows L2
local macro_rules | `(tactic| walk_at "tl") => `(tactic| try simp +decide only [tseq, tasg, tifs, tbool, tret, tretN, tdrop, tnext, tcont, tbreak, gname, gtup_tup, gcons_cons, gnil_nil, GO.lst.injEq, GO.dK.injEq, top, tvar, tcon, tun, ttup, tlst, tacons, tanil, tcb, tcall, tife, tand, tor, tnot, tandV, torV, tnotV, tisN, tnotN, T.isNon, ttruth, truth_bl, truth_non, truth_int, truth_tup, truth_fl, tsl, tpart, tnopart, tsortk, tlc, tfor, iany, irev, irange1_eq, irange2_eq, items_tup, items_fl, items_ref, twipe, List.set, izip_eq, tput_eq, vlist_tup, tmeth, isL, mappend_ref, mextend_tup, trev, exists_eq, exists_eq', 
  vix_tup, vix_fl, veq_str, vne_str, veq_int, vne_int, vcmp_int, vadd_int, vaddI_int, vadd_tup, vadd_str, vsub_int, vI_int, vlen_tup, vlen_fl, vlen_str, vtuple_tup, vtuple_ref, vint_int, vsl_tup, cut_from1, atI0, atI1, atI2, atI3, taug,
  startT, List.map_cons, List.map_nil, List.length_cons, List.length_nil, List.cons_append, List.nil_append, List.getElem?_cons_zero, List.getElem?_cons_succ, List.set_cons_zero, List.set_cons_succ, List.replicate, Option.some.injEq, exists_eq_left', exists_eq_left, T.bl.injEq, T.int.injEq, T.str.injEq, T.tup.injEq, T.ref.injEq, if_true, if_false, ite_true, ite_false, true_and, and_true, reduceCtorEq, gupd_same, gupd_gupd, Option.map_some, Option.map_none, Option.isSome_some, Option.isSome_none, Bool.not_true, Bool.not_false, Bool.true_eq_false, Bool.false_eq_true, List.cons.injEq, decide_true, decide_false])
def vnL (k : Nat) : List Nat := if h : k = 0 then [] else vnL ((k - 1) / 26) ++ [97 + (k - 1) % 26]
termination_by k
decreasing_by omega
def vname (n : Nat) : Str := ⟨(vnL (n + 1)).toArray⟩
theorem vnL_len : ∀ k, (vnL k).length ≤ k := by
  intro k
  induction k using Nat.strongRecOn with
  | _ k ih =>
    rw [vnL]
    split
    · simp
    · have := ih ((k - 1) / 26) (by omega)
      simp only [List.length_append, List.length_singleton]
      omega
theorem letters : (Str.ofString "abcdefghijklmnopqrstuvwxyz").cps.toList = (List.range 26).map (97 + ·) := by decide +kernel
theorem letters_len : (Str.ofString "abcdefghijklmnopqrstuvwxyz").length ≤ sizeLine := by decide +kernel
theorem letters_len26 : ((Str.ofString "abcdefghijklmnopqrstuvwxyz").length : Int) = 26 := by decide +kernel
theorem letter_at {i : Nat} (h : i < 26) : atI (Str.ofString "abcdefghijklmnopqrstuvwxyz").cps.toList (i : Int) = some (97 + i) := by
  refine atI_lt ?_
  rw [letters, List.getElem?_map, List.getElem?_range h]
  rfl
theorem vix_str {z : Str} {i : Int} {G : GH} {R : TK} {c : Nat} (hz : z.length ≤ sizeLine) (e : atI z.cps.toList i = some c) (h : R (.str ⟨#[c]⟩) G) : vix (.str z) (.int i) G R := ⟨_, ⟨hz, c, e, rfl⟩, h⟩
theorem vdivmod_int {i j : Int} {G : GH} {R : TK} : vdivmod [.int i, .int j] G R = (CDiv i j ∧ R (.tup [.int (i / j), .int (i % j)]) G) := rfl
def t__variable_name : TTS :=
  (tseq (tasg (tcon (.str "")) (gname 1))
  (tseq (tasg (top vadd (tvar 0) (tcon (.int 1))) (gname 2))
  (tseq (twhile (tbool (top (vcmp fun i j => decide (j < i)) (tvar 2) (tcon (.int 0))))
  (tseq (tasg (tcb vdivmod (tacons (top vsub (tvar 2) (tcon (.int 1))) (tacons (tcb vlen (tacons (tcon (.str "abcdefghijklmnopqrstuvwxyz")) tanil)) tanil))) (gtup 2 (gcons (gname 2) (gcons (gname 3) gnil))))
  (tasg (top vadd (top vix (tcon (.str "abcdefghijklmnopqrstuvwxyz")) (tvar 3)) (tvar 1)) (gname 1))))
  (tret (tvar 1)))))

def sp__variable_name : TSp := fun ts G R => ∃ n : Nat, ts = [.int n] ∧ n < 1000000 ∧ R (.str (vname n)) G
theorem pure__variable_name (ts : List T) (G : GH) (R : TK) (h : sp__variable_name ts G R) : t__variable_name { nx := fun _ G' => WkR R .non G', rt := WkR R } (startT ["number", "name", "left", "letter"] ts) G := by
  obtain ⟨n, rfl, hn, h⟩ := h
  unfold t__variable_name
  walk_at "tl"
  refine ⟨fun m st G' => ∃ L, st = [some (.int n), some (.str ⟨L.toArray⟩), some (.int (m : Int)), none] ∧ G' = G ∧ vnL m ++ L = vnL (n + 1), ⟨n + 1, [], rfl, rfl, by simp⟩, ?_⟩
  rintro m st G' ⟨L, rfl, rfl, hL⟩
  have hlen := congrArg List.length hL
  rw [List.length_append] at hlen
  have hb := vnL_len (n + 1)
  walk_at "tl"
  cases m with
  | zero =>
    walk_at "tl"
    rw [vnL, dif_pos rfl, List.nil_append] at hL
    subst hL
    exact .of h
  | succ m =>
    have e0 : decide ((0 : Int) < ((m + 1 : Nat) : Int)) = true := by simp
    rw [e0]
    walk_at "tl"
    rw [show (((m + 1 : Nat) : Int) - 1) = (m : Int) by omega, letters_len26, vdivmod_int]
    refine ⟨⟨by decide, by decide⟩, ?_⟩
    walk_at "tl"
    rw [show ((m : Int) % 26) = ((m % 26 : Nat) : Int) by omega]
    refine vix_str letters_len (letter_at (Nat.mod_lt _ (by decide))) ?_
    walk_at "tl"
    refine ⟨?_, m / 26, by omega, .mk ⟨(97 + m % 26) :: L, rfl, rfl, ?_⟩ ?_ .refl⟩
    · show 1 + L.toArray.size ≤ sizeLine
      have : (1000010 : Nat) ≤ sizeLine := by decide
      simp
      omega
    · rw [vnL, dif_neg (by omega)] at hL
      simp only [Nat.add_sub_cancel] at hL
      simpa using hL
    · refine .same ?_
      have e1 : (⟨#[97 + m % 26]⟩ : Str) ++ ⟨L.toArray⟩ = ⟨((97 + m % 26) :: L).toArray⟩ := by
        show (⟨#[97 + m % 26] ++ L.toArray⟩ : Str) = _
        congr 1
        simp
      rw [e1]
      refine .same ?_
      rw [show ((m : Int) / 26) = ((m / 26 : Nat) : Int) by omega]
      exact .same (.none .nil)
end TL

namespace TL
open PySem PySem.Spec PyProof.Rows L2
local macro_rules | `(tactic| walk_at "tl") => `(tactic| try simp +decide only [tseq, tasg, tifs, tbool, tret, tretN, tdrop, tnext, tcont, tbreak, gname, gtup_tup, gcons_cons, gnil_nil, GO.lst.injEq, GO.dK.injEq, top, tvar, tcon, tun, ttup, tlst, tacons, tanil, tcb, tcall, tife, tand, tor, tnot, tandV, torV, tnotV, tisN, tnotN, T.isNon, ttruth, truth_bl, truth_non, truth_int, truth_tup, truth_fl, tsl, tpart, tnopart, tsortk, tlc, tfor, iany, irev, irange1_eq, irange2_eq, items_tup, items_fl, items_ref, twipe, List.set, izip_eq, tput_eq, vlist_tup, tmeth, isL, mappend_ref, mextend_tup, trev, exists_eq, exists_eq', 
  vix_tup, vix_fl, veq_str, vne_str, veq_int, vne_int, vcmp_int, vadd_int, vaddI_int, vadd_tup, vadd_str, vsub_int, vI_int, vlen_tup, vlen_fl, vlen_str, vtuple_tup, vtuple_ref, vint_int, vsl_tup, cut_from1, atI0, atI1, atI2, atI3, taug,
  startT, List.map_cons, List.map_nil, List.length_cons, List.length_nil, List.cons_append, List.nil_append, List.getElem?_cons_zero, List.getElem?_cons_succ, List.set_cons_zero, List.set_cons_succ, List.replicate, Option.some.injEq, exists_eq_left', exists_eq_left, T.bl.injEq, T.int.injEq, T.str.injEq, T.tup.injEq, T.ref.injEq, if_true, if_false, ite_true, ite_false, true_and, and_true, reduceCtorEq, gupd_same, gupd_gupd, Option.map_some, Option.map_none, Option.isSome_some, Option.isSome_none, Bool.not_true, Bool.not_false, Bool.true_eq_false, Bool.false_eq_true, List.cons.injEq, decide_true, decide_false])
theorem perm_flat {α β : Type} {f : α → List β} {xs ys : List α} (h : xs.Perm ys) : (xs.flatMap f).Perm (ys.flatMap f) := List.Perm.flatMap_right f h
theorem sortF_perm (fs : List (Str × Ty)) : (sortF fs).Perm fs := List.mergeSort_perm _ _
mutual
theorem norm_len : ∀ t : Ty, t.norm.pre.length = t.pre.length
  | .num => rfl
  | .tru => rfl
  | .var _ => rfl
  | .fn a b => by simp only [Ty.norm, Ty.pre, List.length_cons, List.length_append, norm_len a, norm_len b]
  | .rcd fs e => by
    have h1 := ((perm_flat (f := Ty.pre) ((sortF_perm (normF fs)).map (·.2)))).length_eq
    simp only [Ty.norm, Ty.pre, List.length_cons]
    rw [presF_eq, h1, ← presF_eq, normF_len fs]
theorem normF_len : ∀ fs : List (Str × Ty), (presF (normF fs)).length = (presF fs).length
  | [] => rfl
  | (_, t) :: r => by simp only [normF, presF, List.length_append, norm_len t, normF_len r]
end
def fresh (b : Bool) (n : Nat) : Ty := if b = true then .rcd [] (some (vname n)) else .var (vname n)
def addIm (ms : List (Str × Ty)) (o : Str × Bool) : List (Str × Ty) := if (look ms o.1).isSome = true then ms else ms ++ [(o.1, fresh o.2 ms.length)]
def tim (os : List (Str × Bool)) : List (Str × Ty) := os.foldl addIm []
def toldIm (ts : List Ty) : List (Str × Ty) := tim ((ts.map Ty.norm).flatMap Ty.occ)
def toldT (ts : List Ty) : List Ty := (ts.map Ty.norm).map (Ty.sub (toldIm ts))
/-- no name is both a type and a row -/
def Unmixed (os : List (Str × Bool)) : Prop := ∀ x, (x, true) ∈ os → (x, false) ∈ os → False
theorem look_app (ms : List (Str × Ty)) (x y : Str) (t : Ty) : look (ms ++ [(x, t)]) y = match look ms y with | some i => some i | none => if x = y then some t else none := by
  unfold look
  rw [List.find?_append]
  cases e : ms.find? fun p => decide (p.1 = y) with
  | some p => rfl
  | none =>
    by_cases h : x = y
    · simp [h]
    · simp [h]
theorem put_new (ms : List (Str × Ty)) (x : Str) (t : Ty) (h : look ms x = none) : putT (encI ms) (.inr x) t.enc = encI (ms ++ [(x, t)]) := by
  unfold putT
  rw [if_neg ?_]
  · simp [encI]
  · have e : lookT (encI ms) (.inr x) = none := by rw [look_enc, h]; rfl
    unfold lookT at e
    simp only [Option.map_eq_none_iff, List.find?_eq_none, decide_eq_true_eq] at e
    simp only [List.any_eq_true, decide_eq_true_eq, not_exists, not_and]
    exact fun a ha z => e a ha z
theorem tim_len (os : List (Str × Bool)) : ∀ ms, (os.foldl addIm ms).length ≤ ms.length + os.length := by
  induction os with
  | nil => intro ms; simp
  | cons o r ih =>
    intro ms
    have := ih (addIm ms o)
    have h2 : (addIm ms o).length ≤ ms.length + 1 := by unfold addIm; split <;> simp
    simp only [List.foldl_cons, List.length_cons]
    omega
/-- an image is as the first place of its name is -/
theorem tim_look {os : List (Str × Bool)} {x : Str} {i : Ty} : ∀ {ms : List (Str × Ty)}, look (os.foldl addIm ms) x = some i → look ms x = some i ∨ ∃ b n, (x, b) ∈ os ∧ i = fresh b n := by
  induction os with
  | nil => intro ms h; exact .inl h
  | cons o r ih =>
    intro ms h
    rcases ih h with h | ⟨b, n, h1, h2⟩
    · unfold addIm at h
      split at h
      · exact .inl h
      · rw [look_app] at h
        cases e : look ms x with
        | some j => rw [e] at h; exact .inl h
        | none =>
          rw [e] at h
          simp only at h
          split at h
          · rename_i hx
            cases h
            subst hx
            exact .inr ⟨o.2, _, by simp, rfl⟩
          · cases h
    · exact .inr ⟨b, n, by simp [h1], h2⟩
theorem ends_occ {t : Ty} {r : Str} (h : r ∈ t.ends) : (r, true) ∈ t.occ := by
  suffices H : ∀ n (t : Ty), t.pre.length ≤ n → r ∈ t.ends → (r, true) ∈ t.occ from H _ t (Nat.le_refl _) h
  intro n
  induction n with
  | zero => intro t h; have := t.pre_pos; omega
  | succ n ih =>
    intro t hn hr
    unfold Ty.ends at hr
    rw [t.pre_eq, List.flatMap_cons] at hr
    have hk : ∀ u ∈ t.kids, u.pre.length ≤ n := fun u hu => by
      have h1 : u.pre.length ≤ (t.kids.flatMap Ty.pre).length := by
        rw [List.length_flatMap]; exact mem_sum (List.mem_map_of_mem hu)
      rw [t.pre_eq] at hn
      simp only [List.length_cons] at hn
      omega
    have hsub : (∃ u ∈ t.kids, (r, true) ∈ u.occ) ∨ r ∈ t.end1 := by
      rcases List.mem_append.mp hr with h | h
      · exact .inr h
      · obtain ⟨v, hv, hrv⟩ := List.mem_flatMap.mp h
        obtain ⟨u, hu, hvu⟩ := List.mem_flatMap.mp hv
        exact .inl ⟨u, hu, ih u (hk u hu) (List.mem_flatMap.mpr ⟨v, hvu, hrv⟩)⟩
    cases t with
    | fn a b =>
      rcases hsub with ⟨u, hu, h⟩ | h
      · simp only [Ty.kids, List.mem_cons, List.not_mem_nil, or_false] at hu
        rcases hu with rfl | rfl <;> simp [Ty.occ, h]
      · simp [Ty.end1] at h
    | rcd fs e =>
      simp only [Ty.occ, List.mem_append, occF_eq]
      rcases hsub with ⟨u, hu, h⟩ | h
      · exact .inl (List.mem_flatMap.mpr ⟨u, hu, h⟩)
      · cases e with
        | none => simp [Ty.end1] at h
        | some s => simp only [Ty.end1, List.mem_singleton] at h; subst h; simp [occE]
    | _ => rcases hsub with ⟨u, hu, h⟩ | h <;> simp_all [Ty.kids, Ty.end1]
theorem sub_kids_tim {os : List (Str × Bool)} (t : Ty) : (t.sub (tim os)).kids.length ≤ t.kids.length := by
  have key : ∀ x i, look (tim os) x = some i → ∃ b n, i = fresh b n := fun x i h => by
    rcases tim_look h with h | ⟨b, n, _, h⟩
    · cases h
    · exact ⟨b, n, h⟩
  cases t with
  | var a =>
    simp only [Ty.sub]
    cases e : look (tim os) a with
    | none => simp [Ty.kids]
    | some i =>
      obtain ⟨b, n, rfl⟩ := key a i e
      cases b <;> simp [fresh, Ty.kids]
  | rcd fs e =>
    cases e with
    | none => simp [Ty.sub, Ty.kids, subF_eq]
    | some r =>
      simp only [Ty.sub]
      cases e : look (tim os) r with
      | none => simp [putRow, Ty.kids, subF_eq]
      | some i =>
        obtain ⟨b, n, rfl⟩ := key r i e
        cases b <;> simp [fresh, putRow, Ty.kids, subF_eq]
  | _ => simp [Ty.sub, Ty.kids]
def t_told (TT : List (Addr × Str)) : TTS :=
  (tseq (tasg (tlc (iany (tvar 0)) (gname 2) tyes (tcall (sp_normal TT) (tacons (tvar 2) tanil)) [2]) (gname 1))
  (tseq (tasg tdnew (gname 3))
  (tseq (tfor (iany (tvar 1)) (gname 2)
  (tfor (iany (tcall sp_occurrences (tacons (tvar 2) tanil))) (gtup 2 (gcons (gname 4) (gcons (gname 5) gnil)))
  (tifs (tbool (top (vin true) (tvar 4) (tvar 3)))
  (tseq (tasg (tcall sp__variable_name (tacons (tcb vlen (tacons (tvar 3) tanil)) tanil)) (gname 6))
  (tput (tvar 3) (tvar 4) (tife (ttruth (tvar 5)) (ttup (tacons (tcon (.str "record")) (tacons (ttup tanil) (tacons (tvar 6) tanil)))) (ttup (tacons (tcon (.str "var")) (tacons (tvar 6) tanil))))))
  tnext)))
  (tret (tcb vtuple (tacons (tlc (iany (tvar 1)) (gname 2) tyes (tcall sp_substitute (tacons (tvar 2) (tacons (tvar 3) tanil))) [2]) tanil))))))

def sp_told (TT : List (Addr × Str)) : TSp := fun ts G R => ∃ tys : List Ty, ts = [.tup (tys.map Ty.enc)] ∧ Tbs TT G ∧ tys.length ≤ 1000000 ∧ (∀ t ∈ tys, 2 * t.pre.length ≤ sizeLine) ∧ ((tys.map Ty.norm).flatMap Ty.occ).length < 1000000 ∧ Unmixed ((tys.map Ty.norm).flatMap Ty.occ) ∧ R (.tup ((toldT tys).map Ty.enc)) G
theorem fresh_enc (b : Bool) (n : Nat) : (fresh b n).enc = if b = true then .tup [.str "record", .tup [], .str (vname n)] else .tup [.str "var", .str (vname n)] := by
  cases b <;> rfl
theorem pure_told (TT : List (Addr × Str)) (ts : List T) (G : GH) (R : TK) (h : sp_told TT ts G R) : t_told TT { nx := fun _ G' => WkR R .non G', rt := WkR R } (startT ["types", "normals", "given", "images", "name", "ends_row", "fresh"] ts) G := by
  obtain ⟨tys, rfl, hT, hl, hs, ho, hu, h⟩ := h
  have big : (1000000 : Nat) ≤ sizeLine := by decide
  unfold t_told tdnew
  walk_at "tl"
  intro p hp
  refine lc_map (α := Ty) Ty.enc (fun t => t.norm.enc) tys (fun _ => trivial) (by omega) (fun t ht acc N hN => ?_) ?_
  · walk_at "tl"
    exact ⟨t, rfl, hT.newL hp, hs t ht, hN⟩
  have ens : tys.map (fun t => t.norm.enc) = (tys.map Ty.norm).map Ty.enc := by simp
  rw [ens]
  have hns : ∀ t ∈ tys.map Ty.norm, 2 * t.pre.length ≤ sizeLine := fun t ht => by
    obtain ⟨u, hu, rfl⟩ := List.mem_map.mp ht
    rw [norm_len]
    exact hs u hu
  have hlen : (tys.map Ty.norm).length ≤ 1000000 := by rw [List.length_map]; exact hl
  generalize hNS : tys.map Ty.norm = ns at *
  walk_at "tl"
  intro d hd0
  obtain ⟨hdp, hd⟩ := ne_none hd0
  refine ⟨_, g2_p hdp, ?_⟩
  refine for_inv (α := Ty) Ty.enc (fun xs st G' => ∃ zs, ns = zs ++ xs ∧ st = [some (.tup (tys.map Ty.enc)), some (.ref p), none, some (.ref d), none, none, none] ∧ G' = gupd (gupd G p (.lst (ns.map Ty.enc))) d (.dK (encI (tim (zs.flatMap Ty.occ))))) ?_ ?_ ns _ _ ⟨[], rfl, rfl, rfl⟩
  · rintro x xs st G' N hN ⟨zs, hz, rfl, rfl⟩
    refine ⟨g2_p hdp, ?_⟩
    have hx : x ∈ ns := by rw [hz]; simp
    walk_at "tl"
    refine ⟨x, rfl, hns x hx, fun a ha0 => ?_⟩
    obtain ⟨had, ha⟩ := ne_none ha0
    obtain ⟨hap, ha⟩ := ne_none ha
    walk_at "tl"
    have hob : (zs.flatMap Ty.occ).length + x.occ.length < 1000000 := by
      have : (ns.flatMap Ty.occ).length = (zs.flatMap Ty.occ).length + (x.occ.length + (xs.flatMap Ty.occ).length) := by rw [hz]; simp
      omega
    refine for_inv (α := Str × Bool) encO (fun ys st G' => ∃ ws, x.occ = ws ++ ys ∧ st = [some (.tup (tys.map Ty.enc)), some (.ref p), some x.enc, some (.ref d), none, none, none] ∧ G' = gupd (gupd (gupd G p (.lst (ns.map Ty.enc))) d (.dK (encI (tim (zs.flatMap Ty.occ ++ ws))))) a (.lst (x.occ.map encO))) ?_ ?_ x.occ _ _ ⟨[], rfl, rfl, by simp⟩
    · rintro ⟨y, b⟩ ys st G' M hM ⟨ws, hw, rfl, rfl⟩
      refine ⟨gupd_same, ?_⟩
      simp only [encO]
      have hat : ∀ A, gupd (gupd (gupd G p (.lst (ns.map Ty.enc))) d A) a (.lst (x.occ.map encO)) d = some A := fun A => by rw [gupd_ne (Ne.symm had), gupd_same]
      have hwl : ws.length ≤ x.occ.length := by rw [hw]; simp
      have htl := tim_len (zs.flatMap Ty.occ ++ ws) []
      simp only [List.length_append, List.length_nil] at htl
      have hfold : tim (zs.flatMap Ty.occ ++ (ws ++ [(y, b)])) = addIm (tim (zs.flatMap Ty.occ ++ ws)) (y, b) := by
        rw [← List.append_assoc]; simp [tim, List.foldl_append]
      have fin : ∀ (X : List (Str × Ty)) (Y : Option T) (Z : Option T × Option T), addIm (tim (zs.flatMap Ty.occ ++ ws)) (y, b) = X → M [some (.tup (tys.map Ty.enc)), some (.ref p), some x.enc, some (.ref d), Y, Z.1, Z.2] (gupd (gupd (gupd G p (.lst (ns.map Ty.enc))) d (.dK (encI X))) a (.lst (x.occ.map encO))) := fun X Y Z e => by
        refine hM _ _ (.mk ⟨ws ++ [(y, b)], by simpa using hw, rfl, ?_⟩ (.same (.same (.same (.same (.none (.none (.none .nil))))))) .refl)
        rw [hfold, e]
      walk_at "tl"
      refine .inr (.inl ⟨_, .inr y, .inl (hat _), rfl, ?_⟩)
      rw [look_enc]
      cases e : look (tim (zs.flatMap Ty.occ ++ ws)) y with
      | some i =>
        walk_at "tl"
        exact fin _ _ (_, _) (by unfold addIm; rw [e]; rfl)
      | none =>
        walk_at "tl"
        refine .inr ⟨_, hat _, ?_⟩
        walk_at "tl"
        refine ⟨(tim (zs.flatMap Ty.occ ++ ws)).length, by simp [encI], by unfold tim; omega, ?_⟩
        walk_at "tl"
        have e2 : addIm (tim (zs.flatMap Ty.occ ++ ws)) (y, b) = tim (zs.flatMap Ty.occ ++ ws) ++ [(y, fresh b (tim (zs.flatMap Ty.occ ++ ws)).length)] := by
          unfold addIm; rw [e]; rfl
        have put : ∀ t, t = (fresh b (tim (zs.flatMap Ty.occ ++ ws)).length).enc → gupd (gupd (gupd (gupd G p (.lst (ns.map Ty.enc))) d (.dK (encI (tim (zs.flatMap Ty.occ ++ ws))))) a (.lst (x.occ.map encO))) d (.dK (putT (encI (tim (zs.flatMap Ty.occ ++ ws))) (.inr y) t)) = gupd (gupd (gupd G p (.lst (ns.map Ty.enc))) d (.dK (encI (tim (zs.flatMap Ty.occ ++ ws) ++ [(y, fresh b (tim (zs.flatMap Ty.occ ++ ws)).length)])))) a (.lst (x.occ.map encO)) := fun t et => by
          rw [et, put_new _ _ _ e, gupd_comm had, gupd_gupd]
        have hz2 : (encI (tim (zs.flatMap Ty.occ ++ ws))).length < sizeLine := by simp only [encI, List.length_map]; unfold tim; omega
        cases b with
        | true =>
          walk_at "tl"
          refine put_dK (k := .inr y) (hat _) rfl hz2 ?_
          rw [put (.tup [.str "record", .tup [], .str (vname (tim (zs.flatMap Ty.occ ++ ws)).length)]) rfl]
          exact fin _ _ (_, _) e2
        | false =>
          walk_at "tl"
          refine put_dK (k := .inr y) (hat _) rfl hz2 ?_
          rw [put (.tup [.str "var", .str (vname (tim (zs.flatMap Ty.occ ++ ws)).length)]) rfl]
          exact fin _ _ (_, _) e2
    · rintro st G' ⟨ws, hw, rfl, rfl⟩
      rw [List.append_nil] at hw
      subst hw
      refine ⟨gupd_same, hN _ _ (.mk ⟨zs ++ [x], by simpa using hz, rfl, rfl⟩ (.same (.same (.none (.same (.same (.same (.same .nil))))))) ?_)⟩
      have e3 : (zs ++ [x]).flatMap Ty.occ = zs.flatMap Ty.occ ++ x.occ := by simp
      rw [e3]
      exact Sub.gupd (by rw [gupd_ne had, gupd_ne hap]; exact ha)
  · rintro st G' ⟨zs, hz, rfl, rfl⟩
    rw [List.append_nil] at hz
    subst hz
    refine ⟨g2_p hdp, ?_⟩
    walk_at "tl"
    refine ⟨_, g2_p hdp, fun q hq0 => ?_⟩
    obtain ⟨hqd, hq⟩ := ne_none hq0
    obtain ⟨hqp, hq⟩ := ne_none hq
    refine lc_map (α := Ty) Ty.enc (fun t => (t.sub (tim (ns.flatMap Ty.occ))).enc) ns (fun acc => by rw [gupd_ne (Ne.symm hqp)]; exact g2_p hdp) (by omega) (fun t ht acc N hN => ?_) ?_
    · walk_at "tl"
      refine ⟨t, d, _, rfl, .inl (by rw [gupd_ne (Ne.symm hqd), gupd_same]), fun r hr i hi => ?_, hns t ht, fun u hu => ?_, hN⟩
      · rcases tim_look hi with hi | ⟨b, n, h1, rfl⟩
        · cases hi
        · cases b with
          | true => rfl
          | false => exact (hu r (List.mem_flatMap.mpr ⟨t, ht, ends_occ hr⟩) h1).elim
      · have h1 := sub_kids_tim (os := ns.flatMap Ty.occ) u
        have h2 := pre_kids hu
        have h3 := hns t ht
        omega
    · walk_at "tl"
      refine ⟨G, ?_, ?_⟩
      · exact (Sub.gupd hp).trans ((Sub.gupd (by rw [gupd_ne hdp]; exact hd)).trans (Sub.gupd (by rw [gupd_ne hqd, gupd_ne hqp]; exact hq)))
      · unfold toldT toldIm at h
        rw [hNS] at h
        simpa [Function.comp_def] using h
end TL

namespace TL
open PySem PySem.Spec PyProof.Rows L2
local macro_rules | `(tactic| walk_at "tl") => `(tactic| try simp +decide only [tseq, tasg, tifs, tbool, tret, tretN, tdrop, tnext, tcont, tbreak, gname, gtup_tup, gcons_cons, gnil_nil, GO.lst.injEq, GO.dK.injEq, top, tvar, tcon, tun, ttup, tlst, tacons, tanil, tcb, tcall, tife, tand, tor, tnot, tandV, torV, tnotV, tisN, tnotN, T.isNon, ttruth, truth_bl, truth_non, truth_int, truth_tup, truth_fl, tsl, tpart, tnopart, tsortk, tlc, tfor, iany, irev, irange1_eq, irange2_eq, items_tup, items_fl, items_ref, twipe, List.set, izip_eq, tput_eq, vlist_tup, tmeth, isL, mappend_ref, mextend_tup, trev, exists_eq, exists_eq', 
  vix_tup, vix_fl, veq_str, vne_str, veq_int, vne_int, vcmp_int, vadd_int, vaddI_int, vadd_tup, vadd_str, vsub_int, vI_int, vlen_tup, vlen_fl, vlen_str, vtuple_tup, vtuple_ref, vint_int, vsl_tup, cut_from1, atI0, atI1, atI2, atI3, taug,
  startT, List.map_cons, List.map_nil, List.length_cons, List.length_nil, List.cons_append, List.nil_append, List.getElem?_cons_zero, List.getElem?_cons_succ, List.set_cons_zero, List.set_cons_succ, List.replicate, Option.some.injEq, exists_eq_left', exists_eq_left, T.bl.injEq, T.int.injEq, T.str.injEq, T.tup.injEq, T.ref.injEq, if_true, if_false, ite_true, ite_false, true_and, and_true, reduceCtorEq, gupd_same, gupd_gupd, Option.map_some, Option.map_none, Option.isSome_some, Option.isSome_none, Bool.not_true, Bool.not_false, Bool.true_eq_false, Bool.false_eq_true, List.cons.injEq, decide_true, decide_false])
def intsT (ns : List Int) : List T := ns.map T.int
def t__law_cell : TTS :=
  (tseq (tifs (tbool (top (vcmp fun i j => decide (i < j)) (tvar 1) (tcb vlen (tacons (tvar 0) tanil))))
  (tret (top vix (tvar 0) (tvar 1)))
  tnext)
  (tret (tcon (.int 0))))

/-- the script, as a list that is read alone or as one that stands in the heap -/
def Scr (G : GH) (x : T) (ns : List Int) : Prop := x = .fl (intsT ns) ∨ ∃ a, x = .ref a ∧ G a = some (.lst (intsT ns))
theorem Scr.len {G : GH} {x : T} {ns : List Int} {R : TK} (h : Scr G x ns) (q : R (.int ns.length) G) : vlen [x] G R := by
  have hl : (intsT ns).length = ns.length := by simp [intsT]
  rcases h with rfl | ⟨a, rfl, h⟩
  · show R (.int (intsT ns).length) G
    rw [hl]; exact q
  · exact .inl ⟨_, h, by rw [hl]; exact q⟩
theorem Scr.ix {G : GH} {x : T} {ns : List Int} {R : TK} {k : Nat} (h : Scr G x ns) (hk : k < ns.length) (q : R (.int ns[k]) G) : vix x (.int k) G R := by
  have e : atI (intsT ns) (k : Int) = some (.int ns[k]) := atI_lt (by simp [intsT, hk])
  rcases h with rfl | ⟨a, rfl, h⟩
  · exact ⟨_, e, q⟩
  · exact vix_lst h e q
theorem Scr.new {G : GH} {x : T} {ns : List Int} {p : Addr} {o : GO} (h : Scr G x ns) (n : G p = none) : Scr (gupd G p o) x ns := by
  rcases h with rfl | ⟨a, rfl, h⟩
  · exact .inl rfl
  · exact .inr ⟨a, rfl, by rw [gupd_free n (by rw [h]; rfl)]; exact h⟩
def sp__law_cell : TSp := fun ts G R => ∃ (x : T) (ns : List Int) (k : Nat), ts = [x, .int k] ∧ Scr G x ns ∧ R (.int (ns.getD k 0)) G
theorem pure__law_cell (ts : List T) (G : GH) (R : TK) (h : sp__law_cell ts G R) : t__law_cell { nx := fun _ G' => WkR R .non G', rt := WkR R } (startT ["script", "k"] ts) G := by
  obtain ⟨x, ns, k, rfl, hx, h⟩ := h
  unfold t__law_cell
  walk_at "tl"
  refine hx.len ?_
  walk_at "tl"
  by_cases hk : k < ns.length
  · have e : decide ((k : Int) < (ns.length : Int)) = true := by simp [hk]
    rw [e]
    walk_at "tl"
    refine hx.ix hk (.of ?_)
    have : ns.getD k 0 = ns[k] := by simp [List.getD, hk]
    rw [this] at h
    exact h
  · have e : decide ((k : Int) < (ns.length : Int)) = false := by simp; omega
    rw [e]
    walk_at "tl"
    have : ns.getD k 0 = 0 := by simp [List.getD, List.getElem?_eq_none (Nat.le_of_not_lt hk)]
    rw [this] at h
    exact .of h
def t__law_digits_r1 : TTS :=
  (tifs (tbool (top (vcmp fun i j => decide (j ≤ i)) (tvar 5) (top (vI CPow fun i j => i ^ j.toNat) (tcon (.int 10)) (tcon (.int 18)))))
  (tfor (irange1 (tacons (tcon (.int 60)) tanil)) (gname 6)
  (tifs (tbool (top (vcmp fun i j => decide (j < i)) (tvar 5) (tcon (.int 0))))
  (tseq (tdrop (tmeth mappend (tvar 3) (tacons (top (vI (fun _ j => 0 < j) (· % ·)) (tcb vint (tacons (tvar 5) tanil)) (tcon (.int 1000))) tanil)))
  (tasg (top (vI CDiv (· / ·)) (tvar 5) (tcon (.int 1000))) (gname 5)))
  tnext))
  (tseq (tasg (top (vI (fun _ j => 0 < j) (· % ·)) (tcb vint (tacons (top vadd (top vadd (top (vI CMul (· * ·)) (tvar 5) (tcon (.int 48271))) (top (vI CMul (· * ·)) (tvar 4) (tcon (.int 69621)))) (tcon (.int 11))) tanil)) (tcon (.int 2147483647))) (gname 7))
  (tfor (irange1 (tacons (tcon (.int 12)) tanil)) (gname 6)
  (tseq (tasg (top (vI (fun _ j => 0 < j) (· % ·)) (tcb vint (tacons (top vadd (top vadd (top (vI CMul (· * ·)) (tvar 7) (tcon (.int 16807))) (top (vI CMul (· * ·)) (tcon (.int 7)) (tvar 6))) (tcon (.int 1))) tanil)) (tcon (.int 2147483647))) (gname 7))
  (tdrop (tmeth mappend (tvar 3) (tacons (top (vI (fun _ j => 0 < j) (· % ·)) (tcb vint (tacons (top (vI CDiv (· / ·)) (tvar 7) (tcon (.int 997))) tanil)) (tcon (.int 1000))) tanil)))))))
def t__law_digits : TTS :=
  (tseq (tasg (tlst tanil) (gname 3))
  (tseq (tfor (irange2 (tacons (tvar 1) (tacons (tvar 2) tanil))) (gname 4)
  (tseq (tasg (tcall sp__law_cell (tacons (tvar 0) (tacons (tvar 4) tanil))) (gname 5))
  (tseq (tifs (tbool (top (vcmp fun i j => decide (i < j)) (tvar 5) (tcon (.int 0))))
  (tasg (top vsub (tcon (.int 1)) (top (vI CMul (· * ·)) (tcon (.int 2)) (tvar 5))) (gname 5))
  tnext)
  t__law_digits_r1)))
  (tret (tvar 3))))

def sp__law_digits : TSp := fun ts G R => ∃ (sx : T) (ns : List Int) (a b : Nat), ts = [sx, .int a, .int b] ∧ Scr G sx ns ∧ a ≤ b ∧ b ≤ 63 ∧ ∀ p ds, G p = none → R (.ref p) (gupd G p (.lst (intsT ds)))
theorem pure__law_digits (ts : List T) (G : GH) (R : TK) (h : sp__law_digits ts G R) : t__law_digits { nx := fun _ G' => WkR R .non G', rt := WkR R } (startT ["script", "first", "last", "digits", "k", "cell", "turn", "seed"] ts) G := by
  obtain ⟨sx, ns, a, b, rfl, hx, hab, hb, h⟩ := h
  unfold t__law_digits
  walk_at "tl"
  intro p hp
  refine rng2_nat (by omega) (by omega) ?_
  have hz : (10000 : Nat) ≤ sizeLine := by decide
  refine for_inv (α := Nat) (fun i => T.int ((a + i : Nat) : Int)) (fun xs st G' => ∃ ds, ds.length + 60 * xs.length ≤ 60 * (b - a) ∧ st = [some sx, some (.int a), some (.int b), some (.ref p), none, none, none, none] ∧ G' = gupd G p (.lst (intsT ds))) ?_ ?_ (List.range (b - a)) _ _ ⟨[], by simp, rfl, rfl⟩
  · rintro i xs st G' N hN ⟨ds, hd, rfl, rfl⟩
    simp only [List.length_cons] at hd
    refine ⟨trivial, ?_⟩
    walk_at "tl"
    refine ⟨sx, ns, a + i, rfl, hx.new hp, ?_⟩
    generalize ns.getD (a + i) 0 = cell
    walk_at "tl"
    have pw : CPow 10 18 := ⟨by decide, by decide, by decide⟩
    have key : ∀ c : Int, t__law_digits_r1 { nx := N, rt := WkR R, bk := tret (tvar 3) { nx := fun x G' => WkR R T.non G', rt := WkR R }, ct := N } [some sx, some (.int a), some (.int b), some (.ref p), some (.int ((a + i : Nat) : Int)), some (.int c), none, none] (gupd G p (.lst (intsT ds))) := by
      intro c
      unfold t__law_digits_r1
      walk_at "tl"
      refine ⟨pw, ?_⟩
      have again : ∀ (ds' : List Int) (X Y Z : Option T), ds'.length ≤ ds.length + 60 → N [some sx, some (.int a), some (.int b), some (.ref p), some (.int ((a + i : Nat) : Int)), X, Y, Z] (gupd G p (.lst (intsT ds'))) := fun ds' X Y Z hl =>
        hN _ _ (.mk ⟨ds', by omega, rfl, rfl⟩ (.same (.same (.same (.same (.none (.none (.none (.none .nil)))))))) .refl)
      split
      · refine rng1_lit 60 rfl (by decide) ?_
        refine for_inv (α := Nat) (fun i => T.int (i : Int)) (fun zs st G' => ∃ (ds' : List Int) (c' : Int), ds'.length + zs.length ≤ ds.length + 60 ∧ st = [some sx, some (.int a), some (.int b), some (.ref p), some (.int ((a + i : Nat) : Int)), some (.int c'), none, none] ∧ G' = gupd G p (.lst (intsT ds'))) ?_ ?_ (List.range 60) _ _ ⟨ds, c, by simp, rfl, rfl⟩
        · rintro j zs st G' M hM ⟨ds', c', hl, rfl, rfl⟩
          simp only [List.length_cons] at hl
          have next : ∀ (ds2 : List Int) (c2 : Int) (X Y : Option T), ds2.length + zs.length ≤ ds.length + 60 → M [some sx, some (.int a), some (.int b), some (.ref p), some (.int ((a + i : Nat) : Int)), some (.int c2), X, Y] (gupd G p (.lst (intsT ds2))) := fun ds2 c2 X Y h2 =>
            hM _ _ (.mk ⟨ds2, c2, h2, rfl, rfl⟩ (.same (.same (.same (.same (.same (.same (.none (.none .nil)))))))) .refl)
          refine ⟨trivial, ?_⟩
          walk_at "tl"
          split
          · refine ⟨by simp only [intsT, List.length_map]; omega, ⟨by decide, by decide⟩, ?_⟩
            have := next (ds' ++ [c' % 1000]) (c' / 1000) (some (.int j)) none (by simp; omega)
            simpa [intsT] using this
          · exact next _ _ _ _ (by omega)
        · rintro st G' ⟨ds', c', hl, rfl, rfl⟩
          exact ⟨trivial, again _ _ _ _ (by simpa using hl)⟩
      · refine ⟨.inr ⟨by decide, by decide⟩, .inr ⟨by decide, by decide⟩, rng1_lit 12 rfl (by decide) ?_⟩
        refine for_inv (α := Nat) (fun i => T.int (i : Int)) (fun zs st G' => ∃ (ds' : List Int) (c' : Int), ds'.length + zs.length ≤ ds.length + 12 ∧ st = [some sx, some (.int a), some (.int b), some (.ref p), some (.int ((a + i : Nat) : Int)), some (.int c), none, some (.int c')] ∧ G' = gupd G p (.lst (intsT ds'))) ?_ ?_ (List.range 12) _ _ ⟨ds, _, by simp, rfl, rfl⟩
        · rintro j zs st G' M hM ⟨ds', c', hl, rfl, rfl⟩
          simp only [List.length_cons] at hl
          have next : ∀ (ds2 : List Int) (c2 : Int) (X : Option T), ds2.length + zs.length ≤ ds.length + 12 → M [some sx, some (.int a), some (.int b), some (.ref p), some (.int ((a + i : Nat) : Int)), some (.int c), X, some (.int c2)] (gupd G p (.lst (intsT ds2))) := fun ds2 c2 X h2 =>
            hM _ _ (.mk ⟨ds2, c2, h2, rfl, rfl⟩ (.same (.same (.same (.same (.same (.same (.none (.same .nil)))))))) .refl)
          refine ⟨trivial, ?_⟩
          walk_at "tl"
          refine ⟨.inr ⟨by decide, by decide⟩, .inl ⟨by decide, by decide⟩, ⟨by decide, by decide⟩, by simp only [intsT, List.length_map]; omega, ?_⟩
          have := next (ds' ++ [((c' * 16807 + 7 * (j : Int) + 1) % 2147483647 / 997) % 1000]) ((c' * 16807 + 7 * (j : Int) + 1) % 2147483647) (some (.int j)) (by simp; omega)
          simpa [intsT] using this
        · rintro st G' ⟨ds', c', hl, rfl, rfl⟩
          exact ⟨trivial, again _ _ _ _ (by simp at hl; omega)⟩
    split
    · exact ⟨.inl ⟨by decide, by decide⟩, key _⟩
    · exact key _
  · rintro st G' ⟨ds, hd, rfl, rfl⟩
    refine ⟨trivial, ?_⟩
    walk_at "tl"
    exact .of (h p ds hp)
/-- the box at b, with the digits at p, stands at a place -/
def bx (b p : Addr) (i : Nat) (G : GH) : GH := gupd G b (.lst [.ref p, .int (i : Int)])
structure HB (b p : Addr) (G : GH) : Prop where
  box : ∃ i : Nat, G b = some (.lst [.ref p, .int (i : Int)])
  dig : ∃ ds, G p = some (.lst (intsT ds))
  ne : p ≠ b
theorem HB.bx {b p : Addr} {G : GH} {i : Nat} (h : HB b p G) : HB b p (bx b p i G) := by
  obtain ⟨ds, hd⟩ := h.dig
  exact ⟨⟨i, gupd_same⟩, ⟨ds, by unfold TL.bx; rw [gupd_ne h.ne]; exact hd⟩, h.ne⟩
theorem bx_bx {b p : Addr} {G : GH} {i j : Nat} : bx b p i (bx b p j G) = bx b p i G := gupd_gupd
theorem HB.new {b p q : Addr} {G : GH} {o : GO} (h : HB b p G) (n : G q = none) : HB b p (gupd G q o) := by
  obtain ⟨i, hi⟩ := h.box
  obtain ⟨ds, hd⟩ := h.dig
  exact ⟨⟨i, by rw [gupd_free n (by rw [hi]; rfl)]; exact hi⟩, ⟨ds, by rw [gupd_free n (by rw [hd]; rfl)]; exact hd⟩, h.ne⟩
theorem HB.put {b p q : Addr} {G : GH} {o : GO} (h : HB b p G) (n : q ≠ b) (m : q ≠ p) : HB b p (gupd G q o) := by
  obtain ⟨i, hi⟩ := h.box
  obtain ⟨ds, hd⟩ := h.dig
  exact ⟨⟨i, by rw [gupd_ne (Ne.symm n)]; exact hi⟩, ⟨ds, by rw [gupd_ne (Ne.symm m)]; exact hd⟩, h.ne⟩
theorem HB.neb {b p q : Addr} {G : GH} (h : HB b p G) (n : G q = none) : q ≠ b := fun z => by
  obtain ⟨i, hi⟩ := h.box
  rw [z, hi] at n; cases n
theorem HB.nep {b p q : Addr} {G : GH} (h : HB b p G) (n : G q = none) : q ≠ p := fun z => by
  obtain ⟨i, hi⟩ := h.dig
  rw [z, hi] at n; cases n
theorem bx_none {b p q : Addr} {G : GH} {i : Nat} (n : bx b p i G q = none) : q ≠ b ∧ G q = none := ne_none n
theorem bx_swap {b p q : Addr} {G : GH} {i : Nat} {o : GO} (n : q ≠ b) : bx b p i (gupd G q o) = gupd (bx b p i G) q o := gupd_comm n
def t__law_draw : TTS :=
  (tseq (tasg (top vix (tvar 0) (tcon (.int 1))) (gname 2))
  (tseq (tput (tvar 0) (tcon (.int 1)) (top vadd (tvar 2) (tcon (.int 1))))
  (tseq (tifs (tbool (top (vcmp fun i j => decide (i < j)) (tvar 2) (tcb vlen (tacons (top vix (tvar 0) (tcon (.int 0))) tanil))))
  (tret (top (vI (fun _ j => 0 < j) (· % ·)) (tcb vint (tacons (top vix (top vix (tvar 0) (tcon (.int 0))) (tvar 2)) tanil)) (tvar 1)))
  tnext)
  (tret (top (vI (fun _ j => 0 < j) (· % ·)) (tcb vint (tacons (top vadd (top (vI CMul (· * ·)) (tvar 2) (tcon (.int 7))) (tcon (.int 3))) tanil)) (tvar 1))))))

def sp__law_draw : TSp := fun ts G R => ∃ (b p : Addr) (m : Int), ts = [.ref b, .int m] ∧ 0 < m ∧ HB b p G ∧ ∀ (r : Int) (i : Nat), 0 ≤ r → r < m → R (.int r) (bx b p i G)
theorem pure__law_draw (ts : List T) (G : GH) (R : TK) (h : sp__law_draw ts G R) : t__law_draw { nx := fun _ G' => WkR R .non G', rt := WkR R } (startT ["box", "many", "at"] ts) G := by
  obtain ⟨b, p, m, rfl, hm, ⟨⟨i, hb⟩, ⟨ds, hp⟩, hne⟩, h⟩ := h
  have hp2 : ∀ A, gupd G b A p = some (.lst (intsT ds)) := fun A => by rw [gupd_ne hne]; exact hp
  unfold t__law_draw
  walk_at "tl"
  refine vix_lst hb atI1 ?_
  walk_at "tl"
  refine put_lst (j := 1) hb (by simp [ixN]) ?_
  walk_at "tl"
  refine vix_lst gupd_same atI0 ?_
  refine .inl ⟨_, hp2 _, ?_⟩
  walk_at "tl"
  have hl : (intsT ds).length = ds.length := by simp [intsT]
  have e1 : ((i : Int) + 1) = ((i + 1 : Nat) : Int) := by omega
  rw [hl]
  split
  · rename_i hc
    refine vix_lst gupd_same atI0 ?_
    have hi : i < ds.length := by simpa using hc
    refine vix_lst (hp2 _) (atI_lt (x := .int ds[i]) (by simp [intsT, hi])) ?_
    walk_at "tl"
    refine ⟨hm, .of ?_⟩
    have := h (ds[i] % m) (i + 1) (Int.emod_nonneg _ (by omega)) (Int.emod_lt_of_pos _ hm)
    rw [e1]
    exact this
  · refine ⟨.inr ⟨by decide, by decide⟩, hm, .of ?_⟩
    have := h (((i : Int) * 7 + 3) % m) (i + 1) (Int.emod_nonneg _ (by omega)) (Int.emod_lt_of_pos _ hm)
    rw [e1]
    exact this
end TL

namespace TL
open PySem PySem.Spec PyProof.Rows L2
local macro_rules | `(tactic| walk_at "tl") => `(tactic| try simp +decide only [tseq, tasg, tifs, tbool, tret, tretN, tdrop, tnext, tcont, tbreak, gname, gtup_tup, gcons_cons, gnil_nil, GO.lst.injEq, GO.dK.injEq, top, tvar, tcon, tun, ttup, tlst, tacons, tanil, tcb, tcall, tife, tand, tor, tnot, tandV, torV, tnotV, tisN, tnotN, T.isNon, ttruth, truth_bl, truth_non, truth_int, truth_tup, truth_fl, tsl, tpart, tnopart, tsortk, tlc, tfor, iany, irev, irange1_eq, irange2_eq, items_tup, items_fl, items_ref, twipe, List.set, izip_eq, tput_eq, vlist_tup, tmeth, isL, mappend_ref, mextend_tup, trev, exists_eq, exists_eq', 
  vix_tup, vix_fl, veq_str, vne_str, veq_int, vne_int, vcmp_int, vadd_int, vaddI_int, vadd_tup, vadd_str, vsub_int, vI_int, vlen_tup, vlen_fl, vlen_str, vtuple_tup, vtuple_ref, vint_int, vsl_tup, cut_from1, atI0, atI1, atI2, atI3, taug,
  startT, List.map_cons, List.map_nil, List.length_cons, List.length_nil, List.cons_append, List.nil_append, List.getElem?_cons_zero, List.getElem?_cons_succ, List.set_cons_zero, List.set_cons_succ, List.replicate, Option.some.injEq, exists_eq_left', exists_eq_left, T.bl.injEq, T.int.injEq, T.str.injEq, T.tup.injEq, T.ref.injEq, if_true, if_false, ite_true, ite_false, true_and, and_true, reduceCtorEq, gupd_same, gupd_gupd, Option.map_some, Option.map_none, Option.isSome_some, Option.isSome_none, Bool.not_true, Bool.not_false, Bool.true_eq_false, Bool.false_eq_true, List.cons.injEq, decide_true, decide_false])
inductive Ex where
  | num (i : Int) | tru (b : Bool) | nam (x : Str) | fn (x : Str) (b : Ex) | rc (f x : Str) (b : Ex) | app (f a : Ex) | lt (x : Str) (a b : Ex) | ite (c a b : Ex)
  | op (o : Str) (a b : Ex) | emp | ext (l : Str) (a r : Ex) | sel (l : Str) (r : Ex) | drp (l : Str) (r : Ex)
def Ex.hd : Ex → List T
  | .num i => [.str "number", .int i]
  | .tru b => [.str "truth", .bl b]
  | .nam x => [.str "name", .str x]
  | .fn x _ => [.str "fun", .str x]
  | .rc f x _ => [.str "rec", .str f, .str x]
  | .app _ _ => [.str "call"]
  | .lt x _ _ => [.str "let", .str x]
  | .ite _ _ _ => [.str "if"]
  | .op o _ _ => [.str "op", .str o]
  | .emp => [.str "empty"]
  | .ext l _ _ => [.str "extend", .str l]
  | .sel l _ => [.str "select", .str l]
  | .drp l _ => [.str "drop", .str l]
def Ex.kids : Ex → List Ex
  | .fn _ b => [b]
  | .rc _ _ b => [b]
  | .app f a => [f, a]
  | .lt _ a b => [a, b]
  | .ite c a b => [c, a, b]
  | .op _ a b => [a, b]
  | .ext _ a r => [a, r]
  | .sel _ r => [r]
  | .drp _ r => [r]
  | _ => []
def Ex.enc : Ex → T
  | .num i => .tup [.str "number", .int i]
  | .tru b => .tup [.str "truth", .bl b]
  | .nam x => .tup [.str "name", .str x]
  | .fn x b => .tup [.str "fun", .str x, b.enc]
  | .rc f x b => .tup [.str "rec", .str f, .str x, b.enc]
  | .app f a => .tup [.str "call", f.enc, a.enc]
  | .lt x a b => .tup [.str "let", .str x, a.enc, b.enc]
  | .ite c a b => .tup [.str "if", c.enc, a.enc, b.enc]
  | .op o a b => .tup [.str "op", .str o, a.enc, b.enc]
  | .emp => .tup [.str "empty"]
  | .ext l a r => .tup [.str "extend", .str l, a.enc, r.enc]
  | .sel l r => .tup [.str "select", .str l, r.enc]
  | .drp l r => .tup [.str "drop", .str l, r.enc]
theorem Ex.enc_eq (e : Ex) : e.enc = .tup (e.hd ++ e.kids.map Ex.enc) := by cases e <;> rfl
def Ex.withK : Ex → List Ex → Ex
  | .fn x _, [b] => .fn x b
  | .rc f x _, [b] => .rc f x b
  | .app _ _, [f, a] => .app f a
  | .lt x _ _, [a, b] => .lt x a b
  | .ite _ _ _, [c, a, b] => .ite c a b
  | .op o _ _, [a, b] => .op o a b
  | .ext l _ _, [a, r] => .ext l a r
  | .sel l _, [r] => .sel l r
  | .drp l _, [r] => .drp l r
  | e, _ => e
theorem Ex.withK_enc (e : Ex) (ks : List Ex) (h : ks.length = e.kids.length) : (e.withK ks).enc = .tup (e.hd ++ ks.map Ex.enc) := by
  cases e <;> (match ks, h with
    | [], h => first | rfl | (simp [Ex.kids] at h)
    | [a], h => first | rfl | (simp [Ex.kids] at h)
    | [a, b], h => first | rfl | (simp [Ex.kids] at h)
    | [a, b, c], h => first | rfl | (simp [Ex.kids] at h)
    | _ :: _ :: _ :: _ :: _, h => simp [Ex.kids] at h)
/-- the names that are brought, child by child -/
def Ex.br : Ex → List (List Str)
  | .fn x _ => [[x]]
  | .rc f x _ => [[f, x]]
  | .lt x _ _ => [[], [x]]
  | e => e.kids.map fun _ => []
theorem Ex.br_len (e : Ex) : e.br.length = e.kids.length := by cases e <;> rfl
theorem Ex.kids_le (e : Ex) : e.kids.length ≤ 3 := by cases e <;> simp [Ex.kids]
theorem Ex.hd_le (e : Ex) : e.hd.length ≤ 3 := by cases e <;> simp [Ex.hd]
def D_FIRST_CHILD : List (Str × Int) := [("number", 2), ("truth", 2), ("name", 2), ("fun", 2), ("rec", 3), ("call", 1), ("let", 2), ("if", 1), ("op", 2), ("empty", 1), ("extend", 2), ("select", 2), ("drop", 2)]
/-- where the children begin -/
theorem fc_mk {te : TTE} {st : TSt} {G : GH} {R : TK} {e : Ex} (h : ∀ Q : TK, Q e.enc G → te st G Q) (q : R (.int (e.hd.length : Int)) G) : tkd D_FIRST_CHILD (top vix te (tcon (.int 0))) st G R := by
  refine h _ ?_
  refine ⟨(e.hd.head?.getD .non), ?_, ?_⟩
  · cases e <;> exact atI0
  · cases e <;> exact ⟨_, _, rfl, by unfold D_FIRST_CHILD; simp [Ex.hd], q⟩
theorem cut_from {xs ys : List T} : cutT (xs ++ ys) (some (xs.length : Int)) none = ys := by
  unfold cutT
  rw [HT.sIx_none, HT.sIx_nat, Nat.min_eq_left (by simp), List.drop_left]
  exact List.take_of_length_le (by simp)
theorem cut_to {xs ys : List T} : cutT (xs ++ ys) none (some (xs.length : Int)) = xs := by
  unfold cutT
  rw [HT.sIx_none, HT.sIx_nat, Nat.min_eq_left (by simp)]
  simp
theorem var0 {x : T} {st : TSt} {G : GH} : ∀ Q : TK, Q x G → tvar 0 (some x :: st) G Q := fun Q h => by
  unfold tvar
  exact ⟨x, rfl, h⟩
def t_children : TTS :=
  (tret (tsl (tvar 0) (tpart (tkd D_FIRST_CHILD (top vix (tvar 0) (tcon (.int 0))))) tnopart))

def sp_children : TSp := fun ts G R => ∃ e : Ex, ts = [e.enc] ∧ R (.tup (e.kids.map Ex.enc)) G
theorem pure_children (ts : List T) (G : GH) (R : TK) (h : sp_children ts G R) : t_children { nx := fun _ G' => WkR R .non G', rt := WkR R } (startT ["expression"] ts) G := by
  obtain ⟨e, rfl, h⟩ := h
  unfold t_children
  walk_at "tl"
  refine fc_mk (e := e) var0 ?_
  refine ⟨_, rfl, ?_⟩
  rw [e.enc_eq, vsl_tup, cut_from]
  exact .of h
def t_with_children : TTS :=
  (tret (top vadd (tsl (tvar 0) tnopart (tpart (tkd D_FIRST_CHILD (top vix (tvar 0) (tcon (.int 0)))))) (tcb vtuple (tacons (tvar 1) tanil))))

def sp_with_children : TSp := fun ts G R => ∃ (e : Ex) (ks : List Ex) (p : Addr), ts = [e.enc, .ref p] ∧ G p = some (.lst (ks.map Ex.enc)) ∧ ks.length = e.kids.length ∧ R (e.withK ks).enc G
theorem pure_with_children (ts : List T) (G : GH) (R : TK) (h : sp_with_children ts G R) : t_with_children { nx := fun _ G' => WkR R .non G', rt := WkR R } (startT ["node", "parts"] ts) G := by
  obtain ⟨e, ks, p, rfl, hp, hk, h⟩ := h
  have z : (10 : Nat) ≤ sizeLine := by decide
  have := e.hd_le
  have := e.kids_le
  unfold t_with_children
  walk_at "tl"
  refine fc_mk (e := e) var0 ?_
  refine ⟨_, rfl, ?_⟩
  rw [e.enc_eq, vsl_tup, cut_to]
  walk_at "tl"
  refine ⟨_, hp, ?_⟩
  walk_at "tl"
  refine ⟨by rw [List.length_map]; omega, ?_⟩
  rw [← e.withK_enc ks hk]
  exact .of h
def t_brought_names : TTS :=
  (tseq (tasg (top vix (tvar 0) (tcon (.int 0))) (gname 1))
  (tseq (tifs (tbool (top veq (tvar 1) (tcon (.str "fun"))))
  (tret (ttup (tacons (ttup (tacons (top vix (tvar 0) (tcon (.int 1))) tanil)) tanil)))
  tnext)
  (tseq (tifs (tbool (top veq (tvar 1) (tcon (.str "rec"))))
  (tret (ttup (tacons (ttup (tacons (top vix (tvar 0) (tcon (.int 1))) (tacons (top vix (tvar 0) (tcon (.int 2))) tanil))) tanil)))
  tnext)
  (tseq (tifs (tbool (top veq (tvar 1) (tcon (.str "let"))))
  (tret (ttup (tacons (ttup tanil) (tacons (ttup (tacons (top vix (tvar 0) (tcon (.int 1))) tanil)) tanil))))
  tnext)
  (tret (tcb vtuple (tacons (tlc (iany (tcall sp_children (tacons (tvar 0) tanil))) (gname 2) tyes (ttup tanil) [2]) tanil)))))))

def encN (xs : List Str) : T := .tup (xs.map T.str)
def sp_brought_names : TSp := fun ts G R => ∃ e : Ex, ts = [e.enc] ∧ R (.tup (e.br.map encN)) G
theorem pure_brought_names (ts : List T) (G : GH) (R : TK) (h : sp_brought_names ts G R) : t_brought_names { nx := fun _ G' => WkR R .non G', rt := WkR R } (startT ["node", "kind", "_"] ts) G := by
  obtain ⟨e, rfl, h⟩ := h
  have z : (10 : Nat) ≤ sizeLine := by decide
  have hk := e.kids_le
  have rest : e.br = e.kids.map (fun _ => []) → ∀ st : TSt, sp_children [e.enc] G fun x G1 => items G1 (fun items keep G1 => ∀ D, G1 D = none → lcGo keep (gname 2) tyes (ttup tanil) [2] D (fun x G1 => vtuple [x] G1 (WkR R)) st items (gupd G1 D (.lst []))) x := by
    intro hb st
    refine ⟨e, rfl, ?_⟩
    refine (items_tup (xs := e.kids.map Ex.enc)).mpr ?_
    intro D hD
    refine lc_map (α := Ex) Ex.enc (fun _ => .tup []) e.kids (fun _ => trivial) (by omega) (fun x _ acc N hN => ?_) ?_
    · walk_at "tl"; exact hN
    · refine ⟨_, gupd_same, wkR_new hD ?_⟩
      rw [hb, List.map_map] at h
      exact h
  unfold t_brought_names
  cases e with
  | fn x b => simp only [Ex.enc]; walk_at "tl"; exact .of h
  | rc f x b => simp only [Ex.enc]; walk_at "tl"; exact .of h
  | lt x a b => simp only [Ex.enc]; walk_at "tl"; exact .of h
  | _ => have := rest rfl; simp only [Ex.enc] at this ⊢; walk_at "tl"; exact this _
end TL

namespace TL
open PySem PySem.Spec PyProof.Rows L2
local macro_rules | `(tactic| walk_at "tl") => `(tactic| try simp +decide only [tseq, tasg, tifs, tbool, tret, tretN, tdrop, tnext, tcont, tbreak, gname, gtup_tup, gcons_cons, gnil_nil, GO.lst.injEq, GO.dK.injEq, top, tvar, tcon, tun, ttup, tlst, tacons, tanil, tcb, tcall, tife, tand, tor, tnot, tandV, torV, tnotV, tisN, tnotN, T.isNon, ttruth, truth_bl, truth_non, truth_int, truth_tup, truth_fl, tsl, tpart, tnopart, tsortk, tlc, tfor, iany, irev, irange1_eq, irange2_eq, items_tup, items_fl, items_ref, twipe, List.set, izip_eq, tput_eq, vlist_tup, tmeth, isL, mappend_ref, mextend_tup, trev, exists_eq, exists_eq', 
  vix_tup, vix_fl, veq_str, vne_str, veq_int, vne_int, vcmp_int, vadd_int, vaddI_int, vadd_tup, vadd_str, vsub_int, vI_int, vlen_tup, vlen_fl, vlen_str, vtuple_tup, vtuple_ref, vint_int, vsl_tup, cut_from1, atI0, atI1, atI2, atI3, taug,
  startT, List.map_cons, List.map_nil, List.length_cons, List.length_nil, List.cons_append, List.nil_append, List.getElem?_cons_zero, List.getElem?_cons_succ, List.set_cons_zero, List.set_cons_succ, List.replicate, Option.some.injEq, exists_eq_left', exists_eq_left, T.bl.injEq, T.int.injEq, T.str.injEq, T.tup.injEq, T.ref.injEq, if_true, if_false, ite_true, ite_false, true_and, and_true, reduceCtorEq, gupd_same, gupd_gupd, Option.map_some, Option.map_none, Option.isSome_some, Option.isSome_none, Bool.not_true, Bool.not_false, Bool.true_eq_false, Bool.false_eq_true, List.cons.injEq, decide_true, decide_false])
theorem inT_strs {x : Str} {ys : List Str} : inT (.str x) (ys.map T.str) = decide (x ∈ ys) := by
  unfold inT
  induction ys with
  | nil => rfl
  | cons y r ih =>
    rw [List.map_cons, List.any_cons, ih]
    have : (scalT (.str y) (.str x) == some true) = decide (x = y) := by
      show (some (decide (y = x)) == some true) = _
      by_cases h : y = x
      · subst h; simp
      · simp [h, Ne.symm h]
    rw [this]
    simp
theorem strs_scal {x : Str} {ys : List Str} : ((ys.map T.str).all fun y => (scalT y (.str x)).isSome) = true := by
  rw [List.all_map]
  exact List.all_eq_true.mpr fun _ _ => rfl
theorem vin_strs {neg : Bool} {x : Str} {ys : List Str} {G : GH} {R : TK} (h : R (.bl (if neg then !decide (x ∈ ys) else decide (x ∈ ys))) G) : vin neg (.str x) (encN ys) G R :=
  ⟨strs_scal, rfl, by rw [inT_strs]; exact h⟩
theorem vin_strsL {neg : Bool} {x : Str} {ys : List Str} {p : Addr} {G : GH} {R : TK} (hp : G p = some (.lst (ys.map T.str))) (h : R (.bl (if neg then !decide (x ∈ ys) else decide (x ∈ ys))) G) : vin neg (.str x) (.ref p) G R :=
  .inl ⟨_, hp, strs_scal, rfl, by rw [inT_strs]; exact h⟩
theorem zip_kids (e : Ex) : List.zipWith (fun a b => T.tup [a, b]) (e.kids.map Ex.enc) (e.br.map encN) = (e.kids.zip e.br).map fun q => T.tup [q.1.enc, encN q.2] := by
  rw [List.zip_eq_zipWith, List.map_zipWith, List.zipWith_map]
def kidsC (x : Str) (p : Ex × Bool) : List (Ex × Bool) := (p.1.kids.zip p.1.br).map fun q => (q.1, p.2 || decide (x ∈ q.2))
def Ex.cov (x : Str) : Ex → Bool → List (Ex × Bool)
  | .fn y b, c => (.fn y b, c) :: b.cov x (c || decide (x ∈ [y]))
  | .rc f y b, c => (.rc f y b, c) :: b.cov x (c || decide (x ∈ [f, y]))
  | .app f a, c => (.app f a, c) :: (f.cov x c ++ a.cov x c)
  | .lt y a b, c => (.lt y a b, c) :: (a.cov x c ++ b.cov x (c || decide (x ∈ [y])))
  | .ite i a b, c => (.ite i a b, c) :: (i.cov x c ++ (a.cov x c ++ b.cov x c))
  | .op o a b, c => (.op o a b, c) :: (a.cov x c ++ b.cov x c)
  | .ext l a r, c => (.ext l a r, c) :: (a.cov x c ++ r.cov x c)
  | .sel l r, c => (.sel l r, c) :: r.cov x c
  | .drp l r, c => (.drp l r, c) :: r.cov x c
  | e, c => [(e, c)]
def covP (x : Str) (p : Ex × Bool) : List (Ex × Bool) := p.1.cov x p.2
theorem covP_eq (x : Str) (p : Ex × Bool) : covP x p = p :: (kidsC x p).flatMap (covP x) := by
  obtain ⟨e, c⟩ := p
  cases e <;> simp [covP, kidsC, Ex.cov, Ex.kids, Ex.br]
def Ex.size : Ex → Nat
  | .fn _ b => b.size + 1
  | .rc _ _ b => b.size + 1
  | .app f a => f.size + a.size + 1
  | .lt _ a b => a.size + b.size + 1
  | .ite c a b => c.size + a.size + b.size + 1
  | .op _ a b => a.size + b.size + 1
  | .ext _ a r => a.size + r.size + 1
  | .sel _ r => r.size + 1
  | .drp _ r => r.size + 1
  | _ => 1
theorem Ex.size_pos (e : Ex) : 1 ≤ e.size := by cases e <;> simp [Ex.size]
theorem Ex.cov_len (x : Str) : ∀ (e : Ex) (c : Bool), (e.cov x c).length = e.size
  | .fn _ b, c => by simp [Ex.cov, Ex.size, b.cov_len x]
  | .rc _ _ b, c => by simp [Ex.cov, Ex.size, b.cov_len x]
  | .app f a, c => by simp [Ex.cov, Ex.size, f.cov_len x, a.cov_len x]
  | .lt _ a b, c => by simp [Ex.cov, Ex.size, a.cov_len x, b.cov_len x]
  | .ite i a b, c => by simp [Ex.cov, Ex.size, i.cov_len x, a.cov_len x, b.cov_len x]; omega
  | .op _ a b, c => by simp [Ex.cov, Ex.size, a.cov_len x, b.cov_len x]
  | .ext _ a r, c => by simp [Ex.cov, Ex.size, a.cov_len x, r.cov_len x]
  | .sel _ r, c => by simp [Ex.cov, Ex.size, r.cov_len x]
  | .drp _ r, c => by simp [Ex.cov, Ex.size, r.cov_len x]
  | .num _, c => rfl
  | .tru _, c => rfl
  | .nam _, c => rfl
  | .emp, c => rfl
def encC (p : Ex × Bool) : T := .tup [p.1.enc, .bl p.2]
theorem flat_lenG {α : Type} {pre : α → List α} (h : ∀ a, 1 ≤ (pre a).length) (ts : List α) : ts.length ≤ (ts.flatMap pre).length := by
  induction ts with
  | nil => simp
  | cons t r ih => have := h t; simp only [List.flatMap_cons, List.length_append, List.length_cons]; omega
theorem covP_pos (x : Str) (p : Ex × Bool) : 1 ≤ (covP x p).length := by rw [covP_eq]; simp
def t__covered_nodes : TTS :=
  (tseq (tasg (tlst tanil) (gname 2))
  (tseq (tasg (tlst (tacons (ttup (tacons (tvar 0) (tacons (tcon (.bl false)) tanil))) tanil)) (gname 3))
  (tseq (twhile (ttruth (tvar 3))
  (tseq (tasg (tmeth mpop (tvar 3) tanil) (gtup 2 (gcons (gname 4) (gcons (gname 5) gnil))))
  (tseq (tdrop (tmeth mappend (tvar 2) (tacons (ttup (tacons (tvar 4) (tacons (tvar 5) tanil))) tanil)))
  (tseq (tasg (tlc (izip (tacons (tcall sp_children (tacons (tvar 4) tanil)) (tacons (tcall sp_brought_names (tacons (tvar 4) tanil)) tanil))) (gtup 2 (gcons (gname 7) (gcons (gname 8) gnil))) tyes (ttup (tacons (tvar 7) (tacons (torV (tvar 5) (top (vin false) (tvar 1) (tvar 8))) tanil))) [7, 8]) (gname 6))
  (tdrop (tmeth mextend (tvar 3) (tacons (trev (tvar 6)) tanil)))))))
  (tret (tvar 2)))))

def sp__covered_nodes : TSp := fun ts G R => ∃ (e : Ex) (x : Str), ts = [e.enc, .str x] ∧ e.size ≤ sizeLine ∧ ∀ p, G p = none → R (.ref p) (gupd G p (.lst ((e.cov x false).map encC)))
theorem pure__covered_nodes (ts : List T) (G : GH) (R : TK) (h : sp__covered_nodes ts G R) : t__covered_nodes { nx := fun _ G' => WkR R .non G', rt := WkR R } (startT ["expression", "name", "found", "waiting", "node", "covered", "inner", "child", "names"] ts) G := by
  obtain ⟨e, x, rfl, hl, h⟩ := h
  unfold t__covered_nodes
  walk_at "tl"
  intro p hp q hq0
  obtain ⟨hqp, hq⟩ := ne_none hq0
  refine ⟨fun m st G' => ∃ F W : List (Ex × Bool), st = [some e.enc, some (.str x), some (.ref p), some (.ref q), none, none, none, none, none] ∧ G' = gupd (gupd G p (.lst (F.map encC))) q (.lst (W.map encC)) ∧ F ++ W.reverse.flatMap (covP x) = e.cov x false ∧ m = (W.reverse.flatMap (covP x)).length, ⟨_, [], [(e, false)], rfl, rfl, by simp [covP], rfl⟩, ?_⟩
  rintro m st G' ⟨F, W, rfl, rfl, hF, rfl⟩
  have hlen := congrArg List.length hF
  rw [List.length_append, Ex.cov_len] at hlen
  walk_at "tl"
  refine ⟨_, truth_ref gupd_same rfl, ?_⟩
  rcases List.eq_nil_or_concat W with rfl | ⟨W', u, rfl⟩
  · walk_at "tl"
    have eF : F = e.cov x false := by simpa using hF
    subst eF
    exact ⟨_, Sub.gupd (by rw [gupd_ne hqp]; exact hq), h p hp⟩
  · have hk : (W' ++ [u]).reverse.flatMap (covP x) = u :: ((kidsC x u).flatMap (covP x) ++ W'.reverse.flatMap (covP x)) := by
      simp only [List.reverse_append, List.reverse_cons, List.reverse_nil, List.nil_append, List.cons_append, List.flatMap_cons]
      rw [covP_eq]
      rfl
    rw [List.concat_eq_append] at *
    rw [hk] at hlen
    simp only [List.length_cons, List.length_append] at hlen
    have w1 := flat_lenG (covP_pos x) (kidsC x u)
    have w2 := flat_lenG (covP_pos x) W'.reverse
    rw [List.length_reverse] at w2
    have e1 : (!(List.map encC (W' ++ [u])).isEmpty) = true := by simp
    rw [e1]
    walk_at "tl"
    refine pop_mk (t := encC u) (ys := W'.map encC) (by rw [gupd_same, List.map_append]; rfl) ?_
    rw [g2_setq]
    obtain ⟨n, c⟩ := u
    simp only [encC]
    walk_at "tl"
    refine ⟨⟨_, g2_p hqp⟩, _, g2_p hqp, by rw [List.length_map]; omega, ?_⟩
    rw [g2_setp hqp]
    walk_at "tl"
    refine ⟨n, rfl, n, rfl, ?_⟩
    walk_at "tl"
    refine zipP_mk (.tup _) (.tup _) fun D hD => ?_
    rw [zip_kids]
    have hz : (n.kids.zip n.br).length ≤ sizeLine := by
      have := n.kids_le
      have z : (10 : Nat) ≤ sizeLine := by decide
      rw [List.length_zip]; omega
    refine lc_map (α := Ex × List Str) _ (fun r => encC (r.1, c || decide (x ∈ r.2))) (n.kids.zip n.br) (fun _ => ⟨trivial, trivial⟩) hz (fun r _ acc N hN => ?_) ?_
    · walk_at "tl"
      cases c with
      | true => walk_at "tl"; exact hN
      | false =>
        walk_at "tl"
        refine vin_strs ?_
        simpa [encC] using hN
    · walk_at "tl"
      obtain ⟨hDq, hD1⟩ := ne_none hD
      obtain ⟨hDp, hD2⟩ := ne_none hD1
      have em : List.map (fun r : Ex × List Str => encC (r.1, c || decide (x ∈ r.2))) (n.kids.zip n.br) = (kidsC x (n, c)).map encC := by
        rw [kidsC, List.map_map]; rfl
      rw [em]
      refine ⟨⟨_, by rw [gupd_ne (Ne.symm hDq), gupd_same]⟩, fun l hl0 => ?_⟩
      obtain ⟨hlD, hl1⟩ := ne_none hl0
      obtain ⟨hlq, hl2⟩ := ne_none hl1
      obtain ⟨hlp, hl3⟩ := ne_none hl2
      refine ⟨q, W'.map encC, _, rfl, .inr ⟨l, rfl, gupd_same⟩, by rw [gupd_ne (Ne.symm hlq), gupd_ne (Ne.symm hDq), gupd_same], ?_, ?_⟩
      · rw [List.length_reverse, List.length_map, List.length_map]; omega
      rw [gupd_comm hlq, gupd_comm hDq, gupd_gupd]
      refine ⟨((kidsC x (n, c)).flatMap (covP x) ++ W'.reverse.flatMap (covP x)).length, by rw [hk]; simp, .mk ⟨F ++ [(n, c)], W' ++ (kidsC x (n, c)).reverse, rfl, ?_, ?_, ?_⟩ (.same (.same (.same (.same (.none (.none (.none (.none (.none .nil))))))))) (.trans (.gupd ?_) (.gupd ?_))⟩
      · rw [List.map_append, List.map_append, List.map_reverse]; rfl
      · rw [hk] at hF
        simpa using hF
      · simp
      · rw [gupd_ne hDq]; exact hD1
      · rw [gupd_ne hlD, gupd_ne hlq]; exact hl2
end TL

namespace TL
open PySem PySem.Spec PyProof.Rows L2
local macro_rules | `(tactic| walk_at "tl") => `(tactic| try simp +decide only [tseq, tasg, tifs, tbool, tret, tretN, tdrop, tnext, tcont, tbreak, gname, gtup_tup, gcons_cons, gnil_nil, GO.lst.injEq, GO.dK.injEq, top, tvar, tcon, tun, ttup, tlst, tacons, tanil, tcb, tcall, tife, tand, tor, tnot, tandV, torV, tnotV, tisN, tnotN, T.isNon, ttruth, truth_bl, truth_non, truth_int, truth_tup, truth_fl, tsl, tpart, tnopart, tsortk, tlc, tfor, iany, irev, irange1_eq, irange2_eq, items_tup, items_fl, items_ref, twipe, List.set, izip_eq, tput_eq, vlist_tup, tmeth, isL, mappend_ref, mextend_tup, trev, exists_eq, exists_eq', 
  vix_tup, vix_fl, veq_str, vne_str, veq_int, vne_int, vcmp_int, vadd_int, vaddI_int, vadd_tup, vadd_str, vsub_int, vI_int, vlen_tup, vlen_fl, vlen_str, vtuple_tup, vtuple_ref, vint_int, vsl_tup, cut_from1, atI0, atI1, atI2, atI3, taug,
  startT, List.map_cons, List.map_nil, List.length_cons, List.length_nil, List.cons_append, List.nil_append, List.getElem?_cons_zero, List.getElem?_cons_succ, List.set_cons_zero, List.set_cons_succ, List.replicate, Option.some.injEq, exists_eq_left', exists_eq_left, T.bl.injEq, T.int.injEq, T.str.injEq, T.tup.injEq, T.ref.injEq, if_true, if_false, ite_true, ite_false, true_and, and_true, reduceCtorEq, gupd_same, gupd_gupd, Option.map_some, Option.map_none, Option.isSome_some, Option.isSome_none, Bool.not_true, Bool.not_false, Bool.true_eq_false, Bool.false_eq_true, List.cons.injEq, decide_true, decide_false])
/-- a tree's nodes from behind, by a stack -/
theorem preG_loop {α β : Type} {kids pre : α → List α} (hp : ∀ a, pre a = a :: (kids a).flatMap pre) {P : List β → List α → Prop} (g : α → β) (root : α) (step : ∀ u S rest, u ∈ pre root → P (S ++ [g u]) rest → P (S ++ ((kids u).map g).reverse) (u :: rest)) : ∀ S rest, P (S ++ [g root]) rest → P S ((pre root).reverse ++ rest) := by
  have pos : ∀ a, 1 ≤ (pre a).length := fun a => by rw [hp]; simp
  have forest : ∀ ts : List α, (∀ t ∈ ts, ∀ S rest, P (S ++ [g t]) rest → P S ((pre t).reverse ++ rest)) → ∀ S rest, P (S ++ (ts.map g).reverse) rest → P S ((ts.flatMap pre).reverse ++ rest) := by
    intro ts
    induction ts with
    | nil => intro _ S rest h; simpa using h
    | cons t ts ih =>
      intro hs S rest h
      rw [List.flatMap_cons, List.reverse_append, List.append_assoc]
      exact ih (fun u hu => hs u (by simp [hu])) S _ (hs t (by simp) _ _ (by simpa using h))
  have all : ∀ n (t : α), (pre t).length ≤ n → (∀ u ∈ pre t, u ∈ pre root) → ∀ S rest, P (S ++ [g t]) rest → P S ((pre t).reverse ++ rest) := by
    intro n
    induction n with
    | zero => intro t h; have := pos t; omega
    | succ n ih =>
      intro t hn hs S rest h
      have e := hp t
      rw [e, List.reverse_cons, List.append_assoc]
      refine forest (kids t) (fun u hu => ih u ?_ ?_) S _ (step t S rest (hs t (by rw [e]; simp)) h)
      · have h1 : (pre u).length ≤ ((kids t).flatMap pre).length := by
          rw [List.length_flatMap]
          exact mem_sum (List.mem_map_of_mem hu)
        rw [e] at hn
        simp only [List.length_cons] at hn
        omega
      · intro v hv
        exact hs v (by rw [e]; exact List.mem_cons_of_mem _ (List.mem_flatMap.mpr ⟨u, hu, hv⟩))
  exact fun S rest h => all _ root (Nat.le_refl _) (fun _ h => h) S rest h
def Ex.putc (x : Str) (v : Ex) : Ex → Bool → Ex
  | .nam y, c => if y = x ∧ c = false then v else .nam y
  | .fn y b, c => .fn y (Ex.putc x v b (c || decide (x ∈ [y])))
  | .rc f y b, c => .rc f y (Ex.putc x v b (c || decide (x ∈ [f, y])))
  | .app f a, c => .app (Ex.putc x v f c) (Ex.putc x v a c)
  | .lt y a b, c => .lt y (Ex.putc x v a c) (Ex.putc x v b (c || decide (x ∈ [y])))
  | .ite i a b, c => .ite (Ex.putc x v i c) (Ex.putc x v a c) (Ex.putc x v b c)
  | .op o a b, c => .op o (Ex.putc x v a c) (Ex.putc x v b c)
  | .ext l a r, c => .ext l (Ex.putc x v a c) (Ex.putc x v r c)
  | .sel l r, c => .sel l (Ex.putc x v r c)
  | .drp l r, c => .drp l (Ex.putc x v r c)
  | e, _ => e
def putP' (x : Str) (v : Ex) (p : Ex × Bool) : Ex := Ex.putc x v p.1 p.2
theorem put_step (x : Str) (v : Ex) (n : Ex) (c : Bool) (h : ∀ y, n = .nam y → ¬(y = x ∧ c = false)) : n.withK ((kidsC x (n, c)).map (putP' x v)) = Ex.putc x v n c := by
  cases n with
  | nam y => simp only [Ex.putc, if_neg (h y rfl)]; rfl
  | _ => simp [kidsC, Ex.kids, Ex.br, Ex.withK, Ex.putc, putP']
theorem kidsC_len (x : Str) (p : Ex × Bool) : (kidsC x p).length = p.1.kids.length := by
  rw [kidsC, List.length_map, List.length_zip, p.1.br_len, Nat.min_self]
def t_put_in : TTS :=
  (tseq (tasg (tlst tanil) (gname 3))
  (tseq (tfor (irev (tcall sp__covered_nodes (tacons (tvar 0) (tacons (tvar 1) tanil)))) (gtup 2 (gcons (gname 4) (gcons (gname 5) gnil)))
  (tseq (tasg (tlc (iany (tcall sp_children (tacons (tvar 4) tanil))) (gname 7) tyes (tmeth mpop (tvar 3) tanil) [7]) (gname 6))
  (tifs (tand (tbool (top veq (top vix (tvar 4) (tcon (.int 0))) (tcon (.str "name")))) (tand (tbool (top veq (top vix (tvar 4) (tcon (.int 1))) (tvar 1))) (tnot (ttruth (tvar 5)))))
  (tdrop (tmeth mappend (tvar 3) (tacons (tvar 2) tanil)))
  (tdrop (tmeth mappend (tvar 3) (tacons (tcall sp_with_children (tacons (tvar 4) (tacons (tvar 6) tanil))) tanil))))))
  (tret (tmeth mpop (tvar 3) tanil))))

def sp_put_in : TSp := fun ts G R => ∃ (e : Ex) (x : Str) (v : Ex), ts = [e.enc, .str x, v.enc] ∧ e.size ≤ sizeLine ∧ R (Ex.putc x v e false).enc G
theorem pure_put_in (ts : List T) (G : GH) (R : TK) (h : sp_put_in ts G R) : t_put_in { nx := fun _ G' => WkR R .non G', rt := WkR R } (startT ["expression", "name", "given", "built", "node", "covered", "inner", "_"] ts) G := by
  obtain ⟨e, x, v, rfl, hl, h⟩ := h
  unfold t_put_in
  walk_at "tl"
  intro p hp
  refine ⟨e, x, rfl, hl, fun a ha0 => ?_⟩
  obtain ⟨hap, ha⟩ := ne_none ha0
  walk_at "tl"
  refine cast (congrArg (fun l => forGo _ _ _ _ l _ _) (List.map_reverse (f := encC) (l := e.cov x false))) ?_
  have z : (10 : Nat) ≤ sizeLine := by decide
  have main := preG_loop (kids := kidsC x) (pre := covP x) (covP_eq x) (P := fun S xs => S.length + xs.length ≤ e.size → forGo (fun G' => G' a = some (.lst ((e.cov x false).map encC))) (gtup 2 (gcons (gname 4) (gcons (gname 5) gnil)))
      (tseq (tasg (tlc (iany (tcall sp_children (tacons (tvar 4) tanil))) (gname 7) tyes (tmeth mpop (tvar 3) tanil) [7]) (gname 6))
  (tifs (tand (tbool (top veq (top vix (tvar 4) (tcon (.int 0))) (tcon (.str "name")))) (tand (tbool (top veq (top vix (tvar 4) (tcon (.int 1))) (tvar 1))) (tnot (ttruth (tvar 5)))))
  (tdrop (tmeth mappend (tvar 3) (tacons (tvar 2) tanil)))
  (tdrop (tmeth mappend (tvar 3) (tacons (tcall sp_with_children (tacons (tvar 4) (tacons (tvar 6) tanil))) tanil)))))
      { nx := tret (tmeth mpop (tvar 3) tanil) { nx := fun x G' => WkR R T.non G', rt := WkR R }, rt := WkR R } (xs.map encC) [some e.enc, some (.str x), some v.enc, some (.ref p), none, none, none, none] (gupd (gupd G p (.lst (S.map Ex.enc))) a (.lst ((e.cov x false).map encC)))) (putP' x v) (e, false) ?_ [] [] ?_ ?_
  · simpa [covP] using main
  · rintro ⟨n, c⟩ S rest hu hP hlen
    refine ⟨gupd_same, ?_⟩
    simp only [encC]
    walk_at "tl"
    refine ⟨n, rfl, ?_⟩
    walk_at "tl"
    intro D hD0
    obtain ⟨hDa, hD⟩ := ne_none hD0
    obtain ⟨hDp, hD⟩ := ne_none hD
    have hk3 := n.kids_le
    have hkl : (kidsC x (n, c)).map (·.1) = n.kids := by
      rw [kidsC, List.map_map]
      exact List.map_fst_zip (by rw [n.br_len]; exact Nat.le_refl _)
    rw [← hkl, List.map_map]
    refine lc_inv (α := Ex × Bool) (fun q => q.1.enc) (fun ys acc G' => ∃ zs, kidsC x (n, c) = zs ++ ys ∧ acc = zs.map (fun q => (putP' x v q).enc) ∧ G' = gupd (gupd (gupd G p (.lst ((S ++ (ys.map (putP' x v)).reverse).map Ex.enc))) a (.lst ((e.cov x false).map encC))) D (.lst acc)) ?_ ?_ (kidsC x (n, c)) [] _ ⟨[], rfl, rfl, rfl⟩
    · rintro q ys acc G' N hN ⟨zs, hz, rfl, rfl⟩
      have hzl := congrArg List.length hz
      rw [kidsC_len] at hzl
      simp only [List.length_append, List.length_cons] at hzl
      refine ⟨trivial, ?_⟩
      walk_at "tl"
      refine ⟨⟨_, by rw [gupd_ne (Ne.symm hDp), g2_p hap]⟩, pop_mk (t := (putP' x v q).enc) (ys := (S ++ (ys.map (putP' x v)).reverse).map Ex.enc) (by rw [gupd_ne (Ne.symm hDp), g2_p hap]; simp) ?_⟩
      refine ⟨zs.map (fun q => (putP' x v q).enc), by rw [gupd_ne hDp, gupd_same], by rw [List.length_map]; omega, hN (zs.map (fun q => (putP' x v q).enc) ++ [(putP' x v q).enc]) _ (.of ⟨zs ++ [q], by simpa using hz, by simp, ?_⟩)⟩
      rw [gupd_comm hDp, g2_setp hap, gupd_gupd]
    · rintro acc G' ⟨zs, hz, rfl, rfl⟩
      rw [List.append_nil] at hz
      subst hz
      refine ⟨trivial, ?_⟩
      simp only [List.map_nil, List.reverse_nil, List.append_nil]
      generalize hG : gupd (gupd (gupd G p (.lst (S.map Ex.enc))) a (.lst ((e.cov x false).map encC))) D (.lst ((kidsC x (n, c)).map fun q => (putP' x v q).enc)) = G2
      have hp2 : G2 p = some (.lst (S.map Ex.enc)) := by rw [← hG, gupd_ne (Ne.symm hDp), g2_p hap]
      have hSl : S.length < sizeLine := by simp at hlen; omega
      have hD2 : G2 D = some (.lst (((kidsC x (n, c)).map (putP' x v)).map Ex.enc)) := by rw [← hG, gupd_same, List.map_map]; rfl
      have sb : ∀ w : Ex, Sub (gupd (gupd G p (.lst ((S ++ [w]).map Ex.enc))) a (.lst ((e.cov x false).map encC))) (gupd G2 p (.lst (S.map Ex.enc ++ [w.enc]))) := by
        intro w
        rw [← hG, gupd_comm hDp, g2_setp hap, List.map_append]
        exact Sub.gupd (by rw [gupd_ne hDa, gupd_ne hDp]; exact hD)
      have tailA : (∀ y, n = .nam y → ¬(y = x ∧ c = false)) → ∀ NX : GH → Prop, NX (gupd G2 p (.lst (S.map Ex.enc ++ [(putP' x v (n, c)).enc]))) → (∃ xs, G2 p = some (.lst xs)) ∧ sp_with_children [n.enc, .ref D] G2 fun x G1 => ∃ ys, G1 p = some (.lst ys) ∧ ys.length < sizeLine ∧ NX (gupd G1 p (.lst (ys ++ [x]))) := by
        intro hn NX q
        refine ⟨⟨_, hp2⟩, n, _, D, rfl, hD2, by rw [List.length_map, kidsC_len], S.map Ex.enc, hp2, by rw [List.length_map]; exact hSl, ?_⟩
        rw [put_step x v n c hn]
        exact q
      have fin : ∀ st : TSt, st.length = 8 → Less [some e.enc, some (.str x), some v.enc, some (.ref p), none, none, none, none] st → Wk (forGo (fun G' => G' a = some (.lst ((e.cov x false).map encC))) _ _ _ (rest.map encC)) st (gupd G2 p (.lst (S.map Ex.enc ++ [(putP' x v (n, c)).enc]))) := fun st _ l => .mk (hP (by simp at hlen ⊢; omega)) l (sb _)
      cases n with
      | nam y =>
        simp only [Ex.enc] at tailA ⊢
        have L : Less [some e.enc, some (.str x), some v.enc, some (.ref p), none, none, none, none] [some e.enc, some (.str x), some v.enc, some (.ref p), some (.tup [.str "name", .str y]), some (.bl c), some (.ref D), none] := .same (.same (.same (.same (.none (.none (.none (.none .nil)))))))
        by_cases hy : y = x
        · cases c with
          | true =>
            have tailA := tailA (by rintro y h ⟨_, h2⟩; cases h2) _ (fin _ rfl L)
            rw [hy] at tailA ⊢
            walk_at "tl"
            exact tailA
          | false =>
            have fin := fin _ rfl L
            have ev : putP' x v (.nam y, false) = v := by simp [putP', Ex.putc, hy]
            rw [ev] at fin
            rw [hy] at fin ⊢
            walk_at "tl"
            exact ⟨⟨_, hp2⟩, _, hp2, by rw [List.length_map]; exact hSl, fin⟩
        · have tailA := tailA (by rintro z h ⟨h2, _⟩; cases h; exact hy h2) _ (fin _ rfl L)
          walk_at "tl"
          simp only [hy, decide_false, Bool.false_eq_true, if_false]
          exact tailA
      | _ =>
        have tailA := tailA (by intro y h; cases h)
        simp only [Ex.enc] at tailA ⊢
        walk_at "tl"
        refine tailA _ (fin _ rfl (.same (.same (.same (.same (.none (.none (.none (.none .nil)))))))))
  · intro _
    refine ⟨gupd_same, ?_⟩
    walk_at "tl"
    refine ⟨⟨_, g2_p hap⟩, pop_mk (t := (putP' x v (e, false)).enc) (ys := []) (by rw [g2_p hap]; rfl) ?_⟩
    rw [g2_setp hap]
    exact ⟨_, (Sub.gupd hp).trans (Sub.gupd (by rw [gupd_ne hap]; exact ha)), h⟩
  · simp [covP, Ex.cov_len]
end TL

namespace TL
open PySem PySem.Spec PyProof.Rows L2
local macro_rules | `(tactic| walk_at "tl") => `(tactic| try simp +decide only [tseq, tasg, tifs, tbool, tret, tretN, tdrop, tnext, tcont, tbreak, gname, gtup_tup, gcons_cons, gnil_nil, GO.lst.injEq, GO.dK.injEq, top, tvar, tcon, tun, ttup, tlst, tacons, tanil, tcb, tcall, tife, tand, tor, tnot, tandV, torV, tnotV, tisN, tnotN, T.isNon, ttruth, truth_bl, truth_non, truth_int, truth_tup, truth_fl, tsl, tpart, tnopart, tsortk, tlc, tfor, iany, irev, irange1_eq, irange2_eq, items_tup, items_fl, items_ref, twipe, List.set, izip_eq, tput_eq, vlist_tup, tmeth, isL, mappend_ref, mextend_tup, trev, exists_eq, exists_eq', 
  vix_tup, vix_fl, veq_str, vne_str, veq_int, vne_int, vcmp_int, vadd_int, vaddI_int, vadd_tup, vadd_str, vsub_int, vI_int, vlen_tup, vlen_fl, vlen_str, vtuple_tup, vtuple_ref, vint_int, vsl_tup, cut_from1, atI0, atI1, atI2, atI3, taug,
  startT, List.map_cons, List.map_nil, List.length_cons, List.length_nil, List.cons_append, List.nil_append, List.getElem?_cons_zero, List.getElem?_cons_succ, List.set_cons_zero, List.set_cons_succ, List.replicate, Option.some.injEq, exists_eq_left', exists_eq_left, T.bl.injEq, T.int.injEq, T.str.injEq, T.tup.injEq, T.ref.injEq, if_true, if_false, ite_true, ite_false, true_and, and_true, reduceCtorEq, gupd_same, gupd_gupd, Option.map_some, Option.map_none, Option.isSome_some, Option.isSome_none, Bool.not_true, Bool.not_false, Bool.true_eq_false, Bool.false_eq_true, List.cons.injEq, decide_true, decide_false])
/-- names, each once, in the order of their coming -/
def ins (xs : List Str) (y : Str) : List Str := if y ∈ xs then xs else xs ++ [y]
def onceS (ys : List Str) : List Str := ys.foldl ins []
def encD (xs : List Str) : List (Key × T) := xs.map fun x => (.inr x, .bl true)
theorem put_encD (xs : List Str) (y : Str) : putT (encD xs) (.inr y) (.bl true) = encD (ins xs y) := by
  have ha : ((encD xs).any fun kv => decide (kv.1 = (Sum.inr y : Key))) = decide (y ∈ xs) := by
    induction xs with
    | nil => rfl
    | cons x r ih =>
      unfold encD at ih ⊢
      rw [List.map_cons, List.any_cons, ih]
      by_cases h : x = y
      · subst h; simp
      · have : ¬ (Sum.inr x : Key) = Sum.inr y := fun z => h (Sum.inr.inj z)
        simp [h, this, Ne.symm h]
  unfold putT ins
  rw [ha]
  by_cases h : y ∈ xs
  · rw [if_pos (decide_eq_true h), if_pos h]
    unfold encD
    rw [List.map_map]
    refine List.map_congr_left fun x _ => ?_
    show (if (Sum.inr x : Key) = Sum.inr y then ((Sum.inr x : Key), T.bl true) else (Sum.inr x, .bl true)) = _
    split <;> rfl
  · rw [if_neg (by simpa using h), if_neg h]
    unfold encD
    rw [List.map_append]; rfl
theorem ins_len (xs : List Str) (y : Str) : (ins xs y).length ≤ xs.length + 1 := by unfold ins; split <;> simp
def kidsF (p : Ex × List Str) : List (Ex × List Str) := (p.1.kids.zip p.1.br).map fun q => (q.1, p.2 ++ q.2)
def Ex.free : Ex → List Str → List Str
  | .nam y, r => if y ∈ r then [] else [y]
  | .fn y b, r => b.free (r ++ [y])
  | .rc f y b, r => b.free (r ++ [f, y])
  | .app f a, r => f.free r ++ a.free r
  | .lt y a b, r => a.free r ++ b.free (r ++ [y])
  | .ite i a b, r => i.free r ++ (a.free r ++ b.free r)
  | .op _ a b, r => a.free r ++ b.free r
  | .ext _ a b, r => a.free r ++ b.free r
  | .sel _ a, r => a.free r
  | .drp _ a, r => a.free r
  | _, _ => []
def freeP (p : Ex × List Str) : List Str := p.1.free p.2
def ownF : Ex × List Str → List Str
  | (.nam y, r) => if y ∈ r then [] else [y]
  | _ => []
theorem freeP_eq (p : Ex × List Str) : freeP p = ownF p ++ (kidsF p).flatMap freeP := by
  obtain ⟨e, r⟩ := p
  cases e <;> simp [freeP, ownF, kidsF, Ex.free, Ex.kids, Ex.br]
def encF (p : Ex × List Str) : T := .tup [p.1.enc, encN p.2]
def szs (W : List (Ex × List Str)) : Nat := (W.map fun p => p.1.size).sum
theorem szs_app (a b : List (Ex × List Str)) : szs (a ++ b) = szs a + szs b := by simp [szs]
theorem szs_rev (a : List (Ex × List Str)) : szs a.reverse = szs a := by unfold szs; rw [List.map_reverse]; exact List.sum_reverse _
theorem szs_len (W : List (Ex × List Str)) : W.length ≤ szs W := by
  induction W with
  | nil => simp
  | cons p r ih => have := p.1.size_pos; rw [← List.singleton_append, szs_app]; simp [szs] at ih ⊢; omega
theorem szs_kids (p : Ex × List Str) : szs (kidsF p) + 1 = p.1.size := by
  obtain ⟨e, r⟩ := p
  cases e <;> simp [szs, kidsF, Ex.kids, Ex.br, Ex.size] <;> omega
theorem kidsF_rs (p : Ex × List Str) (b : Nat) (h : p.2.length + 2 * p.1.size ≤ b) : ∀ q ∈ kidsF p, q.2.length + 2 * q.1.size ≤ b := by
  obtain ⟨e, r⟩ := p
  cases e <;> simp only [kidsF, Ex.kids, Ex.br, Ex.size, List.map_cons, List.map_nil, List.zip_cons_cons, List.zip_nil_left, List.mem_cons, List.not_mem_nil, or_false, false_imp_iff, forall_eq_or_imp, forall_eq, implies_true, List.length_append, List.length_cons, List.length_nil] at h ⊢ <;> (try omega)
theorem br_le (e : Ex) : ∀ ns ∈ e.br, ns.length ≤ 2 := by
  cases e <;> simp [Ex.br, Ex.kids]
def t_free_names_r1 : TTS :=
  (tseq (tasg (tlc (izip (tacons (tcall sp_children (tacons (tvar 3) tanil)) (tacons (tcall sp_brought_names (tacons (tvar 3) tanil)) tanil))) (gtup 2 (gcons (gname 6) (gcons (gname 7) gnil))) tyes (ttup (tacons (tvar 6) (tacons (top vadd (tvar 4) (tvar 7)) tanil))) [6, 7]) (gname 5))
  (tdrop (tmeth mextend (tvar 2) (tacons (trev (tvar 5)) tanil))))
def t_free_names : TTS :=
  (tseq (tasg tdnew (gname 1))
  (tseq (tasg (tlst (tacons (ttup (tacons (tvar 0) (tacons (ttup tanil) tanil))) tanil)) (gname 2))
  (tseq (twhile (ttruth (tvar 2))
  (tseq (tasg (tmeth mpop (tvar 2) tanil) (gtup 2 (gcons (gname 3) (gcons (gname 4) gnil))))
  (tseq (tifs (tand (tbool (top veq (top vix (tvar 3) (tcon (.int 0))) (tcon (.str "name")))) (tbool (top (vin true) (top vix (tvar 3) (tcon (.int 1))) (tvar 4))))
  (tput (tvar 1) (top vix (tvar 3) (tcon (.int 1))) (tcon (.bl true)))
  tnext)
  t_free_names_r1)))
  (tret (tcb vlist (tacons (tvar 1) tanil))))))

def sp_free_names : TSp := fun ts G R => ∃ e : Ex, ts = [e.enc] ∧ 2 * e.size ≤ sizeLine ∧ ∀ p, G p = none → R (.ref p) (gupd G p (.lst ((onceS (e.free [])).map T.str)))
theorem pure_free_names (ts : List T) (G : GH) (R : TK) (h : sp_free_names ts G R) : t_free_names { nx := fun _ G' => WkR R .non G', rt := WkR R } (startT ["expression", "found", "waiting", "node", "reach", "inner", "child", "names"] ts) G := by
  obtain ⟨e, rfl, hl, h⟩ := h
  unfold t_free_names tdnew
  walk_at "tl"
  intro p hp
  walk_at "tl"
  intro q hq0
  obtain ⟨hqp, hq⟩ := ne_none hq0
  refine ⟨fun m st G' => ∃ (F : List Str) (W : List (Ex × List Str)), st = [some e.enc, some (.ref p), some (.ref q), none, none, none, none, none] ∧ G' = gupd (gupd G p (.dK (encD F))) q (.lst (W.map encF)) ∧ (W.reverse.flatMap freeP).foldl ins F = onceS (e.free []) ∧ m = szs W ∧ F.length + szs W ≤ e.size ∧ ∀ r ∈ W, r.2.length + 2 * r.1.size ≤ 2 * e.size, ⟨_, [], [(e, [])], rfl, rfl, by simp [freeP, onceS], rfl, by simp [szs], by simp⟩, ?_⟩
  rintro m st G' ⟨F, W, rfl, rfl, hF, rfl, hz, hr⟩
  walk_at "tl"
  refine ⟨_, truth_ref gupd_same rfl, ?_⟩
  rcases List.eq_nil_or_concat W with rfl | ⟨W', u, rfl⟩
  · walk_at "tl"
    have eF : F = onceS (e.free []) := by simpa using hF
    subst eF
    refine list_dK (kvs := encD _) (by rw [g2_p hqp]) fun l hl => ?_
    have em : ((encD (onceS (e.free []))).map fun kv => kT kv.1) = (onceS (e.free [])).map T.str := by
      unfold encD; rw [List.map_map]; rfl
    rw [em]
    obtain ⟨hlq, hl1⟩ := ne_none hl
    obtain ⟨hlp, hl2⟩ := ne_none hl1
    refine ⟨_, ?_, h l hl2⟩
    rw [gupd_comm (Ne.symm hlq), gupd_comm (Ne.symm hlp)]
    refine (Sub.gupd ?_).trans (Sub.gupd ?_)
    · rw [gupd_ne (Ne.symm hlp)]; exact hp
    · rw [gupd_ne hqp, gupd_ne (Ne.symm hlq)]; exact hq
  · rw [List.concat_eq_append] at *
    have hu := hr u (by simp)
    have hr' : ∀ r ∈ W', r.2.length + 2 * r.1.size ≤ 2 * e.size := fun r h => hr r (by simp [h])
    have hk : (W' ++ [u]).reverse.flatMap freeP = ownF u ++ ((kidsF u).flatMap freeP ++ W'.reverse.flatMap freeP) := by
      simp only [List.reverse_append, List.reverse_cons, List.reverse_nil, List.nil_append, List.cons_append, List.flatMap_cons]
      rw [freeP_eq, List.append_assoc]
    have hsu : szs [u] = u.1.size := by simp [szs]
    have hsk := szs_kids u
    have hsl := szs_len W'
    have hkl := szs_len (kidsF u)
    rw [szs_app, hsu] at hz
    have e1 : (!(List.map encF (W' ++ [u])).isEmpty) = true := by simp
    rw [e1]
    walk_at "tl"
    refine pop_mk (t := encF u) (ys := W'.map encF) (by rw [gupd_same, List.map_append]; rfl) ?_
    rw [g2_setq]
    obtain ⟨n, r⟩ := u
    have key : ∀ F' : List Str, F' = (ownF (n, r)).foldl ins F → t_free_names_r1 { nx := fun st' G' => ∃ m', m' < szs (W' ++ [(n, r)]) ∧ Wk (fun st G' => ∃ (F : List Str) (W : List (Ex × List Str)), st = [some e.enc, some (.ref p), some (.ref q), none, none, none, none, none] ∧ G' = gupd (gupd G p (.dK (encD F))) q (.lst (W.map encF)) ∧ (W.reverse.flatMap freeP).foldl ins F = onceS (e.free []) ∧ m' = szs W ∧ F.length + szs W ≤ e.size ∧ ∀ r ∈ W, r.2.length + 2 * r.1.size ≤ 2 * e.size) st' G', rt := WkR R, ct := fun st' G' => ∃ m', m' < szs (W' ++ [(n, r)]) ∧ Wk (fun st G' => ∃ (F : List Str) (W : List (Ex × List Str)), st = [some e.enc, some (.ref p), some (.ref q), none, none, none, none, none] ∧ G' = gupd (gupd G p (.dK (encD F))) q (.lst (W.map encF)) ∧ (W.reverse.flatMap freeP).foldl ins F = onceS (e.free []) ∧ m' = szs W ∧ F.length + szs W ≤ e.size ∧ ∀ r ∈ W, r.2.length + 2 * r.1.size ≤ 2 * e.size) st' G', bk := tret (tcb vlist (tacons (tvar 1) tanil)) { nx := fun _ G' => WkR R .non G', rt := WkR R } }
        [some e.enc, some (.ref p), some (.ref q), some n.enc, some (encN r), none, none, none] (gupd (gupd G p (.dK (encD F'))) q (.lst (W'.map encF))) := by
      intro F' hF'
      unfold t_free_names_r1
      walk_at "tl"
      refine ⟨n, rfl, ?_⟩
      walk_at "tl"
      refine ⟨n, rfl, ?_⟩
      walk_at "tl"
      refine zipP_mk (.tup _) (.tup _) fun D hD => ?_
      rw [zip_kids]
      have z : (10 : Nat) ≤ sizeLine := by decide
      have hz2 : (n.kids.zip n.br).length ≤ sizeLine := by
        have := n.kids_le
        rw [List.length_zip]; omega
      refine lc_map (α := Ex × List Str) _ (fun o => encF (o.1, r ++ o.2)) (n.kids.zip n.br) (fun _ => ⟨trivial, trivial⟩) hz2 (fun o ho acc N hN => ?_) ?_
      · simp only [encN]
        walk_at "tl"
        have hb := br_le n o.2 (List.of_mem_zip ho).2
        have := n.size_pos
        simp only at hu
        refine ⟨by rw [List.length_map, List.length_map]; omega, ?_⟩
        rw [← List.map_append]
        exact hN
      · walk_at "tl"
        obtain ⟨hDq, hD1⟩ := ne_none hD
        obtain ⟨hDp, hD2⟩ := ne_none hD1
        have em : List.map (fun o : Ex × List Str => encF (o.1, r ++ o.2)) (n.kids.zip n.br) = (kidsF (n, r)).map encF := by
          rw [kidsF, List.map_map]; rfl
        rw [em]
        refine ⟨⟨_, by rw [gupd_ne (Ne.symm hDq), gupd_same]⟩, fun l hl0 => ?_⟩
        obtain ⟨hlD, hl1⟩ := ne_none hl0
        obtain ⟨hlq, hl2⟩ := ne_none hl1
        obtain ⟨hlp, hl3⟩ := ne_none hl2
        refine ⟨q, W'.map encF, _, rfl, .inr ⟨l, rfl, gupd_same⟩, by rw [gupd_ne (Ne.symm hlq), gupd_ne (Ne.symm hDq), gupd_same], ?_, ?_⟩
        · rw [List.length_reverse, List.length_map, List.length_map]; omega
        rw [gupd_comm hlq, gupd_comm hDq, gupd_gupd]
        have hown : (ownF (n, r)).length ≤ 1 := by
          unfold ownF
          split
          · split <;> simp
          · simp
        have hFl : F'.length ≤ F.length + 1 := by
          rw [hF']
          match ownF (n, r), hown with
          | [], _ => simp
          | [y], _ => exact ins_len F y
        refine ⟨szs (W' ++ (kidsF (n, r)).reverse), by rw [szs_app, szs_app, szs_rev, hsu]; simp only at hsk ⊢; omega, .mk ⟨F', W' ++ (kidsF (n, r)).reverse, rfl, ?_, ?_, rfl, ?_, ?_⟩ (.same (.same (.same (.none (.none (.none (.none (.none .nil)))))))) (.trans (.gupd ?_) (.gupd ?_))⟩
        · rw [List.map_append, List.map_reverse]
        · rw [hk, List.foldl_append, ← hF'] at hF
          rw [← hF]
          simp
        · rw [szs_app, szs_rev]; simp only at hsk hz; omega
        · intro o ho
          rcases List.mem_append.mp ho with ho | ho
          · exact hr' o ho
          · exact kidsF_rs (n, r) _ hu o (List.mem_reverse.mp ho)
        · rw [gupd_ne hDq]; exact hD1
        · rw [gupd_ne hlD, gupd_ne hlq]; exact hl2
    simp only [encF]
    cases n with
    | nam y =>
      simp only [Ex.enc] at key ⊢
      walk_at "tl"
      refine vin_strs ?_
      by_cases hy : y ∈ r
      · have e2 : (!decide (y ∈ r)) = false := by simp [hy]
        simp only [if_true, e2]
        walk_at "tl"
        exact key F (by simp [ownF, hy])
      · have e2 : (!decide (y ∈ r)) = true := by simp [hy]
        simp only [if_true, e2]
        walk_at "tl"
        refine put_dK (k := .inr y) (g2_p hqp) rfl ?_ ?_
        · unfold encD; rw [List.length_map]; simp only [Ex.size] at hz; omega
        · rw [g2_setp hqp, put_encD]
          exact key _ (by simp [ownF, hy])
    | _ =>
      simp only [Ex.enc] at key ⊢
      walk_at "tl"
      exact key F (by simp [ownF])
end TL

namespace TL
open PySem PySem.Spec PyProof.Rows L2
local macro_rules | `(tactic| walk_at "tl") => `(tactic| try simp +decide only [tseq, tasg, tifs, tbool, tret, tretN, tdrop, tnext, tcont, tbreak, gname, gtup_tup, gcons_cons, gnil_nil, GO.lst.injEq, GO.dK.injEq, top, tvar, tcon, tun, ttup, tlst, tacons, tanil, tcb, tcall, tife, tand, tor, tnot, tandV, torV, tnotV, tisN, tnotN, T.isNon, ttruth, truth_bl, truth_non, truth_int, truth_tup, truth_fl, tsl, tpart, tnopart, tsortk, tlc, tfor, iany, irev, irange1_eq, irange2_eq, items_tup, items_fl, items_ref, twipe, List.set, izip_eq, tput_eq, vlist_tup, tmeth, isL, mappend_ref, mextend_tup, trev, exists_eq, exists_eq', 
  vix_tup, vix_fl, veq_str, vne_str, veq_int, vne_int, vcmp_int, vadd_int, vaddI_int, vadd_tup, vadd_str, vsub_int, vI_int, vlen_tup, vlen_fl, vlen_str, vtuple_tup, vtuple_ref, vint_int, vsl_tup, cut_from1, atI0, atI1, atI2, atI3, taug,
  startT, List.map_cons, List.map_nil, List.length_cons, List.length_nil, List.cons_append, List.nil_append, List.getElem?_cons_zero, List.getElem?_cons_succ, List.set_cons_zero, List.set_cons_succ, List.replicate, Option.some.injEq, exists_eq_left', exists_eq_left, T.bl.injEq, T.int.injEq, T.str.injEq, T.tup.injEq, T.ref.injEq, if_true, if_false, ite_true, ite_false, true_and, and_true, reduceCtorEq, gupd_same, gupd_gupd, Option.map_some, Option.map_none, Option.isSome_some, Option.isSome_none, Bool.not_true, Bool.not_false, Bool.true_eq_false, Bool.false_eq_true, List.cons.injEq, decide_true, decide_false])
def t__law_same : TTS :=
  (tret (top veq (tcb vrepr (tacons (tvar 0) tanil)) (tcb vrepr (tacons (tvar 1) tanil))))

def sp__law_same : TSp := fun ts G R => ∃ x y d d', ts = [x, y] ∧ Dat G x d ∧ Shw d ∧ Dat G y d' ∧ Shw d' ∧ R (.bl (decide (d.shown = d'.shown))) G
theorem pure__law_same (ts : List T) (G : GH) (R : TK) (h : sp__law_same ts G R) : t__law_same { nx := fun _ G' => WkR R .non G', rt := WkR R } (startT ["actual", "due"] ts) G := by
  obtain ⟨x, y, d, d', rfl, hx, sx, hy, sy, h⟩ := h
  unfold t__law_same
  walk_at "tl"
  refine ⟨d, hx, sx, d', hy, sy, ?_⟩
  walk_at "tl"
  exact .of h
def t__law_pick : TTS :=
  (tret (top vix (tvar 1) (top (vI (fun _ j => 0 < j) (· % ·)) (tcb vint (tacons (tcall sp__law_draw (tacons (tvar 0) (tacons (tcon (.int 90)) tanil))) tanil)) (tcb vlen (tacons (tvar 1) tanil)))))

def sp__law_pick : TSp := fun ts G R => ∃ (b p l : Addr) (xs : List T), ts = [.ref b, .ref l] ∧ HB b p G ∧ G l = some (.lst xs) ∧ l ≠ b ∧ xs ≠ [] ∧ ∀ t ∈ xs, ∀ i, R t (bx b p i G)
theorem pure__law_pick (ts : List T) (G : GH) (R : TK) (h : sp__law_pick ts G R) : t__law_pick { nx := fun _ G' => WkR R .non G', rt := WkR R } (startT ["box", "rows"] ts) G := by
  obtain ⟨b, p, l, xs, rfl, hb, hl, hne, hx, h⟩ := h
  unfold t__law_pick
  walk_at "tl"
  refine ⟨b, p, 90, rfl, by decide, hb, fun r i h0 h1 => ?_⟩
  walk_at "tl"
  have hl2 : bx b p i G l = some (.lst xs) := by unfold bx; rw [gupd_ne hne]; exact hl
  have pos : 0 < xs.length := List.length_pos_iff.mpr hx
  refine .inl ⟨xs, hl2, ?_⟩
  walk_at "tl"
  refine ⟨by omega, ?_⟩
  have h2 := Int.emod_nonneg r (b := (xs.length : Int)) (by omega)
  have h3 := Int.emod_lt_of_pos r (b := (xs.length : Int)) (by omega)
  obtain ⟨n, hn⟩ : ∃ n : Nat, r % (xs.length : Int) = n := ⟨(r % (xs.length : Int)).toNat, by omega⟩
  rw [hn]
  have hn2 : n < xs.length := by omega
  exact vix_lst hl2 (atI_lt (List.getElem?_eq_getElem hn2)) (.of (h _ (List.getElem_mem hn2) i))
def t__law_once : TTS :=
  (tseq (tasg (tlst tanil) (gname 1))
  (tseq (tfor (iany (tvar 0)) (gname 2)
  (tifs (tbool (top (vin true) (tvar 2) (tvar 1)))
  (tdrop (tmeth mappend (tvar 1) (tacons (tvar 2) tanil)))
  tnext))
  (tret (tvar 1))))

def sp__law_once : TSp := fun ts G R => ∃ (p : Addr) (xs : List Str), ts = [.ref p] ∧ G p = some (.lst (xs.map T.str)) ∧ xs.length ≤ sizeLine ∧ ∀ q, G q = none → R (.ref q) (gupd G q (.lst ((onceS xs).map T.str)))
theorem pure__law_once (ts : List T) (G : GH) (R : TK) (h : sp__law_once ts G R) : t__law_once { nx := fun _ G' => WkR R .non G', rt := WkR R } (startT ["names", "found", "name"] ts) G := by
  obtain ⟨p, xs, rfl, hp, hl, h⟩ := h
  unfold t__law_once
  walk_at "tl"
  intro q hq
  have hqp : p ≠ q := fun z => by rw [z, hq] at hp; cases hp
  refine ⟨_, by rw [gupd_ne hqp]; exact hp, ?_⟩
  refine for_inv (α := Str) T.str (fun ys st G' => ∃ F, st = [some (.ref p), some (.ref q), none] ∧ G' = gupd G q (.lst (F.map T.str)) ∧ ys.foldl ins F = onceS xs ∧ F.length + ys.length ≤ xs.length) ?_ ?_ xs _ _ ⟨[], rfl, rfl, rfl, by simp⟩
  · rintro y ys st G' N hN ⟨F, rfl, rfl, hF, hlen⟩
    simp only [List.length_cons] at hlen
    refine ⟨by rw [gupd_ne hqp]; exact hp, ?_⟩
    walk_at "tl"
    refine vin_strsL gupd_same ?_
    by_cases hy : y ∈ F
    · have e2 : (!decide (y ∈ F)) = false := by simp [hy]
      simp only [if_true, e2]
      walk_at "tl"
      refine hN _ _ (.mk ⟨F, rfl, rfl, ?_, by omega⟩ (.same (.same (.none .nil))) .refl)
      rw [← hF, List.foldl_cons, ins, if_pos hy]
    · have e2 : (!decide (y ∈ F)) = true := by simp [hy]
      simp only [if_true, e2]
      walk_at "tl"
      refine ⟨by rw [List.length_map]; omega, ?_⟩
      refine hN _ _ (.mk ⟨F ++ [y], rfl, by rw [List.map_append]; rfl, ?_, by simp; omega⟩ (.same (.same (.none .nil))) .refl)
      rw [← hF, List.foldl_cons, ins, if_neg hy]
  · rintro st G' ⟨F, rfl, rfl, hF, hlen⟩
    refine ⟨by rw [gupd_ne hqp]; exact hp, ?_⟩
    walk_at "tl"
    have : F = onceS xs := by simpa using hF
    subst this
    exact .of (h q hq)
def t__law_children : TTS :=
  (tret (tlc (iany (tsl (tvar 0) (tpart (tcon (.int 1))) tnopart)) (gname 1) (ttruth (tcb vistup (tacons (tvar 1) (tacons (tcon (.ty "tuple")) tanil)))) (tvar 1) [1]))

theorem enc_isTup (e : Ex) : e.enc.isTup = some true := by cases e <;> rfl
theorem cut1 {xs : List T} : ∀ e : Ex, e.enc = .tup xs → cutT xs (some 1) none = xs.tail := by
  intro e h
  rw [e.enc_eq] at h
  cases h
  cases e <;> exact cut_from1
def sp__law_children : TSp := fun ts G R => ∃ e : Ex, ts = [e.enc] ∧ ∀ q, G q = none → R (.ref q) (gupd G q (.lst (e.kids.map Ex.enc)))
theorem isTup_str (x : Str) : (T.str x).isTup = some false := rfl
theorem isTup_int (i : Int) : (T.int i).isTup = some false := rfl
theorem isTup_bl (b : Bool) : (T.bl b).isTup = some false := rfl
theorem tail_tups (e : Ex) : (e.hd ++ e.kids.map Ex.enc).tail.filter (fun x => x.isTup == some true) = e.kids.map Ex.enc := by
  cases e <;> simp [Ex.hd, Ex.kids, enc_isTup, isTup_str, isTup_int, isTup_bl]
theorem tail_all (e : Ex) : ∀ x ∈ (e.hd ++ e.kids.map Ex.enc).tail, ∃ c, x.isTup = some c := by
  cases e <;> simp [Ex.hd, Ex.kids, enc_isTup, isTup_str, isTup_int, isTup_bl]
theorem pure__law_children (ts : List T) (G : GH) (R : TK) (h : sp__law_children ts G R) : t__law_children { nx := fun _ G' => WkR R .non G', rt := WkR R } (startT ["row", "part"] ts) G := by
  obtain ⟨e, rfl, h⟩ := h
  have z : (10 : Nat) ≤ sizeLine := by decide
  have hh := e.hd_le
  have hk := e.kids_le
  unfold t__law_children
  walk_at "tl"
  rw [e.enc_eq, vsl_tup, cut1 e e.enc_eq, items_tup]
  intro D hD
  have e0 : ∀ l : List T, forall (P : List T → Prop), P (l.map id) → P l := fun l P h => by rw [List.map_id] at h; exact h
  refine e0 _ (fun l => lcGo _ _ _ _ _ _ _ _ l _) ?_
  refine lc_inv (α := T) id (fun ys acc G' => ∃ zs, (e.hd ++ e.kids.map Ex.enc).tail = zs ++ ys ∧ acc = zs.filter (fun x => x.isTup == some true) ∧ G' = gupd G D (.lst acc)) ?_ ?_ _ [] _ ⟨[], rfl, rfl, rfl⟩
  · rintro y ys acc G' N hN ⟨zs, hz, rfl, rfl⟩
    refine ⟨trivial, ?_⟩
    obtain ⟨c, hc⟩ := tail_all e y (by rw [hz]; simp)
    have hlen := congrArg List.length hz
    simp only [List.length_tail, List.length_append, List.length_map, List.length_cons] at hlen
    have hfl := List.length_filter_le (fun x : T => x.isTup == some true) zs
    walk_at "tl"
    refine ⟨rfl, c, hc, c, rfl, ?_⟩
    cases c with
    | true =>
      walk_at "tl"
      exact ⟨by omega, hN (zs.filter (fun x => x.isTup == some true) ++ [y]) _ (.of ⟨zs ++ [y], by simpa using hz, by simp [hc], rfl⟩)⟩
    | false =>
      walk_at "tl"
      exact hN _ _ (.of ⟨zs ++ [y], by simpa using hz, by simp [hc], rfl⟩)
  · rintro acc G' ⟨zs, hz, rfl, rfl⟩
    rw [List.append_nil] at hz
    subst hz
    refine ⟨trivial, .of ?_⟩
    rw [tail_tups]
    exact h D hD
def t__law_leaf : TTS :=
  (tseq (tifs (tbool (top veq (tvar 1) (tcon (.str "number"))))
  (tret (ttup (tacons (tcon (.str "number")) (tacons (top vix (tlst (tacons (tcall sp__law_draw (tacons (tvar 0) (tacons (tcon (.int 4)) tanil))) (tacons (tcon (.int 999999)) (tacons (tcon (.int 10)) tanil)))) (tcall sp__law_draw (tacons (tvar 0) (tacons (tcon (.int 3)) tanil)))) tanil))))
  tnext)
  (tseq (tifs (tbool (top veq (tvar 1) (tcon (.str "truth"))))
  (tret (ttup (tacons (tcon (.str "truth")) (tacons (top veq (tcall sp__law_draw (tacons (tvar 0) (tacons (tcon (.int 2)) tanil))) (tcon (.int 1))) tanil))))
  tnext)
  (tseq (tifs (tbool (top veq (tvar 1) (tcon (.str "fun"))))
  (tret (ttup (tacons (tcon (.str "fun")) (tacons (tcon (.str "w")) (tacons (ttup (tacons (tcon (.str "name")) (tacons (tcon (.str "w")) tanil))) tanil)))))
  tnext)
  (tret (ttup (tacons (tcon (.str "empty")) tanil))))))

def NMS : List Str := ["k", "r", "f", "q", "n", "i", "w", "g", "x", "y", "z", "free", "+", "-", "<", "==", "aa", "bb"]
def OPS : List Str := ["+", "-", "<", "=="]
theorem ops_nms : ∀ x ∈ OPS, x ∈ NMS := by decide
def Ex.ok : Ex → Prop
  | .num i => 0 ≤ i ∧ i ≤ 999999
  | .tru _ => True
  | .nam x => x ∈ NMS
  | .fn x b => x ∈ NMS ∧ b.ok
  | .rc f x b => f ∈ NMS ∧ x ∈ NMS ∧ b.ok
  | .app f a => f.ok ∧ a.ok
  | .lt x a b => x ∈ NMS ∧ a.ok ∧ b.ok
  | .ite c a b => c.ok ∧ a.ok ∧ b.ok
  | .op o a b => o ∈ OPS ∧ a.ok ∧ b.ok
  | .emp => True
  | .ext l a r => l ∈ NMS ∧ a.ok ∧ r.ok
  | .sel l r => l ∈ NMS ∧ r.ok
  | .drp l r => l ∈ NMS ∧ r.ok
def sp__law_leaf : TSp := fun ts G R => ∃ (b p : Addr) (kind : Str), ts = [.ref b, .str kind] ∧ HB b p G ∧ ∀ (e : Ex) (i : Nat), e.ok → e.size ≤ 2 → R e.enc (bx b p i G)
theorem pure__law_leaf (ts : List T) (G : GH) (R : TK) (h : sp__law_leaf ts G R) : t__law_leaf { nx := fun _ G' => WkR R .non G', rt := WkR R } (startT ["box", "kind"] ts) G := by
  obtain ⟨b, p, kind, rfl, hb, h⟩ := h
  have bx0 : ∃ i, bx b p i G = G := by
    obtain ⟨i, hi⟩ := hb.box
    exact ⟨i, gupd_self hi⟩
  unfold t__law_leaf
  walk_at "tl"
  by_cases h1 : kind = "number"
  · subst h1
    walk_at "tl"
    refine ⟨b, p, 4, rfl, by decide, hb, fun r i r0 r1 => ?_⟩
    walk_at "tl"
    intro l hl
    obtain ⟨hlb, hl2⟩ := bx_none hl
    refine ⟨b, p, 3, rfl, by decide, hb.bx.new hl, fun s j s0 s1 => ?_⟩
    have hl3 : bx b p j (gupd (bx b p i G) l (.lst [.int r, .int 999999, .int 10])) l = some (.lst [.int r, .int 999999, .int 10]) := by
      unfold bx; rw [gupd_ne hlb, gupd_same]
    have fin : ∀ v : Int, 0 ≤ v → v ≤ 999999 → WkR R (.tup [.str "number", .int v]) (bx b p j (gupd (bx b p i G) l (.lst [.int r, .int 999999, .int 10]))) := by
      intro v v0 v1
      rw [bx_swap hlb, bx_bx]
      exact wkR_new (by unfold bx; rw [gupd_ne hlb]; exact hl2) (h (.num v) j ⟨v0, v1⟩ (by simp [Ex.size]))
    have hs : s = 0 ∨ s = 1 ∨ s = 2 := by omega
    rcases hs with rfl | rfl | rfl
    · exact vix_lst hl3 atI0 (fin _ r0 (by omega))
    · exact vix_lst hl3 atI1 (fin _ (by decide) (by decide))
    · exact vix_lst hl3 atI2 (fin _ (by decide) (by decide))
  · have e1 : decide (kind = "number") = false := decide_eq_false h1
    rw [if_neg (by simpa using h1)]
    walk_at "tl"
    by_cases h2 : kind = "truth"
    · subst h2
      walk_at "tl"
      refine ⟨b, p, 2, rfl, by decide, hb, fun r i r0 r1 => ?_⟩
      walk_at "tl"
      exact .of (h (.tru _) i trivial (by simp [Ex.size]))
    · rw [if_neg (by simpa using h2)]
      walk_at "tl"
      obtain ⟨i, hi⟩ := bx0
      by_cases h3 : kind = "fun"
      · subst h3
        walk_at "tl"
        have := h (.fn "w" (.nam "w")) i ⟨by decide, (by decide : ("w" : Str) ∈ NMS)⟩ (by decide)
        rw [hi] at this
        exact .of this
      · rw [if_neg (by simpa using h3)]
        walk_at "tl"
        have := h .emp i trivial (by decide)
        rw [hi] at this
        exact .of this
end TL

namespace TL
open PySem PySem.Spec PyProof.Rows L2
local macro_rules | `(tactic| walk_at "tl") => `(tactic| try simp +decide only [tseq, tasg, tifs, tbool, tret, tretN, tdrop, tnext, tcont, tbreak, gname, gtup_tup, gcons_cons, gnil_nil, GO.lst.injEq, GO.dK.injEq, top, tvar, tcon, tun, ttup, tlst, tacons, tanil, tcb, tcall, tife, tand, tor, tnot, tandV, torV, tnotV, tisN, tnotN, T.isNon, ttruth, truth_bl, truth_non, truth_int, truth_tup, truth_fl, tsl, tpart, tnopart, tsortk, tlc, tfor, iany, irev, irange1_eq, irange2_eq, items_tup, items_fl, items_ref, twipe, List.set, izip_eq, tput_eq, vlist_tup, tmeth, isL, mappend_ref, mextend_tup, trev, exists_eq, exists_eq', 
  vix_tup, vix_fl, veq_str, vne_str, veq_int, vne_int, vcmp_int, vadd_int, vaddI_int, vadd_tup, vadd_str, vsub_int, vI_int, vlen_tup, vlen_fl, vlen_str, vtuple_tup, vtuple_ref, vint_int, vsl_tup, cut_from1, atI0, atI1, atI2, atI3, taug,
  startT, List.map_cons, List.map_nil, List.length_cons, List.length_nil, List.cons_append, List.nil_append, List.getElem?_cons_zero, List.getElem?_cons_succ, List.set_cons_zero, List.set_cons_succ, List.replicate, Option.some.injEq, exists_eq_left', exists_eq_left, T.bl.injEq, T.int.injEq, T.str.injEq, T.tup.injEq, T.ref.injEq, if_true, if_false, ite_true, ite_false, true_and, and_true, reduceCtorEq, gupd_same, gupd_gupd, Option.map_some, Option.map_none, Option.isSome_some, Option.isSome_none, Bool.not_true, Bool.not_false, Bool.true_eq_false, Bool.false_eq_true, List.cons.injEq, decide_true, decide_false])
/-- how much is used up, and how large it became -/
def Con (n n' : Int) (z : Nat) : Prop := n' ≤ n - 1 ∧ n - n' + 3 * max n' 3 ≤ 3 * max n 3 + 1 ∧ (z : Int) ≤ 2 * (n - n')
theorem con_leaf {n : Int} {z : Nat} (h : z ≤ 2) : Con n (n - 1) z := by unfold Con; omega
theorem con1 {n a : Int} {z : Nat} (hn : 3 < n) (h : Con (n - 1) a z) : Con n a (z + 1) := by unfold Con at *; omega
theorem con2 {n a b : Int} {y z : Nat} (hn : 3 < n) (h : Con (n - 1) a y) (h2 : Con a b z) : Con n b (y + z + 1) := by unfold Con at *; omega
theorem con3 {n a b c : Int} {x y z : Nat} (hn : 3 < n) (h : Con (n - 1) a x) (h2 : Con a b y) (h3 : Con b c z) : Con n c (x + y + z + 1) := by unfold Con at *; omega
def encSc (sc : List (Str × Str)) : List T := sc.map fun p => .tup [.str p.1, .str p.2]
/-- the box, the scope, what is left -/
structure XB (b p s l : Addr) (sc : List (Str × Str)) (n : Int) (G : GH) : Prop where
  hb : HB b p G
  hs : G s = some (.lst (encSc sc))
  hl : G l = some (.lst [.int n])
  lb : l ≠ b
  lp : l ≠ p
  sb : s ≠ b
  sl : s ≠ l
  sn : ∀ q ∈ sc, q.1 ∈ NMS
def st_ (b p l : Addr) (i : Nat) (n : Int) (G : GH) : GH := gupd (bx b p i G) l (.lst [.int n])
section
variable {b p s l : Addr} {sc : List (Str × Str)} {n m : Int} {G G0 : GH}
theorem XB.bx (X : XB b p s l sc n G) (i : Nat) : XB b p s l sc n (bx b p i G) :=
  ⟨X.hb.bx, by unfold TL.bx; rw [gupd_ne X.sb]; exact X.hs, by unfold TL.bx; rw [gupd_ne X.lb]; exact X.hl, X.lb, X.lp, X.sb, X.sl, X.sn⟩
theorem XB.new (X : XB b p s l sc n G) {q : Addr} {o : GO} (h : G q = none) : XB b p s l sc n (gupd G q o) :=
  ⟨X.hb.new h, by rw [gupd_free h (by rw [X.hs]; rfl)]; exact X.hs, by rw [gupd_free h (by rw [X.hl]; rfl)]; exact X.hl, X.lb, X.lp, X.sb, X.sl, X.sn⟩
theorem XB.put (X : XB b p s l sc n G) (m : Int) : XB b p s l sc m (gupd G l (.lst [.int m])) :=
  ⟨X.hb.put X.lb X.lp, by rw [gupd_ne X.sl]; exact X.hs, gupd_same, X.lb, X.lp, X.sb, X.sl, X.sn⟩
theorem XB.st (X : XB b p s l sc n G) (i : Nat) (m : Int) : XB b p s l sc m (st_ b p l i m G) := (X.bx i).put m
/-- all else is kept -/
def Ext (b l : Addr) (G0 G : GH) : Prop := ∀ a u, a ≠ b → a ≠ l → G0 a = some u → G a = some u
theorem Ext.refl : Ext b l G G := fun _ _ _ _ h => h
theorem Ext.bx (E : Ext b l G0 G) (i : Nat) : Ext b l G0 (TL.bx b p i G) := fun a u h1 h2 h => by unfold TL.bx; rw [gupd_ne h1]; exact E a u h1 h2 h
theorem Ext.new (E : Ext b l G0 G) {q : Addr} {o : GO} (h : G q = none) : Ext b l G0 (gupd G q o) := fun a u h1 h2 e => by
  have := E a u h1 h2 e
  rw [gupd_free h (by rw [this]; rfl)]; exact this
theorem Ext.put (E : Ext b l G0 G) (o : GO) : Ext b l G0 (gupd G l o) := fun a u h1 h2 e => by rw [gupd_ne h2]; exact E a u h1 h2 e
theorem Ext.st (E : Ext b l G0 G) (i : Nat) (m : Int) : Ext b l G0 (st_ b p l i m G) := (E.bx i).put _
theorem XB.fin (X : XB b p s l sc n G) (E : Ext b l G0 G) {R : TK} {v : T} (h : ∀ i, R v (st_ b p l i n G0)) : WkR R v G := by
  obtain ⟨i, hi⟩ := X.hb.box
  refine ⟨_, fun a u e => ?_, h i⟩
  unfold st_ TL.bx at e
  by_cases hl : a = l
  · subst hl; rw [gupd_same] at e; rw [X.hl]; exact e
  · rw [gupd_ne hl] at e
    by_cases hb : a = b
    · subst hb; rw [gupd_same] at e; rw [hi]; exact e
    · rw [gupd_ne hb] at e; exact E a u hb hl e
end
def sp__law_expression (d : Nat) : TSp := fun ts G R => ∃ (b p s l : Addr) (sc : List (Str × Str)) (kind : Str) (n : Int), ts = [.ref b, .ref s, .str kind, .ref l] ∧ XB b p s l sc n G ∧ sc.length + 2 * d ≤ 60 ∧ n ≤ d + 3 ∧
  ∀ (e : Ex) (n' : Int) (i : Nat), e.ok → Con n n' e.size → R e.enc (st_ b p l i n' G)
/-- one draw among written texts -/
theorem draw_of {b p s l : Addr} {sc : List (Str × Str)} {n : Int} {G G0 : GH} {R : TK} (xs : List Str) (h0 : 0 < xs.length) (X : XB b p s l sc n G) (E : Ext b l G0 G)
    (h : ∀ x ∈ xs, ∀ G', XB b p s l sc n G' → Ext b l G0 G' → R (.str x) G') : ∀ q, G q = none → sp__law_draw [.ref b, .int (xs.length : Int)] (gupd G q (.lst (xs.map T.str))) fun y G' => vix (.ref q) y G' R := by
  intro q hq
  have X1 := X.new (o := .lst (xs.map T.str)) hq
  refine ⟨b, p, _, rfl, by omega, X1.hb, fun r i r0 r1 => ?_⟩
  obtain ⟨k, rfl⟩ : ∃ k : Nat, r = k := ⟨r.toNat, by omega⟩
  have hk : k < xs.length := by omega
  refine vix_lst (by unfold bx; rw [gupd_ne (X.hb.neb hq), gupd_same]) (atI_lt (x := .str xs[k]) (by simp [hk])) (h _ (List.getElem_mem hk) _ (X1.bx i) ((E.new hq).bx i))
theorem pick_of {b p s l : Addr} {sc : List (Str × Str)} {n : Int} {G G0 : GH} {R : TK} (xs : List Str) (h0 : xs ≠ []) (X : XB b p s l sc n G) (E : Ext b l G0 G)
    (h : ∀ x ∈ xs, ∀ G', XB b p s l sc n G' → Ext b l G0 G' → R (.str x) G') {q : Addr} (hq : G q = some (.lst (xs.map T.str))) (hqb : q ≠ b) : sp__law_pick [.ref b, .ref q] G R := by
  refine ⟨b, p, q, _, rfl, X.hb, hq, hqb, by simpa using h0, fun t ht i => ?_⟩
  obtain ⟨x, hx, rfl⟩ := List.mem_map.mp ht
  exact h x hx _ (X.bx i) (E.bx i)
def t__law_let (s__law_expression : TSp) : TTS :=
  (tseq (tasg (top vix (tlst (tacons (tcon (.str "i")) (tacons (tcon (.str "k")) (tacons (tcon (.str "r")) tanil)))) (tcall sp__law_draw (tacons (tvar 0) (tacons (tcon (.int 3)) tanil)))) (gname 4))
  (tseq (tasg (top vix (tlst (tacons (tcon (.str "number")) (tacons (tcon (.str "fun")) (tacons (tcon (.str "record")) (tacons (tcon (.str "truth")) tanil))))) (tcall sp__law_draw (tacons (tvar 0) (tacons (tcon (.int 4)) tanil)))) (gname 5))
  (tseq (tasg (tcall s__law_expression (tacons (tvar 0) (tacons (tvar 1) (tacons (tvar 5) (tacons (tvar 3) tanil))))) (gname 6))
  (tret (ttup (tacons (tcon (.str "let")) (tacons (tvar 4) (tacons (tvar 6) (tacons (tcall s__law_expression (tacons (tvar 0) (tacons (top vadd (tvar 1) (tlst (tacons (ttup (tacons (tvar 4) (tacons (tvar 5) tanil))) tanil))) (tacons (tvar 2) (tacons (tvar 3) tanil))))) tanil)))))))))

def t__law_function (s__law_expression : TSp) : TTS :=
  (tseq (tasg (top vix (tlst (tacons (tcon (.str "f")) (tacons (tcon (.str "n")) (tacons (tcon (.str "r")) tanil)))) (tcall sp__law_draw (tacons (tvar 0) (tacons (tcon (.int 3)) tanil)))) (gname 3))
  (tseq (tasg (top vix (tlst (tacons (tcon (.str "number")) (tacons (tcon (.str "fun")) (tacons (tcon (.str "record")) (tacons (tcon (.str "truth")) tanil))))) (tcall sp__law_draw (tacons (tvar 0) (tacons (tcon (.int 4)) tanil)))) (gname 4))
  (tseq (tasg (top vix (tlst (tacons (tcon (.str "number")) (tacons (tcon (.str "fun")) (tacons (tcon (.str "record")) (tacons (tcon (.str "any")) tanil))))) (tcall sp__law_draw (tacons (tvar 0) (tacons (tcon (.int 4)) tanil)))) (gname 5))
  (tseq (tifs (tbool (top veq (tcall sp__law_draw (tacons (tvar 0) (tacons (tcon (.int 4)) tanil))) (tcon (.int 0))))
  (tret (ttup (tacons (tcon (.str "rec")) (tacons (tcon (.str "g")) (tacons (tvar 3) (tacons (tcall s__law_expression (tacons (tvar 0) (tacons (top vadd (tvar 1) (tlst (tacons (ttup (tacons (tcon (.str "g")) (tacons (tcon (.str "fun")) tanil))) (tacons (ttup (tacons (tvar 3) (tacons (tvar 4) tanil))) tanil)))) (tacons (tvar 5) (tacons (tvar 2) tanil))))) tanil))))))
  tnext)
  (tret (ttup (tacons (tcon (.str "fun")) (tacons (tvar 3) (tacons (tcall s__law_expression (tacons (tvar 0) (tacons (top vadd (tvar 1) (tlst (tacons (ttup (tacons (tvar 3) (tacons (tvar 4) tanil))) tanil))) (tacons (tvar 5) (tacons (tvar 2) tanil))))) tanil)))))))))

def sp__law_let (d : Nat) : TSp := fun ts G R => ∃ (b p s l : Addr) (sc : List (Str × Str)) (kind : Str) (n : Int), ts = [.ref b, .ref s, .str kind, .ref l] ∧ XB b p s l sc n G ∧ sc.length + 2 * (d + 1) ≤ 60 ∧ n ≤ d + 3 ∧
  ∀ (e : Ex) (n1 n' : Int) (y z : Nat) (i : Nat), e.ok → Con n n1 y → Con n1 n' z → e.size = y + z + 1 → R e.enc (st_ b p l i n' G)
def sp__law_function (d : Nat) : TSp := fun ts G R => ∃ (b p s l : Addr) (sc : List (Str × Str)) (n : Int), ts = [.ref b, .ref s, .ref l] ∧ XB b p s l sc n G ∧ sc.length + 2 * (d + 1) ≤ 60 ∧ n ≤ d + 3 ∧
  ∀ (e : Ex) (n' : Int) (y : Nat) (i : Nat), e.ok → Con n n' y → e.size = y + 1 → R e.enc (st_ b p l i n' G)
theorem call_ex {d : Nat} {b p s l : Addr} {sc : List (Str × Str)} {kind : Str} {n : Int} {G G0 : GH} {R : TK} (X : XB b p s l sc n G) (E : Ext b l G0 G) (h1 : sc.length + 2 * d ≤ 60) (h2 : n ≤ d + 3)
    (h : ∀ (e : Ex) (n' : Int) G', e.ok → Con n n' e.size → XB b p s l sc n' G' → Ext b l G0 G' → R e.enc G') : sp__law_expression d [.ref b, .ref s, .str kind, .ref l] G R :=
  ⟨b, p, s, l, sc, kind, n, rfl, X, h1, h2, fun e n' i ok cn => h e n' _ ok cn (X.st i n') (E.st i n')⟩
/-- with a longer scope -/
theorem call_ex2 {d : Nat} {b p s s2 l : Addr} {sc sc2 : List (Str × Str)} {kind : Str} {n : Int} {G G0 : GH} {R : TK} (X : XB b p s l sc n G) (E : Ext b l G0 G) (hs : G s2 = some (.lst (encSc sc2))) (h3 : s2 ≠ b) (h4 : s2 ≠ l) (hn : ∀ q ∈ sc2, q.1 ∈ NMS) (h1 : sc2.length + 2 * d ≤ 60) (h2 : n ≤ d + 3)
    (h : ∀ (e : Ex) (n' : Int) G', e.ok → Con n n' e.size → XB b p s l sc n' G' → Ext b l G0 G' → R e.enc G') : sp__law_expression d [.ref b, .ref s2, .str kind, .ref l] G R :=
  ⟨b, p, s2, l, sc2, kind, n, rfl, ⟨X.hb, hs, X.hl, X.lb, X.lp, h3, h4, hn⟩, h1, h2, fun e n' i ok cn => h e n' _ ok cn (X.st i n') (E.st i n')⟩
theorem mem3 {x a b c : Str} (h : x ∈ [a, b, c]) : x = a ∨ x = b ∨ x = c := by simpa using h
theorem fresh_ne {G : GH} {q a : Addr} {o : GO} (h : G q = none) (e : G a = some o) : q ≠ a := fun z => by rw [z, e] at h; cases h
theorem pure__law_let (d : Nat) (ts : List T) (G : GH) (R : TK) (h : sp__law_let d ts G R) : t__law_let (sp__law_expression d) { nx := fun _ G' => WkR R .non G', rt := WkR R } (startT ["box", "scope", "kind", "left", "name", "inner", "first"] ts) G := by
  obtain ⟨b, p, s, l, sc, kind, n, rfl, X, hsc, hn, h⟩ := h
  unfold t__law_let
  walk_at "tl"
  refine draw_of ["i", "k", "r"] (by decide) X .refl fun x hx G1 X1 E1 => ?_
  walk_at "tl"
  refine draw_of ["number", "fun", "record", "truth"] (by decide) X1 E1 fun k hk G2 X2 E2 => ?_
  walk_at "tl"
  refine call_ex X2 E2 (by omega) hn fun e1 n1 G3 ok1 c1 X3 E3 => ?_
  walk_at "tl"
  intro q hq
  have X4 := X3.new (o := .lst [T.tup [.str x, .str k]]) hq
  refine ⟨encSc sc, [.tup [.str x, .str k]], X4.hs, gupd_same, ?_, fun r hr => ?_⟩
  · have z : (100 : Nat) ≤ sizeLine := by decide
    unfold encSc; rw [List.length_map]; simp; omega
  have hx2 : x ∈ NMS := by rcases mem3 hx with rfl | rfl | rfl <;> decide
  have X5 := X4.new (o := .lst (encSc sc ++ [T.tup [.str x, .str k]])) hr
  have em : encSc sc ++ [T.tup [.str x, .str k]] = encSc (sc ++ [(x, k)]) := by unfold encSc; rw [List.map_append]; rfl
  refine call_ex2 (sc2 := sc ++ [(x, k)]) X5 ((E3.new hq).new hr) (by rw [gupd_same, em]) (X4.hb.neb hr) (fresh_ne hr X4.hl) ?_ (by simp; omega) (by have := c1.1; omega) fun e2 n2 G6 ok2 c2 X6 E6 => ?_
  · intro q hq
    rcases List.mem_append.mp hq with hq | hq
    · exact X.sn q hq
    · simp at hq; subst hq; exact hx2
  walk_at "tl"
  exact X6.fin E6 fun i => h (.lt x e1 e2) n1 n2 e1.size e2.size i ⟨hx2, ok1, ok2⟩ c1 c2 rfl
theorem pure__law_function (d : Nat) (ts : List T) (G : GH) (R : TK) (h : sp__law_function d ts G R) : t__law_function (sp__law_expression d) { nx := fun _ G' => WkR R .non G', rt := WkR R } (startT ["box", "scope", "left", "name", "inner", "kind"] ts) G := by
  obtain ⟨b, p, s, l, sc, n, rfl, X, hsc, hn, h⟩ := h
  have z : (100 : Nat) ≤ sizeLine := by decide
  unfold t__law_function
  walk_at "tl"
  refine draw_of ["f", "n", "r"] (by decide) X .refl fun x hx G1 X1 E1 => ?_
  walk_at "tl"
  refine draw_of ["number", "fun", "record", "truth"] (by decide) X1 E1 fun k hk G2 X2 E2 => ?_
  walk_at "tl"
  refine draw_of ["number", "fun", "record", "any"] (by decide) X2 E2 fun k2 hk2 G3 X3 E3 => ?_
  have hx2 : x ∈ NMS := by rcases mem3 hx with rfl | rfl | rfl <;> decide
  walk_at "tl"
  refine ⟨b, p, 4, rfl, by decide, X3.hb, fun r i r0 r1 => ?_⟩
  have X4 := X3.bx i
  have E4 := E3.bx (p := p) i
  have lng : ∀ zs : List T, zs.length ≤ 2 → (encSc sc).length + zs.length ≤ sizeLine := fun zs h => by unfold encSc; rw [List.length_map]; omega
  have hsn : ∀ zs : List (Str × Str), (∀ q ∈ zs, q.1 ∈ NMS) → ∀ q ∈ sc ++ zs, q.1 ∈ NMS := fun zs hz q hq => by
    rcases List.mem_append.mp hq with hq | hq
    · exact X.sn q hq
    · exact hz q hq
  have hsk : ∀ q ∈ sc ++ [(x, k)], q.1 ∈ NMS := hsn _ fun q hq => by
    rcases List.mem_cons.mp hq with rfl | hq
    · exact hx2
    · cases hq
  have hsg : ∀ q ∈ sc ++ ([("g", "fun"), (x, k)] : List (Str × Str)), q.1 ∈ NMS := hsn _ fun q hq => by
    rcases List.mem_cons.mp hq with rfl | hq
    · exact (by decide : ("g" : Str) ∈ NMS)
    rcases List.mem_cons.mp hq with rfl | hq
    · exact hx2
    · cases hq
  walk_at "tl"
  split
  · intro q hq
    have X5 := X4.new (o := .lst [T.tup [.str "g", .str "fun"], T.tup [.str x, .str k]]) hq
    refine ⟨encSc sc, [.tup [.str "g", .str "fun"], .tup [.str x, .str k]], X5.hs, gupd_same, lng _ (by simp), fun r hr => ?_⟩
    have X6 := X5.new (o := .lst (encSc sc ++ [T.tup [.str "g", .str "fun"], T.tup [.str x, .str k]])) hr
    have em : encSc sc ++ [T.tup [.str "g", .str "fun"], T.tup [.str x, .str k]] = encSc (sc ++ ([("g", "fun"), (x, k)] : List (Str × Str))) := by unfold encSc; rw [List.map_append]; rfl
    refine call_ex2 (sc2 := sc ++ ([("g", "fun"), (x, k)] : List (Str × Str))) X6 ((E4.new hq).new hr) (by rw [gupd_same, em]) (X5.hb.neb hr) (fresh_ne hr X5.hl) hsg (by simp; omega) hn fun e2 n2 G6 ok2 c2 X7 E7 => ?_
    walk_at "tl"
    exact X7.fin E7 fun i => h (.rc "g" x e2) n2 e2.size i ⟨by decide, hx2, ok2⟩ c2 rfl
  · intro q hq
    have X5 := X4.new (o := .lst [T.tup [.str x, .str k]]) hq
    refine ⟨encSc sc, [.tup [.str x, .str k]], X5.hs, gupd_same, lng _ (by simp), fun r hr => ?_⟩
    have X6 := X5.new (o := .lst (encSc sc ++ [T.tup [.str x, .str k]])) hr
    have em : encSc sc ++ [T.tup [.str x, .str k]] = encSc (sc ++ [(x, k)]) := by unfold encSc; rw [List.map_append]; rfl
    refine call_ex2 (sc2 := sc ++ [(x, k)]) X6 ((E4.new hq).new hr) (by rw [gupd_same, em]) (X5.hb.neb hr) (fresh_ne hr X5.hl) hsk (by simp; omega) hn fun e2 n2 G6 ok2 c2 X7 E7 => ?_
    walk_at "tl"
    exact X7.fin E7 fun i => h (.fn x e2) n2 e2.size i ⟨hx2, ok2⟩ c2 rfl
end TL

namespace TL
open PySem PySem.Spec PyProof.Rows L2
local macro_rules | `(tactic| walk_at "tl") => `(tactic| try simp +decide only [tseq, tasg, tifs, tbool, tret, tretN, tdrop, tnext, tcont, tbreak, gname, gtup_tup, gcons_cons, gnil_nil, GO.lst.injEq, GO.dK.injEq, top, tvar, tcon, tun, ttup, tlst, tacons, tanil, tcb, tcall, tife, tand, tor, tnot, tandV, torV, tnotV, tisN, tnotN, T.isNon, ttruth, truth_bl, truth_non, truth_int, truth_tup, truth_fl, tsl, tpart, tnopart, tsortk, tlc, tfor, iany, irev, irange1_eq, irange2_eq, items_tup, items_fl, items_ref, twipe, List.set, izip_eq, tput_eq, vlist_tup, tmeth, isL, mappend_ref, mextend_tup, trev, exists_eq, exists_eq', 
  vix_tup, vix_fl, veq_str, vne_str, veq_int, vne_int, vcmp_int, vadd_int, vaddI_int, vadd_tup, vadd_str, vsub_int, vI_int, vlen_tup, vlen_fl, vlen_str, vtuple_tup, vtuple_ref, vint_int, vsl_tup, cut_from1, atI0, atI1, atI2, atI3, taug,
  startT, List.map_cons, List.map_nil, List.length_cons, List.length_nil, List.cons_append, List.nil_append, List.getElem?_cons_zero, List.getElem?_cons_succ, List.set_cons_zero, List.set_cons_succ, List.replicate, Option.some.injEq, exists_eq_left', exists_eq_left, T.bl.injEq, T.int.injEq, T.str.injEq, T.tup.injEq, T.ref.injEq, if_true, if_false, ite_true, ite_false, true_and, and_true, reduceCtorEq, gupd_same, gupd_gupd, Option.map_some, Option.map_none, Option.isSome_some, Option.isSome_none, Bool.not_true, Bool.not_false, Bool.true_eq_false, Bool.false_eq_true, List.cons.injEq, decide_true, decide_false])
def t__law_expression_r1 (s__law_let : TSp) (s__law_function : TSp) (s__law_expression : TSp) : TTS :=
  (tseq (tifs (tbool (top (vcmp fun i j => decide (i < j)) (top vix (tvar 3) (tcon (.int 0))) (tcon (.int 3))))
  (tret (tcall sp__law_leaf (tacons (tvar 0) (tacons (tvar 2) tanil))))
  tnext)
  (tseq (tifs (tbool (top veq (tvar 4) (tcon (.int 3))))
  (tret (tcall s__law_let (tacons (tvar 0) (tacons (tvar 1) (tacons (tvar 2) (tacons (tvar 3) tanil))))))
  tnext)
  (tseq (tifs (tbool (top veq (tvar 4) (tcon (.int 4))))
  (tret (ttup (tacons (tcon (.str "if")) (tacons (tcall s__law_expression (tacons (tvar 0) (tacons (tvar 1) (tacons (tcon (.str "truth")) (tacons (tvar 3) tanil))))) (tacons (tcall s__law_expression (tacons (tvar 0) (tacons (tvar 1) (tacons (tvar 2) (tacons (tvar 3) tanil))))) (tacons (tcall s__law_expression (tacons (tvar 0) (tacons (tvar 1) (tacons (tvar 2) (tacons (tvar 3) tanil))))) tanil))))))
  tnext)
  (tseq (tifs (tbool (top veq (tvar 4) (tcon (.int 5))))
  (tret (ttup (tacons (tcon (.str "select")) (tacons (tcall sp__law_pick (tacons (tvar 0) (tacons (tlst (tacons (tcon (.str "x")) (tacons (tcon (.str "y")) tanil))) tanil))) (tacons (tcall s__law_expression (tacons (tvar 0) (tacons (tvar 1) (tacons (tcon (.str "record")) (tacons (tvar 3) tanil))))) tanil)))))
  tnext)
  (tseq (tifs (tbool (top veq (tvar 4) (tcon (.int 6))))
  (tret (ttup (tacons (tcon (.str "call")) (tacons (tcall s__law_expression (tacons (tvar 0) (tacons (tvar 1) (tacons (tcon (.str "fun")) (tacons (tvar 3) tanil))))) (tacons (tcall s__law_expression (tacons (tvar 0) (tacons (tvar 1) (tacons (tcon (.str "any")) (tacons (tvar 3) tanil))))) tanil)))))
  tnext)
  (tseq (tifs (tbool (top veq (tvar 2) (tcon (.str "number"))))
  (tret (ttup (tacons (tcon (.str "op")) (tacons (top vix (tcon (.str "+-")) (tcall sp__law_draw (tacons (tvar 0) (tacons (tcon (.int 2)) tanil)))) (tacons (tcall s__law_expression (tacons (tvar 0) (tacons (tvar 1) (tacons (tcon (.str "number")) (tacons (tvar 3) tanil))))) (tacons (tcall s__law_expression (tacons (tvar 0) (tacons (tvar 1) (tacons (tcon (.str "number")) (tacons (tvar 3) tanil))))) tanil))))))
  tnext)
  (tseq (tifs (tbool (top veq (tvar 2) (tcon (.str "truth"))))
  (tret (ttup (tacons (tcon (.str "op")) (tacons (top vix (tlst (tacons (tcon (.str "<")) (tacons (tcon (.str "==")) tanil))) (tcall sp__law_draw (tacons (tvar 0) (tacons (tcon (.int 2)) tanil)))) (tacons (tcall s__law_expression (tacons (tvar 0) (tacons (tvar 1) (tacons (tcon (.str "number")) (tacons (tvar 3) tanil))))) (tacons (tcall s__law_expression (tacons (tvar 0) (tacons (tvar 1) (tacons (tcon (.str "number")) (tacons (tvar 3) tanil))))) tanil))))))
  tnext)
  (tseq (tifs (tbool (top veq (tvar 2) (tcon (.str "fun"))))
  (tret (tcall s__law_function (tacons (tvar 0) (tacons (tvar 1) (tacons (tvar 3) tanil)))))
  tnext)
  (tseq (tifs (tbool (top (vcmp fun i j => decide (i < j)) (tvar 4) (tcon (.int 10))))
  (tret (ttup (tacons (tcon (.str "drop")) (tacons (tcall sp__law_pick (tacons (tvar 0) (tacons (tlst (tacons (tcon (.str "x")) (tacons (tcon (.str "y")) tanil))) tanil))) (tacons (tcall s__law_expression (tacons (tvar 0) (tacons (tvar 1) (tacons (tcon (.str "record")) (tacons (tvar 3) tanil))))) tanil)))))
  tnext)
  (tret (ttup (tacons (tcon (.str "extend")) (tacons (tcall sp__law_pick (tacons (tvar 0) (tacons (tlst (tacons (tcon (.str "x")) (tacons (tcon (.str "y")) (tacons (tcon (.str "z")) tanil)))) tanil))) (tacons (tcall s__law_expression (tacons (tvar 0) (tacons (tvar 1) (tacons (tcon (.str "any")) (tacons (tvar 3) tanil))))) (tacons (tcall s__law_expression (tacons (tvar 0) (tacons (tvar 1) (tacons (tcon (.str "record")) (tacons (tvar 3) tanil))))) tanil)))))))))))))))
def t__law_expression_r2 (s__law_let : TSp) (s__law_function : TSp) (s__law_expression : TSp) : TTS :=
  (tseq (tifs (tand (tbool (top (vcmp fun i j => decide (j < i)) (tcb vlen (tacons (tvar 1) tanil)) (tcon (.int 0)))) (tor (tbool (top (vcmp fun i j => decide (i < j)) (tvar 4) (tcon (.int 3)))) (tand (tbool (top (vcmp fun i j => decide (i < j)) (top vix (tvar 3) (tcon (.int 0))) (tcon (.int 2)))) (tbool (top (vcmp fun i j => decide (i < j)) (tvar 4) (tcon (.int 9)))))))
  (tseq (tasg (tlc (iany (tvar 1)) (gname 6) (tbool (top veq (top vix (tvar 6) (tcon (.int 1))) (tvar 2))) (top vix (tvar 6) (tcon (.int 0))) [6]) (gname 5))
  (tseq (tifs (tand (tbool (top (vcmp fun i j => decide (j < i)) (tcb vlen (tacons (tvar 5) tanil)) (tcon (.int 0)))) (tbool (top (vcmp fun i j => decide (j < i)) (tvar 4) (tcon (.int 0)))))
  (tret (ttup (tacons (tcon (.str "name")) (tacons (tcall sp__law_pick (tacons (tvar 0) (tacons (tvar 5) tanil))) tanil))))
  tnext)
  (tifs (tbool (top veq (tvar 4) (tcon (.int 0))))
  (tret (ttup (tacons (tcon (.str "name")) (tacons (tcall sp__law_pick (tacons (tvar 0) (tacons (top vadd (tlc (iany (tvar 1)) (gname 6) tyes (top vix (tvar 6) (tcon (.int 0))) [6]) (tlst (tacons (tcon (.str "free")) tanil))) tanil))) tanil))))
  tnext)))
  tnext)
  (t__law_expression_r1 s__law_let s__law_function s__law_expression))
def t__law_expression (s__law_let : TSp) (s__law_function : TSp) (s__law_expression : TSp) : TTS :=
  (tseq (tput (tvar 3) (tcon (.int 0)) (top vsub (top vix (tvar 3) (tcon (.int 0))) (tcon (.int 1))))
  (tseq (tasg (tcall sp__law_draw (tacons (tvar 0) (tacons (tcon (.int 16)) tanil))) (gname 4))
  (tseq (tifs (tbool (top veq (tvar 2) (tcon (.str "any"))))
  (tasg (top vix (tlst (tacons (tcon (.str "number")) (tacons (tcon (.str "truth")) (tacons (tcon (.str "fun")) (tacons (tcon (.str "record")) tanil))))) (tcall sp__law_draw (tacons (tvar 0) (tacons (tcon (.int 4)) tanil)))) (gname 2))
  tnext)
  (t__law_expression_r2 s__law_let s__law_function s__law_expression))))

theorem r1_expression (d : Nat) (s2 s1 s3 : TSp) (h1 : ∀ k, d = k + 1 → s1 = sp__law_let k) (h2 : ∀ k, d = k + 1 → s2 = sp__law_function k) (h3 : ∀ k, d = k + 1 → s3 = sp__law_expression k)
    (b p s l : Addr) (sc : List (Str × Str)) (kind : Str) (n r : Int) (Y Z : Option T) (G G0 : GH) (R : TK) (D : TEnds) (hD : D.rt = WkR R) (X : XB b p s l sc (n - 1) G) (E : Ext b l G0 G) (hsc : sc.length + 2 * d ≤ 60) (hn : n ≤ d + 3)
    (h : ∀ (e : Ex) (n' : Int) (i : Nat), e.ok → Con n n' e.size → R e.enc (st_ b p l i n' G0)) :
    t__law_expression_r1 s1 s2 s3 D [some (.ref b), some (.ref s), some (.str kind), some (.ref l), some (.int r), Y, Z] G := by
  unfold t__law_expression_r1
  walk_at "tl"
  refine vix_lst X.hl atI0 ?_
  walk_at "tl"
  by_cases hlt : n - 1 < 3
  · rw [if_pos (by simpa using hlt), hD]
    refine ⟨b, p, kind, rfl, X.hb, fun e i ok sz => ?_⟩
    exact (X.bx i).fin (E.bx i) fun j => h e (n - 1) j ok (con_leaf sz)
  rw [if_neg (by simpa using hlt)]
  obtain ⟨k, rfl⟩ : ∃ k, d = k + 1 := ⟨d - 1, by omega⟩
  obtain rfl := h1 k rfl
  obtain rfl := h2 k rfl
  obtain rfl := h3 k rfl
  have hn3 : 3 < n := by omega
  have hk : n - 1 ≤ k + 3 := by omega
  have hs2 : sc.length + 2 * k ≤ 60 := by omega
  have hs3 : sc.length + 2 * (k + 1) ≤ 60 := by omega
  by_cases r3 : r = 3
  · subst r3
    walk_at "tl"
    rw [hD]
    refine ⟨b, p, s, l, sc, kind, n - 1, rfl, X, hs3, hk, fun e n1 n' y z i ok c1 c2 hz => ?_⟩
    exact (X.st i n').fin (E.st i n') fun j => h e n' j ok (by rw [hz]; exact con2 hn3 c1 c2)
  rw [if_neg (by simpa using r3)]
  by_cases r4 : r = 4
  · subst r4
    walk_at "tl"
    rw [hD]
    refine call_ex X E hs2 hk fun e1 n1 G1 ok1 c1 X1 E1 => ?_
    refine call_ex X1 E1 hs2 (by have := c1.1; omega) fun e2 n2 G2 ok2 c2 X2 E2 => ?_
    refine call_ex X2 E2 hs2 (by have := c1.1; have := c2.1; omega) fun e3 n3 G3 ok3 c3 X3 E3 => ?_
    walk_at "tl"
    exact X3.fin E3 fun j => h (.ite e1 e2 e3) n3 j ⟨ok1, ok2, ok3⟩ (con3 hn3 c1 c2 c3)
  rw [if_neg (by simpa using r4)]
  have xy : ∀ x ∈ (["x", "y"] : List Str), x ∈ NMS := by decide
  have xyz : ∀ x ∈ (["x", "y", "z"] : List Str), x ∈ NMS := by decide
  by_cases r5 : r = 5
  · subst r5
    walk_at "tl"
    rw [hD]
    intro q hq
    refine pick_of ["x", "y"] (by simp) (X.new hq) (E.new hq) (fun x hx G1 X1 E1 => ?_) gupd_same (X.hb.neb hq)
    refine call_ex X1 E1 hs2 hk fun e1 n1 G2 ok1 c1 X2 E2 => ?_
    walk_at "tl"
    exact X2.fin E2 fun j => h (.sel x e1) n1 j ⟨xy x hx, ok1⟩ (con1 hn3 c1)
  rw [if_neg (by simpa using r5)]
  by_cases r6 : r = 6
  · subst r6
    walk_at "tl"
    rw [hD]
    refine call_ex X E hs2 hk fun e1 n1 G1 ok1 c1 X1 E1 => ?_
    refine call_ex X1 E1 hs2 (by have := c1.1; omega) fun e2 n2 G2 ok2 c2 X2 E2 => ?_
    walk_at "tl"
    exact X2.fin E2 fun j => h (.app e1 e2) n2 j ⟨ok1, ok2⟩ (con2 hn3 c1 c2)
  rw [if_neg (by simpa using r6)]
  by_cases k1 : kind = "number"
  · subst k1
    walk_at "tl"
    rw [hD]
    refine ⟨b, p, 2, rfl, by decide, X.hb, fun v i v0 v1 => ?_⟩
    have X0 := X.bx i
    have E0 := E.bx (p := p) i
    have go : ∀ o : Str, o ∈ OPS → sp__law_expression k [.ref b, .ref s, .str "number", .ref l] (bx b p i G) fun x1 G1 => sp__law_expression k [.ref b, .ref s, .str "number", .ref l] G1 fun x2 G2 => WkR R (.tup [.str "op", .str o, x1, x2]) G2 := by
      intro o ho
      refine call_ex X0 E0 hs2 hk fun e1 n1 G1 ok1 c1 X1 E1 => ?_
      refine call_ex X1 E1 hs2 (by have := c1.1; omega) fun e2 n2 G2 ok2 c2 X2 E2 => ?_
      exact X2.fin E2 fun j => h (.op o e1 e2) n2 j ⟨ho, ok1, ok2⟩ (con2 hn3 c1 c2)
    have hv : v = 0 ∨ v = 1 := by omega
    rcases hv with rfl | rfl
    · refine ⟨.str "+", ⟨by decide, 43, by decide, congrArg T.str (by decide : ("+" : Str) = ⟨#[43]⟩)⟩, ?_⟩
      have := go "+" (by decide)
      walk_at "tl"
      exact this
    · refine ⟨.str "-", ⟨by decide, 45, by decide, congrArg T.str (by decide : ("-" : Str) = ⟨#[45]⟩)⟩, ?_⟩
      have := go "-" (by decide)
      walk_at "tl"
      exact this
  rw [if_neg (by simpa using k1)]
  by_cases k2 : kind = "truth"
  · subst k2
    walk_at "tl"
    rw [hD]
    refine draw_of ["<", "=="] (by decide) X E fun o ho G1 X1 E1 => ?_
    refine call_ex X1 E1 hs2 hk fun e1 n1 G1 ok1 c1 X1 E1 => ?_
    refine call_ex X1 E1 hs2 (by have := c1.1; omega) fun e2 n2 G2 ok2 c2 X2 E2 => ?_
    walk_at "tl"
    exact X2.fin E2 fun j => h (.op o e1 e2) n2 j ⟨(by decide : ∀ x ∈ (["<", "=="] : List Str), x ∈ OPS) o ho, ok1, ok2⟩ (con2 hn3 c1 c2)
  rw [if_neg (by simpa using k2)]
  by_cases k3 : kind = "fun"
  · subst k3
    walk_at "tl"
    rw [hD]
    refine ⟨b, p, s, l, sc, n - 1, rfl, X, hs3, hk, fun e n' y i ok c1 hz => ?_⟩
    exact (X.st i n').fin (E.st i n') fun j => h e n' j ok (by rw [hz]; exact con1 hn3 c1)
  rw [if_neg (by simpa using k3)]
  by_cases r10 : r < 10
  · rw [if_pos (by simpa using r10), hD]
    intro q hq
    refine pick_of ["x", "y"] (by simp) (X.new hq) (E.new hq) (fun x hx G1 X1 E1 => ?_) gupd_same (X.hb.neb hq)
    refine call_ex X1 E1 hs2 hk fun e1 n1 G2 ok1 c1 X2 E2 => ?_
    walk_at "tl"
    exact X2.fin E2 fun j => h (.drp x e1) n1 j ⟨xy x hx, ok1⟩ (con1 hn3 c1)
  rw [if_neg (by simpa using r10), hD]
  intro q hq
  refine pick_of ["x", "y", "z"] (by simp) (X.new hq) (E.new hq) (fun x hx G1 X1 E1 => ?_) gupd_same (X.hb.neb hq)
  refine call_ex X1 E1 hs2 hk fun e1 n1 G2 ok1 c1 X2 E2 => ?_
  refine call_ex X2 E2 hs2 (by have := c1.1; omega) fun e2 n2 G3 ok2 c2 X3 E3 => ?_
  walk_at "tl"
  exact X3.fin E3 fun j => h (.ext x e1 e2) n2 j ⟨xyz x hx, ok1, ok2⟩ (con2 hn3 c1 c2)
theorem names_lc {b p s l D : Addr} {sc : List (Str × Str)} {kind : Str} {n r : Int} {Y : Option T} {G G0 : GH} {R : TK} (X : XB b p s l sc n G) (E : Ext b l G0 G) (hsc : sc.length ≤ 60) (hD : G D = none)
    (h : ∀ (zs : List Str) G1, (∀ z ∈ zs, z ∈ NMS) → XB b p s l sc n G1 → Ext b l G0 G1 → G1 D = some (.lst (zs.map T.str)) → D ≠ b → R (.ref D) G1) :
    lcGo (fun G' => G' s = some (.lst (encSc sc))) (gname 6) (tbool (top veq (top vix (tvar 6) (tcon (.int 1))) (tvar 2))) (top vix (tvar 6) (tcon (.int 0))) [6] D R [some (.ref b), some (.ref s), some (.str kind), some (.ref l), some (.int r), Y, none] (encSc sc) (gupd G D (.lst [])) := by
  have z : (100 : Nat) ≤ sizeLine := by decide
  have kp : ∀ o, gupd G D o s = some (.lst (encSc sc)) := fun o => by rw [gupd_free hD (by rw [X.hs]; rfl)]; exact X.hs
  refine lc_inv (α := Str × Str) (fun q => T.tup [.str q.1, .str q.2]) (fun ys acc G' => ∃ zs : List Str, zs.length + ys.length ≤ sc.length ∧ (∀ z ∈ zs, z ∈ NMS) ∧ (∀ q ∈ ys, q ∈ sc) ∧ acc = zs.map T.str ∧ G' = gupd G D (.lst acc)) ?_ ?_ sc [] _ ⟨[], by simp, by simp, fun _ h => h, rfl, rfl⟩
  · rintro ⟨y, k⟩ ys acc G' N hN ⟨zs, hl, hz, hy, rfl, rfl⟩
    simp only [List.length_cons] at hl
    refine ⟨kp _, ?_⟩
    walk_at "tl"
    by_cases hk : k = kind
    · rw [if_pos (by simpa using hk)]
      refine ⟨by rw [List.length_map]; omega, ?_⟩
      refine hN (zs.map T.str ++ [.str y]) _ (.of ⟨zs ++ [y], by simp; omega, fun x hx => ?_, fun q hq => hy q (by simp [hq]), by simp, rfl⟩)
      rcases List.mem_append.mp hx with hx | hx
      · exact hz x hx
      · simp at hx; subst hx; exact X.sn (x, k) (hy _ (by simp))
    · rw [if_neg (by simpa using hk)]
      exact hN (zs.map T.str) _ (.of ⟨zs, by omega, hz, fun q hq => hy q (by simp [hq]), rfl, rfl⟩)
  · rintro acc G' ⟨zs, hl, hz, _, rfl, rfl⟩
    exact ⟨kp _, h zs _ hz (X.new hD) (E.new hD) gupd_same (X.hb.neb hD)⟩
theorem all_lc {b p s l D : Addr} {sc : List (Str × Str)} {kind : Str} {n r : Int} {Y : Option T} {G G0 : GH} {R : TK} (X : XB b p s l sc n G) (E : Ext b l G0 G) (hsc : sc.length ≤ 60) (hD : G D = none)
    (h : ∀ (zs : List Str) G1, (∀ z ∈ zs, z ∈ NMS) → zs.length ≤ 60 → XB b p s l sc n G1 → Ext b l G0 G1 → G1 D = some (.lst (zs.map T.str)) → D ≠ b → R (.ref D) G1) :
    lcGo (fun G' => G' s = some (.lst (encSc sc))) (gname 6) tyes (top vix (tvar 6) (tcon (.int 0))) [6] D R [some (.ref b), some (.ref s), some (.str kind), some (.ref l), some (.int r), Y, none] (encSc sc) (gupd G D (.lst [])) := by
  have z : (100 : Nat) ≤ sizeLine := by decide
  have kp : ∀ o, gupd G D o s = some (.lst (encSc sc)) := fun o => by rw [gupd_free hD (by rw [X.hs]; rfl)]; exact X.hs
  refine lc_map (α := Str × Str) _ (fun q => .str q.1) sc (fun _ => kp _) (by omega) (fun q _ acc N hN => ?_) ?_
  · walk_at "tl"
    exact hN
  · have em : sc.map (fun q => T.str q.1) = (sc.map (·.1)).map T.str := by rw [List.map_map]; rfl
    rw [em]
    refine h (sc.map (·.1)) _ (fun x hx => ?_) (by rw [List.length_map]; omega) (X.new hD) (E.new hD) gupd_same (X.hb.neb hD)
    obtain ⟨q, hq, rfl⟩ := List.mem_map.mp hx
    exact X.sn q hq
theorem encSc_len (sc : List (Str × Str)) : (encSc sc).length = sc.length := by unfold encSc; simp
theorem r2_expression (d : Nat) (s2 s1 s3 : TSp) (h1 : ∀ k, d = k + 1 → s1 = sp__law_let k) (h2 : ∀ k, d = k + 1 → s2 = sp__law_function k) (h3 : ∀ k, d = k + 1 → s3 = sp__law_expression k)
    (b p s l : Addr) (sc : List (Str × Str)) (kind : Str) (n r : Int) (G G0 : GH) (R : TK) (X : XB b p s l sc (n - 1) G) (E : Ext b l G0 G) (hsc : sc.length + 2 * d ≤ 60) (hn : n ≤ d + 3)
    (h : ∀ (e : Ex) (n' : Int) (i : Nat), e.ok → Con n n' e.size → R e.enc (st_ b p l i n' G0)) :
    t__law_expression_r2 s1 s2 s3 { nx := fun _ G' => WkR R .non G', rt := WkR R } [some (.ref b), some (.ref s), some (.str kind), some (.ref l), some (.int r), none, none] G := by
  have z : (100 : Nat) ≤ sizeLine := by decide
  have key : ∀ Y Z G1, XB b p s l sc (n - 1) G1 → Ext b l G0 G1 → t__law_expression_r1 s1 s2 s3 { nx := fun _ G' => WkR R .non G', rt := WkR R } [some (.ref b), some (.ref s), some (.str kind), some (.ref l), some (.int r), Y, Z] G1 :=
    fun Y Z G1 X1 E1 => r1_expression d s2 s1 s3 h1 h2 h3 b p s l sc kind n r Y Z G1 G0 R _ rfl X1 E1 hsc hn h
  have nameOk : ∀ x G1, x ∈ NMS → XB b p s l sc (n - 1) G1 → Ext b l G0 G1 → WkR R (.tup [.str "name", .str x]) G1 := fun x G1 hx X1 E1 => X1.fin E1 fun j => h (.nam x) (n - 1) j hx (con_leaf (by simp [Ex.size]))
  unfold t__law_expression_r2
  walk_at "tl"
  refine .inl ⟨encSc sc, X.hs, ?_⟩
  walk_at "tl"
  have hl0 : (encSc sc).length = sc.length := encSc_len sc
  by_cases h0 : 0 < sc.length
  · rw [if_pos (by rw [hl0]; simpa using h0)]
    by_cases c3 : r < 3
    rotate_left
    rw [if_neg (by simpa using c3)]
    refine vix_lst X.hl atI0 ?_
    walk_at "tl"
    by_cases cl : n - 1 < 2
    rotate_left
    · rw [if_neg (by simpa using cl)]
      exact key _ _ _ X E
    rotate_left
    rw [if_pos (by simpa using cl)]
    by_cases r9 : r < 9
    rotate_left
    · rw [if_neg (by simpa using r9)]
      exact key _ _ _ X E
    rw [if_pos (by simpa using c3)]
    rotate_left
    rw [if_pos (by simpa using r9)]
    all_goals
      refine ⟨encSc sc, X.hs, fun D hD => names_lc X E (by omega) hD fun zs G1 hz X1 E1 hG1 hDb => ?_⟩
      refine .inl ⟨_, hG1, ?_⟩
      walk_at "tl"
      have zero : ∀ (R' : TK), (∀ x G2, x ∈ NMS → XB b p s l sc (n - 1) G2 → Ext b l G0 G2 → R' (.str x) G2) → ∀ D2, G1 D2 = none → lcGo (fun G' => G' s = some (.lst (encSc sc))) (gname 6) tyes (top vix (tvar 6) (tcon (.int 0))) [6] D2 (fun x G1 => ∀ (p : Addr), G1 p = none → vadd x (.ref p) (gupd G1 p (.lst [.str "free"])) fun x G1 => sp__law_pick [.ref b, x] G1 R') [some (.ref b), some (.ref s), some (.str kind), some (.ref l), some (.int r), some (.ref D), none] (encSc sc) (gupd G1 D2 (.lst [])) := by
        intro R' hR D2 hD2
        refine all_lc X1 E1 (by omega) hD2 fun ws G2 hw hwl X2 E2 hG2 hD2b q hq => ?_
        have X3 := X2.new (o := .lst [.str "free"]) hq
        refine ⟨_, _, by rw [gupd_free hq (by rw [hG2]; rfl)]; exact hG2, gupd_same, by rw [List.length_map]; simp; omega, fun r2 hr2 => ?_⟩
        have em : ws.map T.str ++ [T.str "free"] = (ws ++ (["free"] : List Str)).map T.str := by rw [List.map_append]; rfl
        rw [em]
        refine pick_of (ws ++ (["free"] : List Str)) (by simp) (X3.new hr2) ((E2.new hq).new hr2) (fun x hx G4 X4 E4 => hR x G4 ?_ X4 E4) gupd_same (X3.hb.neb hr2)
        rcases List.mem_append.mp hx with hx | hx
        · exact hw x hx
        · simp at hx; subst hx; decide
      have at0 : (if decide (r = 0) = true then ∃ xs, G1 s = some (.lst xs) ∧ ∀ D2, G1 D2 = none → lcGo (fun G' => G' s = some (.lst xs)) (gname 6) tyes (top vix (tvar 6) (tcon (.int 0))) [6] D2 (fun x G1 => ∀ (p : Addr), G1 p = none → vadd x (.ref p) (gupd G1 p (.lst [.str "free"])) fun x G1 => sp__law_pick [.ref b, x] G1 fun x G1 => WkR R (.tup [.str "name", x]) G1) [some (.ref b), some (.ref s), some (.str kind), some (.ref l), some (.int r), some (.ref D), none] xs (gupd G1 D2 (.lst []))
          else t__law_expression_r1 s1 s2 s3 { nx := fun _ G' => WkR R .non G', rt := WkR R } [some (.ref b), some (.ref s), some (.str kind), some (.ref l), some (.int r), some (.ref D), none] G1) := by
        by_cases r0 : r = 0
        · rw [if_pos (by simpa using r0)]
          exact ⟨_, X1.hs, zero _ fun x G2 hx X2 E2 => nameOk x G2 hx X2 E2⟩
        · rw [if_neg (by simpa using r0)]
          exact key _ _ _ X1 E1
      by_cases hzs : zs = []
      · rw [if_neg (by simp [hzs])]
        exact at0
      · rw [if_pos (by simpa using List.length_pos_iff.mpr hzs)]
        by_cases rp : 0 < r
        · rw [if_pos (by simpa using rp)]
          exact pick_of zs hzs X1 E1 (fun x hx G2 X2 E2 => nameOk x G2 (hz x hx) X2 E2) hG1 hDb
        · rw [if_neg (by simpa using rp)]
          exact at0
  · rw [if_neg (by rw [hl0]; simpa using h0)]
    exact key _ _ _ X E
theorem pure__law_expression (d : Nat) (s1 s2 s3 : TSp) (h1 : ∀ k, d = k + 1 → s1 = sp__law_let k) (h2 : ∀ k, d = k + 1 → s2 = sp__law_function k) (h3 : ∀ k, d = k + 1 → s3 = sp__law_expression k) (ts : List T) (G : GH) (R : TK) (h : sp__law_expression d ts G R) :
    t__law_expression s1 s2 s3 { nx := fun _ G' => WkR R .non G', rt := WkR R } (startT ["box", "scope", "kind", "left", "draw", "names", "pair"] ts) G := by
  obtain ⟨b, p, s, l, sc, kind, n, rfl, X, hsc, hn, h⟩ := h
  unfold t__law_expression
  walk_at "tl"
  refine vix_lst X.hl atI0 ?_
  walk_at "tl"
  refine put_lst (j := 0) X.hl (by simp [ixN]) ?_
  walk_at "tl"
  have X1 := X.put (n - 1)
  have E1 : Ext b l G (gupd G l (.lst [.int (n - 1)])) := Ext.refl.put _
  refine ⟨b, p, 16, rfl, by decide, X1.hb, fun r i r0 r1 => ?_⟩
  have X2 := X1.bx i
  have E2 := E1.bx (p := p) i
  walk_at "tl"
  by_cases hk : kind = "any"
  · rw [if_pos (by simpa using hk)]
    refine draw_of ["number", "truth", "fun", "record"] (by decide) X2 E2 fun k _ G3 X3 E3 => ?_
    walk_at "tl"
    exact r2_expression d s2 s1 s3 h1 h2 h3 b p s l sc k n r G3 G R X3 E3 hsc hn h
  · rw [if_neg (by simpa using hk)]
    exact r2_expression d s2 s1 s3 h1 h2 h3 b p s l sc kind n r _ G R X2 E2 hsc hn h
end TL

namespace TL
open PySem PySem.Spec PyProof.Rows L2
local macro_rules | `(tactic| walk_at "tl") => `(tactic| try simp +decide only [tseq, tasg, tifs, tbool, tret, tretN, tdrop, tnext, tcont, tbreak, gname, gtup_tup, gcons_cons, gnil_nil, GO.lst.injEq, GO.dK.injEq, top, tvar, tcon, tun, ttup, tlst, tacons, tanil, tcb, tcall, tife, tand, tor, tnot, tandV, torV, tnotV, tisN, tnotN, T.isNon, ttruth, truth_bl, truth_non, truth_int, truth_tup, truth_fl, tsl, tpart, tnopart, tsortk, tlc, tfor, iany, irev, irange1_eq, irange2_eq, items_tup, items_fl, items_ref, twipe, List.set, izip_eq, tput_eq, vlist_tup, tmeth, isL, mappend_ref, mextend_tup, trev, exists_eq, exists_eq', 
  vix_tup, vix_fl, veq_str, vne_str, veq_int, vne_int, vcmp_int, vadd_int, vaddI_int, vadd_tup, vadd_str, vsub_int, vI_int, vlen_tup, vlen_fl, vlen_str, vtuple_tup, vtuple_ref, vint_int, vsl_tup, cut_from1, atI0, atI1, atI2, atI3, taug,
  startT, List.map_cons, List.map_nil, List.length_cons, List.length_nil, List.cons_append, List.nil_append, List.getElem?_cons_zero, List.getElem?_cons_succ, List.set_cons_zero, List.set_cons_succ, List.replicate, Option.some.injEq, exists_eq_left', exists_eq_left, T.bl.injEq, T.int.injEq, T.str.injEq, T.tup.injEq, T.ref.injEq, if_true, if_false, ite_true, ite_false, true_and, and_true, reduceCtorEq, gupd_same, gupd_gupd, Option.map_some, Option.map_none, Option.isSome_some, Option.isSome_none, Bool.not_true, Bool.not_false, Bool.true_eq_false, Bool.false_eq_true, List.cons.injEq, decide_true, decide_false])
/-- the box and the scope -/
structure XA (b p s : Addr) (sc : List (Str × Str)) (G : GH) : Prop where
  hb : HB b p G
  hs : G s = some (.lst (encSc sc))
  sb : s ≠ b
  sn : ∀ q ∈ sc, q.1 ∈ NMS
def Exb (b : Addr) (G0 G : GH) : Prop := ∀ a u, a ≠ b → G0 a = some u → G a = some u
section
variable {b p s l : Addr} {sc : List (Str × Str)} {n : Int} {G G0 : GH}
theorem XA.bx (X : XA b p s sc G) (i : Nat) : XA b p s sc (bx b p i G) := ⟨X.hb.bx, by unfold TL.bx; rw [gupd_ne X.sb]; exact X.hs, X.sb, X.sn⟩
theorem XA.new (X : XA b p s sc G) {q : Addr} {o : GO} (h : G q = none) : XA b p s sc (gupd G q o) := ⟨X.hb.new h, by rw [gupd_free h (by rw [X.hs]; rfl)]; exact X.hs, X.sb, X.sn⟩
theorem Exb.refl : Exb b G G := fun _ _ _ h => h
theorem Exb.bx (E : Exb b G0 G) (i : Nat) : Exb b G0 (TL.bx b p i G) := fun a u h1 h => by unfold TL.bx; rw [gupd_ne h1]; exact E a u h1 h
theorem Exb.new (E : Exb b G0 G) {q : Addr} {o : GO} (h : G q = none) : Exb b G0 (gupd G q o) := fun a u h1 e => by
  have := E a u h1 e
  rw [gupd_free h (by rw [this]; rfl)]; exact this
theorem HB.fin (X : HB b p G) (E : Exb b G0 G) {R : TK} {v : T} (h : ∀ i, R v (TL.bx b p i G0)) : WkR R v G := by
  obtain ⟨i, hi⟩ := X.box
  refine ⟨_, fun a u e => ?_, h i⟩
  unfold TL.bx at e
  by_cases hb : a = b
  · subst hb; rw [gupd_same] at e; rw [hi]; exact e
  · rw [gupd_ne hb] at e; exact E a u hb e
/-- a drawn expression, with a new budget -/
theorem call_exA {d : Nat} {kind : Str} {R : TK} (X : XA b p s sc G) (E : Exb b G0 G) (hl : G l = none) (h1 : sc.length + 2 * d ≤ 60) (h2 : n ≤ d + 3) (h0 : 3 ≤ n)
    (h : ∀ (e : Ex) G', e.ok → (e.size : Int) ≤ 6 * n - 16 → XA b p s sc G' → Exb b G0 G' → R e.enc G') : sp__law_expression d [.ref b, .ref s, .str kind, .ref l] (gupd G l (.lst [.int n])) R := by
  have lb := X.hb.neb hl
  have lp := X.hb.nep hl
  refine ⟨b, p, s, l, sc, kind, n, rfl, ⟨X.hb.new hl, by rw [gupd_free hl (by rw [X.hs]; rfl)]; exact X.hs, gupd_same, lb, lp, X.sb, Ne.symm (fresh_ne hl X.hs), X.sn⟩, h1, h2, fun e n' i ok cn => ?_⟩
  have em : st_ b p l i n' (gupd G l (.lst [.int n])) = gupd (TL.bx b p i G) l (.lst [.int n']) := by unfold st_; rw [bx_swap lb, gupd_gupd]
  have hl2 : TL.bx b p i G l = none := by unfold TL.bx; rw [gupd_ne lb]; exact hl
  rw [em]
  exact h e _ ok (by unfold Con at cn; omega) ((X.bx i).new hl2) ((E.bx i).new hl2)
end
def t__law_mixed (s__law_expression : TSp) : TTS :=
  (tseq (tasg (tcall sp__law_draw (tacons (tvar 0) (tacons (tcon (.int 6)) tanil))) (gname 3))
  (tseq (tasg (tcall s__law_expression (tacons (tvar 0) (tacons (tvar 1) (tacons (tcon (.str "any")) (tacons (tlst (tacons (tvar 2) tanil)) tanil))))) (gname 4))
  (tseq (tasg (tcall s__law_expression (tacons (tvar 0) (tacons (tvar 1) (tacons (tcon (.str "any")) (tacons (tlst (tacons (tvar 2) tanil)) tanil))))) (gname 5))
  (tseq (tifs (tbool (top veq (tvar 3) (tcon (.int 0))))
  (tret (ttup (tacons (tcon (.str "op")) (tacons (tcall sp__law_pick (tacons (tvar 0) (tacons (tlst (tacons (tcon (.str "+")) (tacons (tcon (.str "-")) (tacons (tcon (.str "<")) (tacons (tcon (.str "==")) tanil))))) tanil))) (tacons (tvar 4) (tacons (tvar 5) tanil))))))
  tnext)
  (tseq (tifs (tbool (top veq (tvar 3) (tcon (.int 1))))
  (tret (ttup (tacons (tcon (.str "call")) (tacons (tvar 4) (tacons (tvar 5) tanil)))))
  tnext)
  (tseq (tifs (tbool (top veq (tvar 3) (tcon (.int 2))))
  (tret (ttup (tacons (tcon (.str "if")) (tacons (tvar 4) (tacons (tvar 5) (tacons (tcall sp__law_leaf (tacons (tvar 0) (tacons (tcon (.str "number")) tanil))) tanil))))))
  tnext)
  (tseq (tifs (tbool (top veq (tvar 3) (tcon (.int 3))))
  (tret (ttup (tacons (tcon (.str "extend")) (tacons (tcall sp__law_pick (tacons (tvar 0) (tacons (tlst (tacons (tcon (.str "x")) (tacons (tcon (.str "y")) tanil))) tanil))) (tacons (tvar 4) (tacons (tvar 5) tanil))))))
  tnext)
  (tseq (tifs (tbool (top veq (tvar 3) (tcon (.int 4))))
  (tret (ttup (tacons (top vix (tlst (tacons (tcon (.str "select")) (tacons (tcon (.str "drop")) tanil))) (tcall sp__law_draw (tacons (tvar 0) (tacons (tcon (.int 2)) tanil)))) (tacons (tcall sp__law_pick (tacons (tvar 0) (tacons (tlst (tacons (tcon (.str "x")) (tacons (tcon (.str "y")) (tacons (tcon (.str "z")) tanil)))) tanil))) (tacons (tvar 4) tanil)))))
  tnext)
  (tret (ttup (tacons (tcon (.str "let")) (tacons (tcon (.str "k")) (tacons (tvar 4) (tacons (ttup (tacons (tcon (.str "call")) (tacons (ttup (tacons (tcon (.str "fun")) (tacons (tcon (.str "n")) (tacons (tvar 5) tanil)))) (tacons (ttup (tacons (tcon (.str "name")) (tacons (tcon (.str "k")) tanil))) tanil)))) tanil))))))))))))))

def sp__law_mixed (d : Nat) : TSp := fun ts G R => ∃ (b p s : Addr) (sc : List (Str × Str)) (n : Int), ts = [.ref b, .ref s, .int n] ∧ XA b p s sc G ∧ sc.length + 2 * d ≤ 60 ∧ 3 ≤ d ∧ 3 ≤ n ∧ n ≤ 6 ∧ ∀ (e : Ex) (i : Nat), e.ok → e.size ≤ 60 → R e.enc (bx b p i G)
theorem pickA {b p : Addr} {G G0 : GH} {R : TK} (xs : List Str) (h0 : xs ≠ []) (X : HB b p G) (E : Exb b G0 G)
    (h : ∀ x ∈ xs, ∀ G', HB b p G' → Exb b G0 G' → R (.str x) G') : ∀ q, G q = none → sp__law_pick [.ref b, .ref q] (gupd G q (.lst (xs.map T.str))) R := fun q hq => by
  refine ⟨b, p, q, _, rfl, X.new hq, gupd_same, X.neb hq, by simpa using h0, fun t ht i => ?_⟩
  obtain ⟨x, hx, rfl⟩ := List.mem_map.mp ht
  exact h x hx _ (X.new hq).bx ((E.new hq).bx i)
theorem pure__law_mixed (d : Nat) (ts : List T) (G : GH) (R : TK) (h : sp__law_mixed d ts G R) : t__law_mixed (sp__law_expression d) { nx := fun _ G' => WkR R .non G', rt := WkR R } (startT ["box", "scope", "left", "kind", "one", "other"] ts) G := by
  obtain ⟨b, p, s, sc, n, rfl, X, hsc, hd, hn3, hn6, h⟩ := h
  unfold t__law_mixed
  walk_at "tl"
  refine ⟨b, p, 6, rfl, by decide, X.hb, fun r i r0 r1 => ?_⟩
  have X1 := X.bx i
  have E1 : Exb b G (bx b p i G) := Exb.refl.bx i
  walk_at "tl"
  intro l1 hl1
  refine call_exA X1 E1 hl1 hsc (by omega) (by omega) fun e1 G2 ok1 z1 X2 E2 => ?_
  walk_at "tl"
  intro l2 hl2
  refine call_exA X2 E2 hl2 hsc (by omega) (by omega) fun e2 G3 ok2 z2 X3 E3 => ?_
  walk_at "tl"
  have xy : ∀ x ∈ (["x", "y"] : List Str), x ∈ NMS := by decide
  have xyz : ∀ x ∈ (["x", "y", "z"] : List Str), x ∈ NMS := by decide
  have ops : ∀ x ∈ (["+", "-", "<", "=="] : List Str), x ∈ OPS := by decide
  by_cases c0 : r = 0
  · subst c0
    walk_at "tl"
    refine pickA ["+", "-", "<", "=="] (by simp) X3.hb E3 fun o ho G4 X4 E4 => ?_
    walk_at "tl"
    exact X4.fin E4 fun j => h (.op o e1 e2) j ⟨ops o ho, ok1, ok2⟩ (by simp only [Ex.size]; omega)
  rw [if_neg (by simpa using c0)]
  by_cases c1 : r = 1
  · subst c1
    walk_at "tl"
    exact X3.hb.fin E3 fun j => h (.app e1 e2) j ⟨ok1, ok2⟩ (by simp only [Ex.size]; omega)
  rw [if_neg (by simpa using c1)]
  by_cases c2 : r = 2
  · subst c2
    walk_at "tl"
    refine ⟨b, p, _, rfl, X3.hb, fun e3 j ok3 z3 => ?_⟩
    walk_at "tl"
    exact X3.hb.bx.fin (E3.bx j) fun j => h (.ite e1 e2 e3) j ⟨ok1, ok2, ok3⟩ (by simp only [Ex.size]; omega)
  rw [if_neg (by simpa using c2)]
  by_cases c3 : r = 3
  · subst c3
    walk_at "tl"
    refine pickA ["x", "y"] (by simp) X3.hb E3 fun o ho G4 X4 E4 => ?_
    walk_at "tl"
    exact X4.fin E4 fun j => h (.ext o e1 e2) j ⟨xy o ho, ok1, ok2⟩ (by simp only [Ex.size]; omega)
  rw [if_neg (by simpa using c3)]
  by_cases c4 : r = 4
  · subst c4
    walk_at "tl"
    intro q hq
    refine ⟨b, p, 2, rfl, by decide, X3.hb.new hq, fun v j v0 v1 => ?_⟩
    have X4 := (X3.new (o := .lst [T.str "select", T.str "drop"]) hq).bx j
    have E4 := (E3.new (o := .lst [T.str "select", T.str "drop"]) hq).bx (p := p) j
    have hq4 : bx b p j (gupd G3 q (.lst [T.str "select", T.str "drop"])) q = some (.lst [T.str "select", T.str "drop"]) := by unfold bx; rw [gupd_ne (X3.hb.neb hq), gupd_same]
    have hv : v = 0 ∨ v = 1 := by omega
    rcases hv with rfl | rfl
    · refine vix_lst hq4 atI0 ?_
      refine pickA ["x", "y", "z"] (by simp) X4.hb E4 fun o ho G5 X5 E5 => ?_
      walk_at "tl"
      exact X5.fin E5 fun j => h (.sel o e1) j ⟨xyz o ho, ok1⟩ (by simp only [Ex.size]; omega)
    · refine vix_lst hq4 atI1 ?_
      refine pickA ["x", "y", "z"] (by simp) X4.hb E4 fun o ho G5 X5 E5 => ?_
      walk_at "tl"
      exact X5.fin E5 fun j => h (.drp o e1) j ⟨xyz o ho, ok1⟩ (by simp only [Ex.size]; omega)
  rw [if_neg (by simpa using c4)]
  exact X3.hb.fin E3 fun j => h (.lt "k" e1 (.app (.fn "n" e2) (.nam "k"))) j ⟨by decide, ok1, ⟨by decide, ok2⟩, (by decide : ("k" : Str) ∈ NMS)⟩ (by simp only [Ex.size]; omega)
end TL

namespace TL
open PySem PySem.Spec PyProof.Rows L2
local macro_rules | `(tactic| walk_at "tl") => `(tactic| try simp +decide only [tseq, tasg, tifs, tbool, tret, tretN, tdrop, tnext, tcont, tbreak, gname, gtup_tup, gcons_cons, gnil_nil, GO.lst.injEq, GO.dK.injEq, top, tvar, tcon, tun, ttup, tlst, tacons, tanil, tcb, tcall, tife, tand, tor, tnot, tandV, torV, tnotV, tisN, tnotN, T.isNon, ttruth, truth_bl, truth_non, truth_int, truth_tup, truth_fl, tsl, tpart, tnopart, tsortk, tlc, tfor, iany, irev, irange1_eq, irange2_eq, items_tup, items_fl, items_ref, twipe, List.set, izip_eq, tput_eq, vlist_tup, tmeth, isL, mappend_ref, mextend_tup, trev, exists_eq, exists_eq', 
  vix_tup, vix_fl, veq_str, vne_str, veq_int, vne_int, vcmp_int, vadd_int, vaddI_int, vadd_tup, vadd_str, vsub_int, vI_int, vlen_tup, vlen_fl, vlen_str, vtuple_tup, vtuple_ref, vint_int, vsl_tup, cut_from1, atI0, atI1, atI2, atI3, taug,
  startT, List.map_cons, List.map_nil, List.length_cons, List.length_nil, List.cons_append, List.nil_append, List.getElem?_cons_zero, List.getElem?_cons_succ, List.set_cons_zero, List.set_cons_succ, List.replicate, Option.some.injEq, exists_eq_left', exists_eq_left, T.bl.injEq, T.int.injEq, T.str.injEq, T.tup.injEq, T.ref.injEq, if_true, if_false, ite_true, ite_false, true_and, and_true, reduceCtorEq, gupd_same, gupd_gupd, Option.map_some, Option.map_none, Option.isSome_some, Option.isSome_none, Bool.not_true, Bool.not_false, Bool.true_eq_false, Bool.false_eq_true, List.cons.injEq, decide_true, decide_false])
theorem Ex.free_le : ∀ (e : Ex) (r : List Str), (e.free r).length ≤ e.size
  | .nam y, r => by simp only [Ex.free, Ex.size]; split <;> simp
  | .fn _ b, r => by have := b.free_le; simp only [Ex.free, Ex.size]; exact Nat.le_trans (this _) (by omega)
  | .rc _ _ b, r => by have := b.free_le; simp only [Ex.free, Ex.size]; exact Nat.le_trans (this _) (by omega)
  | .app f a, r => by have := f.free_le r; have := a.free_le r; simp only [Ex.free, Ex.size, List.length_append]; omega
  | .lt y a b, r => by have := a.free_le r; have := b.free_le (r ++ [y]); simp only [Ex.free, Ex.size, List.length_append]; omega
  | .ite i a b, r => by have := i.free_le r; have := a.free_le r; have := b.free_le r; simp only [Ex.free, Ex.size, List.length_append]; omega
  | .op _ a b, r => by have := a.free_le r; have := b.free_le r; simp only [Ex.free, Ex.size, List.length_append]; omega
  | .ext _ a b, r => by have := a.free_le r; have := b.free_le r; simp only [Ex.free, Ex.size, List.length_append]; omega
  | .sel _ a, r => by have := a.free_le r; simp only [Ex.free, Ex.size]; omega
  | .drp _ a, r => by have := a.free_le r; simp only [Ex.free, Ex.size]; omega
  | .num _, r => by simp [Ex.free]
  | .tru _, r => by simp [Ex.free]
  | .emp, r => by simp [Ex.free]
theorem Ex.kid_size (e : Ex) : ∀ k ∈ e.kids, k.size < e.size := by
  cases e <;> simp [Ex.kids, Ex.size] <;> omega
def t__law_free_r1 (s__law_free : TSp) : TTS :=
  (tseq (tasg (tlst tanil) (gname 5))
  (tseq (tfor (iany (tcall sp__law_children (tacons (tvar 0) tanil))) (gname 6)
  (tasg (top vadd (tvar 5) (tcall s__law_free (tacons (tvar 6) (tacons (tvar 4) tanil)))) (gname 5)))
  (tret (tvar 5))))
def t__law_free_r2 (s__law_free : TSp) : TTS :=
  (tseq (tifs (tbool (top veq (tvar 2) (tcon (.str "rec"))))
  (tasg (top vadd (tvar 1) (tlst (tacons (top vix (tvar 0) (tcon (.int 1))) (tacons (top vix (tvar 0) (tcon (.int 2))) tanil)))) (gname 4))
  tnext)
  (t__law_free_r1 s__law_free))
def t__law_free (s__law_free : TSp) : TTS :=
  (tseq (tasg (top vix (tvar 0) (tcon (.int 0))) (gname 2))
  (tseq (tifs (tbool (top veq (tvar 2) (tcon (.str "name"))))
  (tret (tlc (iany (tsl (tvar 0) (tpart (tcon (.int 1))) (tpart (tcon (.int 2))))) (gname 3) (tbool (top (vin true) (tvar 3) (tvar 1))) (tvar 3) [3]))
  tnext)
  (tseq (tifs (tbool (top veq (tvar 2) (tcon (.str "let"))))
  (tret (top vadd (tcall s__law_free (tacons (top vix (tvar 0) (tcon (.int 2))) (tacons (tvar 1) tanil))) (tcall s__law_free (tacons (top vix (tvar 0) (tcon (.int 3))) (tacons (top vadd (tvar 1) (tlst (tacons (top vix (tvar 0) (tcon (.int 1))) tanil))) tanil)))))
  tnext)
  (tseq (tasg (tvar 1) (gname 4))
  (tseq (tifs (tbool (top veq (tvar 2) (tcon (.str "fun"))))
  (tasg (top vadd (tvar 1) (tlst (tacons (top vix (tvar 0) (tcon (.int 1))) tanil))) (gname 4))
  tnext)
  (t__law_free_r2 s__law_free))))))

def sp__law_free (d : Nat) : TSp := fun ts G R => ∃ (e : Ex) (p : Addr) (rs : List Str), ts = [e.enc, .ref p] ∧ G p = some (.lst (rs.map T.str)) ∧ e.size ≤ d + 1 ∧ rs.length + 2 * e.size ≤ 1000 ∧ ∀ q, G q = none → R (.ref q) (gupd G q (.lst ((e.free rs).map T.str)))
theorem WkR.up {R : TK} {v : T} {G G' : GH} (h : WkR R v G) (s : Sub G G') : WkR R v G' := by
  obtain ⟨G0, s0, q⟩ := h
  exact ⟨G0, s0.trans s, q⟩
theorem free_gather (d : Nat) (s1 : TSp) (e : Ex) (rs : List Str) (p p2 : Addr) (w : Str) (X : Option T) (G : GH) (R : TK) (hp2 : G p2 = some (.lst (rs.map T.str))) (h1 : e.kids ≠ [] → s1 = sp__law_free d) (hd : ∀ k ∈ e.kids, k.size ≤ d + 1) (hr : ∀ k ∈ e.kids, rs.length + 2 * k.size ≤ 1000) (hz : (e.kids.flatMap (fun k => k.free rs)).length ≤ 500)
    (h : ∀ q, G q = none → WkR R (.ref q) (gupd G q (.lst ((e.kids.flatMap fun k => k.free rs).map T.str)))) :
    t__law_free_r1 s1 { nx := fun _ G' => WkR R .non G', rt := WkR R } [some e.enc, some (.ref p), some (.str w), X, some (.ref p2), none, none] G := by
  have z : (1000 : Nat) ≤ sizeLine := by decide
  unfold t__law_free_r1
  walk_at "tl"
  intro q hq
  refine ⟨e, rfl, fun c hc0 => ?_⟩
  obtain ⟨hcq, hc⟩ := ne_none hc0
  walk_at "tl"
  have hp2q : p2 ≠ q := Ne.symm (fresh_ne hq hp2)
  have hp2c : p2 ≠ c := Ne.symm (fresh_ne hc hp2)
  refine for_inv (α := Ex) Ex.enc (fun ys st G' => ∃ (f : Addr) (zs : List Ex), st = [some e.enc, some (.ref p), some (.str w), X, some (.ref p2), some (.ref f), none] ∧ f ≠ c ∧ G f = none ∧ e.kids = zs ++ ys ∧ G' = gupd (gupd G c (.lst (e.kids.map Ex.enc))) f (.lst ((zs.flatMap fun k => k.free rs).map T.str))) ?_ ?_ e.kids _ _ ?_
  · rintro k ys st G' N hN ⟨f, zs, rfl, hfc, hf, hk, rfl⟩
    have hkm : k ∈ e.kids := by rw [hk]; simp
    have hs1 := h1 (fun z => by rw [z] at hkm; cases hkm)
    subst hs1
    refine ⟨by rw [gupd_ne (Ne.symm hfc), gupd_same], ?_⟩
    walk_at "tl"
    have hp2f : p2 ≠ f := Ne.symm (fresh_ne hf hp2)
    refine ⟨k, p2, rs, rfl, by rw [gupd_ne hp2f, gupd_ne hp2c]; exact hp2, hd k hkm, hr k hkm, fun g hg => ?_⟩
    obtain ⟨hgf, hg1⟩ := ne_none hg
    obtain ⟨hgc, hg2⟩ := ne_none hg1
    refine ⟨_, _, by rw [gupd_ne (Ne.symm hgf), gupd_same], gupd_same, ?_, fun m hm => ?_⟩
    · have h1 : (e.kids.flatMap (fun k => k.free rs)).length = (zs.flatMap fun k => k.free rs).length + ((k.free rs).length + (ys.flatMap fun k => k.free rs).length) := by
        rw [hk]; simp
      rw [List.length_map, List.length_map]; omega
    obtain ⟨hmg, hm1⟩ := ne_none hm
    obtain ⟨hmf, hm2⟩ := ne_none hm1
    obtain ⟨hmc, hm3⟩ := ne_none hm2
    refine hN _ _ (.mk ⟨m, zs ++ [k], rfl, hmc, hm3, by rw [hk]; simp, rfl⟩ (.same (.same (.same (.same (.same (.same (.none .nil))))))) ?_)
    rw [← List.map_append]
    have em : (zs ++ [k]).flatMap (fun k => k.free rs) = (zs.flatMap fun k => k.free rs) ++ k.free rs := by simp
    rw [em]
    refine Sub.at fun a u ha e => ?_
    have haf : a ≠ f := fun z => by subst z; rw [gupd_ne hfc, hf] at e; cases e
    have hag : a ≠ g := fun z => by subst z; rw [hg1] at e; cases e
    rw [gupd_ne hag, gupd_ne haf]; exact e
  · rintro st G' ⟨f, zs, rfl, hfc, hf, hk, rfl⟩
    refine ⟨by rw [gupd_ne (Ne.symm hfc), gupd_same], ?_⟩
    walk_at "tl"
    rw [List.append_nil] at hk
    rw [← hk]
    refine (h f hf).up ?_
    rw [gupd_comm (Ne.symm hfc)]
    exact Sub.gupd (by rw [gupd_ne (Ne.symm hfc)]; exact hc)
  · refine ⟨q, [], rfl, Ne.symm hcq, hq, rfl, ?_⟩
    rw [gupd_comm (Ne.symm hcq)]; rfl
theorem strs_in {x : Str} {ys : List Str} {p : Addr} {G : GH} {R : TK} (hp : G p = some (.lst (ys.map T.str))) (h : R (.bl (!decide (x ∈ ys))) G) : vin true (.str x) (.ref p) G R := vin_strsL hp h
theorem pure__law_free (d : Nat) (s1 : TSp) (h1 : ∀ k, d = k + 1 → s1 = sp__law_free k) (ts : List T) (G : GH) (R : TK) (h : sp__law_free d ts G R) : t__law_free s1 { nx := fun _ G' => WkR R .non G', rt := WkR R } (startT ["row", "brought", "word", "name", "inner", "found", "child"] ts) G := by
  obtain ⟨e, p, rs, rfl, hp, hd, hr, h⟩ := h
  have z : (1000 : Nat) ≤ sizeLine := by decide
  have hfl := e.free_le rs
  have hks := e.kid_size
  have hsz := e.size_pos
  have go : e.kids.flatMap (fun k => k.free rs) = e.free rs → ∀ w, t__law_free_r1 s1 { nx := fun _ G' => WkR R .non G', rt := WkR R } [some e.enc, some (.ref p), some (.str w), none, some (.ref p), none, none] G := by
    intro ef w
    refine free_gather (d - 1) s1 e rs p p w none G R hp (fun hne => ?_) (fun x hx => by have := hks x hx; omega) (fun x hx => by have := hks x hx; omega) (by rw [ef]; omega) fun q hq => by rw [ef]; exact .of (h q hq)
    obtain ⟨x, hx⟩ := List.exists_mem_of_ne_nil _ hne
    have := hks x hx
    have := x.size_pos
    exact h1 (d - 1) (by omega)
  unfold t__law_free t__law_free_r2
  cases e with
  | nam y =>
    simp only [Ex.enc]
    walk_at "tl"
    intro D hD
    have ec : cutT [T.str "name", T.str y] (some 1) (some 2) = [y].map T.str := rfl
    rw [ec]
    refine lc_inv (α := Str) T.str (fun ys acc G' => ((ys = [y] ∧ acc = []) ∨ (ys = [] ∧ acc = ((Ex.nam y).free rs).map T.str)) ∧ G' = gupd G D (.lst acc)) ?_ ?_ [y] [] _ ⟨.inl ⟨rfl, rfl⟩, rfl⟩
    · rintro x ys acc G' N hN ⟨⟨hx, rfl⟩ | ⟨hx, _⟩, rfl⟩
      · cases hx
        refine ⟨trivial, ?_⟩
        walk_at "tl"
        refine strs_in (ys := rs) (by rw [gupd_free hD (by rw [hp]; rfl)]; exact hp) ?_
        by_cases hy : y ∈ rs
        · have e2 : (!decide (y ∈ rs)) = false := by simp [hy]
          rw [e2]
          walk_at "tl"
          exact hN [] _ (.of ⟨.inr ⟨rfl, by simp [Ex.free, hy]⟩, rfl⟩)
        · have e2 : (!decide (y ∈ rs)) = true := by simp [hy]
          rw [e2]
          walk_at "tl"
          exact hN [.str y] _ (.of ⟨.inr ⟨rfl, by simp [Ex.free, hy]⟩, rfl⟩)
      · cases hx
    · rintro acc G' ⟨⟨hx, _⟩ | ⟨_, rfl⟩, rfl⟩
      · cases hx
      · exact ⟨trivial, .of (h D hD)⟩
  | lt y a b =>
    have da := hks a (by simp [Ex.kids])
    have db := hks b (by simp [Ex.kids])
    have dz : (Ex.lt y a b).size = a.size + b.size + 1 := rfl
    have pa := a.size_pos
    have pb := b.size_pos
    obtain ⟨k, rfl⟩ : ∃ k, d = k + 1 := ⟨d - 1, by omega⟩
    obtain rfl := h1 k rfl
    have fa := a.free_le rs
    have fb := b.free_le (rs ++ [y])
    simp only [Ex.enc]
    walk_at "tl"
    refine ⟨a, p, rs, rfl, hp, by omega, by omega, fun q hq => ?_⟩
    walk_at "tl"
    intro q2 hq2
    obtain ⟨hq2q, hq21⟩ := ne_none hq2
    have hpq : p ≠ q := Ne.symm (fresh_ne hq hp)
    have hpq2 : p ≠ q2 := Ne.symm (fresh_ne hq21 hp)
    refine ⟨_, _, by rw [gupd_ne hpq2, gupd_ne hpq]; exact hp, gupd_same, by rw [List.length_map]; simp; omega, fun q3 hq3 => ?_⟩
    obtain ⟨hq32, hq31⟩ := ne_none hq3
    obtain ⟨hq3q, hq30⟩ := ne_none hq31
    have em : rs.map T.str ++ [T.str y] = (rs ++ [y]).map T.str := by rw [List.map_append]; rfl
    rw [em]
    refine ⟨b, q3, rs ++ [y], rfl, gupd_same, by omega, by simp; omega, fun q4 hq4 => ?_⟩
    obtain ⟨hq43, hq41⟩ := ne_none hq4
    obtain ⟨hq42, hq4b⟩ := ne_none hq41
    obtain ⟨hq4q, hq40⟩ := ne_none hq4b
    refine ⟨_, _, by rw [gupd_ne (Ne.symm hq4q), gupd_ne (Ne.symm hq3q), gupd_ne (Ne.symm hq2q), gupd_same], gupd_same, by rw [List.length_map, List.length_map]; omega, fun q5 hq5 => ?_⟩
    obtain ⟨hq54, hq5a⟩ := ne_none hq5
    obtain ⟨hq53, hq5b⟩ := ne_none hq5a
    obtain ⟨hq52, hq5c⟩ := ne_none hq5b
    obtain ⟨hq5q, hq50⟩ := ne_none hq5c
    rw [← List.map_append]
    refine ⟨_, ?_, h q5 hq50⟩
    refine Sub.at fun u v hu e => ?_
    rw [gupd_ne (fun z => by subst z; rw [hq40] at e; cases e), gupd_ne (fun z => by subst z; rw [hq30] at e; cases e), gupd_ne (fun z => by subst z; rw [hq21] at e; cases e), gupd_ne (fun z => by subst z; rw [hq] at e; cases e)]
    exact e
  | fn y b =>
    have db := hks b (by simp [Ex.kids])
    have dz : (Ex.fn y b).size = b.size + 1 := rfl
    have pb := b.size_pos
    obtain ⟨k, rfl⟩ : ∃ k, d = k + 1 := ⟨d - 1, by omega⟩
    simp only [Ex.enc]
    walk_at "tl"
    intro q hq
    have hpq : p ≠ q := Ne.symm (fresh_ne hq hp)
    refine ⟨_, _, by rw [gupd_ne hpq]; exact hp, gupd_same, by rw [List.length_map]; simp; omega, fun q2 hq2 => ?_⟩
    obtain ⟨hq2q, hq20⟩ := ne_none hq2
    have em : rs.map T.str ++ [T.str y] = (rs ++ [y]).map T.str := by rw [List.map_append]; rfl
    rw [em]
    walk_at "tl"
    refine free_gather k s1 (.fn y b) (rs ++ [y]) p q2 "fun" none _ R gupd_same (fun _ => h1 k rfl) (fun x hx => by have := hks x hx; omega) (fun x hx => by have := hks x hx; simp only [List.length_append, List.length_singleton]; omega) (by simp only [Ex.kids, List.flatMap_cons, List.flatMap_nil, List.append_nil]; have := b.free_le (rs ++ [y]); omega) fun q3 hq3 => ?_
    obtain ⟨hq32, hq31⟩ := ne_none hq3
    obtain ⟨hq3q, hq30⟩ := ne_none hq31
    have ef : (Ex.fn y b).kids.flatMap (fun k => k.free (rs ++ [y])) = (Ex.fn y b).free rs := by simp [Ex.kids, Ex.free]
    rw [ef]
    refine ⟨_, Sub.at fun u v hu e => ?_, h q3 hq30⟩
    rw [gupd_ne (fun z => by subst z; rw [hq20] at e; cases e), gupd_ne (fun z => by subst z; rw [hq] at e; cases e)]
    exact e
  | rc f y b =>
    have db := hks b (by simp [Ex.kids])
    have dz : (Ex.rc f y b).size = b.size + 1 := rfl
    have pb := b.size_pos
    obtain ⟨k, rfl⟩ : ∃ k, d = k + 1 := ⟨d - 1, by omega⟩
    simp only [Ex.enc]
    walk_at "tl"
    intro q hq
    have hpq : p ≠ q := Ne.symm (fresh_ne hq hp)
    refine ⟨_, _, by rw [gupd_ne hpq]; exact hp, gupd_same, by rw [List.length_map]; simp; omega, fun q2 hq2 => ?_⟩
    obtain ⟨hq2q, hq20⟩ := ne_none hq2
    have em : rs.map T.str ++ [T.str f, T.str y] = (rs ++ [f, y]).map T.str := by rw [List.map_append]; rfl
    rw [em]
    refine free_gather k s1 (.rc f y b) (rs ++ [f, y]) p q2 "rec" none _ R gupd_same (fun _ => h1 k rfl) (fun x hx => by have := hks x hx; omega) (fun x hx => by have := hks x hx; simp only [List.length_append, List.length_cons, List.length_nil]; omega) (by simp only [Ex.kids, List.flatMap_cons, List.flatMap_nil, List.append_nil]; have := b.free_le (rs ++ [f, y]); omega) fun q3 hq3 => ?_
    obtain ⟨hq32, hq31⟩ := ne_none hq3
    obtain ⟨hq3q, hq30⟩ := ne_none hq31
    have ef : (Ex.rc f y b).kids.flatMap (fun k => k.free (rs ++ [f, y])) = (Ex.rc f y b).free rs := by simp [Ex.kids, Ex.free]
    rw [ef]
    refine ⟨_, Sub.at fun u v hu e => ?_, h q3 hq30⟩
    rw [gupd_ne (fun z => by subst z; rw [hq20] at e; cases e), gupd_ne (fun z => by subst z; rw [hq] at e; cases e)]
    exact e
  | _ =>
    have go := go (by simp [Ex.kids, Ex.free])
    simp only [Ex.enc] at go ⊢
    walk_at "tl"
    exact go _
end TL

namespace TL
open PySem PySem.Spec PyProof.Rows L2
local macro_rules | `(tactic| walk_at "tl") => `(tactic| try simp +decide only [tseq, tasg, tifs, tbool, tret, tretN, tdrop, tnext, tcont, tbreak, gname, gtup_tup, gcons_cons, gnil_nil, GO.lst.injEq, GO.dK.injEq, top, tvar, tcon, tun, ttup, tlst, tacons, tanil, tcb, tcall, tife, tand, tor, tnot, tandV, torV, tnotV, tisN, tnotN, T.isNon, ttruth, truth_bl, truth_non, truth_int, truth_tup, truth_fl, tsl, tpart, tnopart, tsortk, tlc, tfor, iany, irev, irange1_eq, irange2_eq, items_tup, items_fl, items_ref, twipe, List.set, izip_eq, tput_eq, vlist_tup, tmeth, isL, mappend_ref, mextend_tup, trev, exists_eq, exists_eq', 
  vix_tup, vix_fl, veq_str, vne_str, veq_int, vne_int, vcmp_int, vadd_int, vaddI_int, vadd_tup, vadd_str, vsub_int, vI_int, vlen_tup, vlen_fl, vlen_str, vtuple_tup, vtuple_ref, vint_int, vsl_tup, cut_from1, atI0, atI1, atI2, atI3, taug,
  startT, List.map_cons, List.map_nil, List.length_cons, List.length_nil, List.cons_append, List.nil_append, List.getElem?_cons_zero, List.getElem?_cons_succ, List.set_cons_zero, List.set_cons_succ, List.replicate, Option.some.injEq, exists_eq_left', exists_eq_left, T.bl.injEq, T.int.injEq, T.str.injEq, T.tup.injEq, T.ref.injEq, if_true, if_false, ite_true, ite_false, true_and, and_true, reduceCtorEq, gupd_same, gupd_gupd, Option.map_some, Option.map_none, Option.isSome_some, Option.isSome_none, Bool.not_true, Bool.not_false, Bool.true_eq_false, Bool.false_eq_true, List.cons.injEq, decide_true, decide_false])
def Ex.dep : Ex → Nat
  | .fn _ b => b.dep + 1
  | .rc _ _ b => b.dep + 1
  | .app f a => max f.dep a.dep + 1
  | .lt _ a b => max a.dep b.dep + 1
  | .ite c a b => max c.dep (max a.dep b.dep) + 1
  | .op _ a b => max a.dep b.dep + 1
  | .ext _ a r => max a.dep r.dep + 1
  | .sel _ r => r.dep + 1
  | .drp _ r => r.dep + 1
  | _ => 1
theorem Ex.dep_le : ∀ e : Ex, e.dep ≤ e.size
  | .fn _ b => by have := b.dep_le; simp only [Ex.dep, Ex.size]; omega
  | .rc _ _ b => by have := b.dep_le; simp only [Ex.dep, Ex.size]; omega
  | .app f a => by have := f.dep_le; have := a.dep_le; simp only [Ex.dep, Ex.size]; omega
  | .lt _ a b => by have := a.dep_le; have := b.dep_le; simp only [Ex.dep, Ex.size]; omega
  | .ite c a b => by have := c.dep_le; have := a.dep_le; have := b.dep_le; simp only [Ex.dep, Ex.size]; omega
  | .op _ a b => by have := a.dep_le; have := b.dep_le; simp only [Ex.dep, Ex.size]; omega
  | .ext _ a b => by have := a.dep_le; have := b.dep_le; simp only [Ex.dep, Ex.size]; omega
  | .sel _ b => by have := b.dep_le; simp only [Ex.dep, Ex.size]; omega
  | .drp _ b => by have := b.dep_le; simp only [Ex.dep, Ex.size]; omega
  | .num _ => Nat.le_refl _
  | .tru _ => Nat.le_refl _
  | .nam _ => Nat.le_refl _
  | .emp => Nat.le_refl _
theorem Ex.kid_dep (e : Ex) : ∀ k ∈ e.kids, k.dep < e.dep := by
  cases e <;> simp [Ex.kids, Ex.dep] <;> omega
theorem Ex.dep_pos (e : Ex) : 1 ≤ e.dep := by cases e <;> simp [Ex.dep]
theorem putc_true (x : Str) (v : Ex) : ∀ e : Ex, Ex.putc x v e true = e
  | .nam y => by simp [Ex.putc]
  | .fn _ b => by simp [Ex.putc, putc_true x v b]
  | .rc _ _ b => by simp [Ex.putc, putc_true x v b]
  | .app f a => by simp [Ex.putc, putc_true x v f, putc_true x v a]
  | .lt _ a b => by simp [Ex.putc, putc_true x v a, putc_true x v b]
  | .ite i a b => by simp [Ex.putc, putc_true x v i, putc_true x v a, putc_true x v b]
  | .op _ a b => by simp [Ex.putc, putc_true x v a, putc_true x v b]
  | .ext _ a b => by simp [Ex.putc, putc_true x v a, putc_true x v b]
  | .sel _ a => by simp [Ex.putc, putc_true x v a]
  | .drp _ a => by simp [Ex.putc, putc_true x v a]
  | .num _ => rfl
  | .tru _ => rfl
  | .emp => rfl
def t__law_substituted_r1 (s__law_substituted : TSp) : TTS :=
  (tasg (top vadd (tvar 4) (ttup (tacons (tvar 5) tanil))) (gname 4))
def t__law_substituted (s__law_substituted : TSp) : TTS :=
  (tseq (tasg (top vix (tvar 0) (tcon (.int 0))) (gname 3))
  (tseq (tifs (tbool (top veq (tvar 3) (tcon (.str "name"))))
  (tret (top vix (tlst (tacons (tvar 0) (tacons (tvar 2) tanil))) (tcb vint (tacons (top veq (top vix (tvar 0) (tcon (.int 1))) (tvar 1)) tanil))))
  tnext)
  (tseq (tifs (tor (tand (tbool (top veq (tvar 3) (tcon (.str "fun")))) (tbool (top veq (top vix (tvar 0) (tcon (.int 1))) (tvar 1)))) (tand (tbool (top veq (tvar 3) (tcon (.str "rec")))) (tbool (top (vin false) (tvar 1) (tsl (tvar 0) (tpart (tcon (.int 1))) (tpart (tcon (.int 3))))))))
  (tret (tvar 0))
  tnext)
  (tseq (tifs (tand (tbool (top veq (tvar 3) (tcon (.str "let")))) (tbool (top veq (top vix (tvar 0) (tcon (.int 1))) (tvar 1))))
  (tret (ttup (tacons (tcon (.str "let")) (tacons (tvar 1) (tacons (tcall s__law_substituted (tacons (top vix (tvar 0) (tcon (.int 2))) (tacons (tvar 1) (tacons (tvar 2) tanil)))) (tacons (top vix (tvar 0) (tcon (.int 3))) tanil))))))
  tnext)
  (tseq (tasg (ttup tanil) (gname 4))
  (tseq (tfor (iany (tvar 0)) (gname 5)
  (tseq (tifs (ttruth (tcb vistup (tacons (tvar 5) (tacons (tcon (.ty "tuple")) tanil))))
  (tasg (tcall s__law_substituted (tacons (tvar 5) (tacons (tvar 1) (tacons (tvar 2) tanil)))) (gname 5))
  tnext)
  (t__law_substituted_r1 s__law_substituted)))
  (tret (tvar 4))))))))

def sp__law_substituted (d : Nat) : TSp := fun ts G R => ∃ (e : Ex) (x : Str) (v : Ex), ts = [e.enc, .str x, v.enc] ∧ e.dep ≤ d + 1 ∧ R (Ex.putc x v e false).enc G
def encTE : T ⊕ Ex → T
  | .inl t => t
  | .inr k => k.enc
def outTE (x : Str) (v : Ex) : T ⊕ Ex → T
  | .inl t => t
  | .inr k => (Ex.putc x v k false).enc
theorem hd_notTup (e : Ex) : ∀ t ∈ e.hd, t.isTup = some false := by
  cases e <;> simp [Ex.hd, isTup_str, isTup_int, isTup_bl]
theorem sub_loop (d : Nat) (s1 : TSp) (e : Ex) (x : Str) (v : Ex) (w : Str) (G : GH) (R : TK) (h1 : e.kids ≠ [] → s1 = sp__law_substituted d) (hd : ∀ k ∈ e.kids, k.dep ≤ d + 1) (h : R (.tup (e.hd ++ e.kids.map fun k => (Ex.putc x v k false).enc)) G) :
    forGo (fun _ => True) (gname 5) (tseq (tifs (ttruth (tcb vistup (tacons (tvar 5) (tacons (tcon (.ty "tuple")) tanil)))) (tasg (tcall s1 (tacons (tvar 5) (tacons (tvar 1) (tacons (tvar 2) tanil)))) (gname 5)) tnext) (t__law_substituted_r1 s1))
      { nx := tret (tvar 4) { nx := fun _ G' => WkR R .non G', rt := WkR R }, rt := WkR R } (e.hd ++ e.kids.map Ex.enc) [some e.enc, some (.str x), some v.enc, some (.str w), some (.tup []), none] G := by
  have z : (1000 : Nat) ≤ sizeLine := by decide
  have hh := e.hd_le
  have hk := e.kids_le
  have em : e.hd ++ e.kids.map Ex.enc = (e.hd.map Sum.inl ++ e.kids.map Sum.inr : List (T ⊕ Ex)).map encTE := by
    rw [List.map_append, List.map_map, List.map_map]
    congr 1
    exact (List.map_id _).symm
  rw [em]
  refine for_inv (α := T ⊕ Ex) encTE (fun ys st G' => ∃ zs, e.hd.map Sum.inl ++ e.kids.map Sum.inr = zs ++ ys ∧ st = [some e.enc, some (.str x), some v.enc, some (.str w), some (.tup (zs.map (outTE x v))), none] ∧ G' = G) ?_ ?_ _ _ _ ⟨[], rfl, rfl, rfl⟩
  · rintro y ys st G' N hN ⟨zs, hL, rfl, rfl⟩
    have hlen := congrArg List.length hL
    simp only [List.length_append, List.length_map, List.length_cons] at hlen
    have hy : y ∈ (e.hd.map Sum.inl ++ e.kids.map Sum.inr : List (T ⊕ Ex)) := by rw [hL]; simp
    refine ⟨trivial, ?_⟩
    have next : ∀ P, N [some e.enc, some (.str x), some v.enc, some (.str w), some (.tup (zs.map (outTE x v) ++ [outTE x v y])), some P] G' := fun P =>
      hN _ _ (.mk ⟨zs ++ [y], by rw [hL]; simp, by rw [List.map_append]; rfl, rfl⟩ (.same (.same (.same (.same (.same (.none .nil)))))) .refl)
    unfold t__law_substituted_r1
    cases y with
    | inl t =>
      have ht : t ∈ e.hd := by simpa using hy
      simp only [encTE]
      walk_at "tl"
      refine ⟨rfl, false, hd_notTup e t ht, false, rfl, ?_⟩
      walk_at "tl"
      refine ⟨by rw [List.length_map]; omega, ?_⟩
      exact next _
    | inr k =>
      have hkm : k ∈ e.kids := by simpa using hy
      have hs1 := h1 (fun z => by rw [z] at hkm; cases hkm)
      subst hs1
      simp only [encTE]
      walk_at "tl"
      refine ⟨rfl, true, enc_isTup k, true, rfl, ?_⟩
      walk_at "tl"
      refine ⟨k, x, v, rfl, hd k hkm, ?_⟩
      walk_at "tl"
      refine ⟨by rw [List.length_map]; omega, ?_⟩
      exact next _
  · rintro st G' ⟨zs, hL, rfl, rfl⟩
    refine ⟨trivial, ?_⟩
    walk_at "tl"
    rw [List.append_nil] at hL
    rw [← hL, List.map_append, List.map_map, List.map_map]
    have e1 : e.hd.map (outTE x v ∘ Sum.inl) = e.hd := (List.map_congr_left fun _ _ => rfl).trans (List.map_id _)
    rw [e1]
    exact .of h
theorem pure__law_substituted (d : Nat) (s1 : TSp) (h1 : ∀ k, d = k + 1 → s1 = sp__law_substituted k) (ts : List T) (G : GH) (R : TK) (h : sp__law_substituted d ts G R) : t__law_substituted s1 { nx := fun _ G' => WkR R .non G', rt := WkR R } (startT ["row", "name", "given", "word", "found", "part"] ts) G := by
  obtain ⟨e, x, v, rfl, hd, h⟩ := h
  have z : (1000 : Nat) ≤ sizeLine := by decide
  have hks := e.kid_dep
  have go : (Ex.putc x v e false).enc = .tup (e.hd ++ e.kids.map fun k => (Ex.putc x v k false).enc) → ∀ w, forGo (fun _ => True) (gname 5) (tseq (tifs (ttruth (tcb vistup (tacons (tvar 5) (tacons (tcon (.ty "tuple")) tanil)))) (tasg (tcall s1 (tacons (tvar 5) (tacons (tvar 1) (tacons (tvar 2) tanil)))) (gname 5)) tnext) (t__law_substituted_r1 s1))
      { nx := tret (tvar 4) { nx := fun _ G' => WkR R .non G', rt := WkR R }, rt := WkR R } (e.hd ++ e.kids.map Ex.enc) [some e.enc, some (.str x), some v.enc, some (.str w), some (.tup []), none] G := by
    intro ef w
    refine sub_loop (d - 1) s1 e x v w G R (fun hne => ?_) (fun k hk => by have := hks k hk; omega) (ef ▸ h)
    obtain ⟨k, hk⟩ := List.exists_mem_of_ne_nil _ hne
    have := hks k hk
    have := k.dep_pos
    exact h1 (d - 1) (by omega)
  unfold t__law_substituted
  cases e with
  | nam y =>
    simp only [Ex.enc]
    walk_at "tl"
    intro q hq
    by_cases hy : y = x
    · have ev : Ex.putc x v (.nam y) false = v := by simp [Ex.putc, hy]
      rw [ev] at h
      rw [show decide (y = x) = true by simp [hy]]
      walk_at "tl"
      exact vix_lst gupd_same atI1 (wkR_new hq h)
    · have ev : Ex.putc x v (.nam y) false = .nam y := by simp [Ex.putc, hy]
      rw [ev] at h
      rw [show decide (y = x) = false by simp [hy]]
      walk_at "tl"
      exact vix_lst gupd_same atI0 (wkR_new hq h)
  | fn y b =>
    by_cases hy : y = x
    · have ev : Ex.putc x v (.fn y b) false = .fn y b := by simp [Ex.putc, hy, putc_true]
      rw [ev] at h
      simp only [Ex.enc] at h ⊢
      walk_at "tl"
      rw [if_pos (by simpa using hy)]
      exact .of h
    · have go := go (by simp [Ex.putc, Ex.enc, Ex.hd, Ex.kids, Ne.symm hy])
      simp only [Ex.enc, Ex.hd, Ex.kids, List.map_cons, List.map_nil, List.cons_append, List.nil_append] at go ⊢
      walk_at "tl"
      rw [if_neg (by simpa using hy)]
      exact go _
  | rc f y b =>
    have cut : cutT [T.str "rec", .str f, .str y, b.enc] (some 1) (some 3) = [f, y].map T.str := rfl
    by_cases hy : x ∈ [f, y]
    · have ev : Ex.putc x v (.rc f y b) false = .rc f y b := by simp only [Ex.putc, decide_eq_true hy, Bool.or_true, putc_true]
      rw [ev] at h
      simp only [Ex.enc] at h ⊢
      walk_at "tl"
      rw [cut]
      refine vin_strs ?_
      simp only [decide_eq_true hy]
      walk_at "tl"
      exact .of h
    · have go := go (by simp only [Ex.putc, decide_eq_false hy, Bool.or_false]; rfl)
      simp only [Ex.enc, Ex.hd, Ex.kids, List.map_cons, List.map_nil, List.cons_append, List.nil_append] at go ⊢
      walk_at "tl"
      rw [cut]
      refine vin_strs ?_
      simp only [decide_eq_false hy]
      walk_at "tl"
      exact go _
  | lt y a b =>
    by_cases hy : y = x
    · have da := hks a (by simp [Ex.kids])
      have pa := a.dep_pos
      obtain ⟨k, rfl⟩ : ∃ k, d = k + 1 := ⟨d - 1, by omega⟩
      obtain rfl := h1 k rfl
      have ev : Ex.putc x v (.lt y a b) false = .lt y (Ex.putc x v a false) b := by simp [Ex.putc, hy, putc_true]
      rw [ev] at h
      simp only [Ex.enc] at h ⊢
      walk_at "tl"
      rw [if_pos (by simpa using hy)]
      refine ⟨a, x, v, rfl, by omega, ?_⟩
      rw [hy] at h
      exact .of h
    · have go := go (by simp [Ex.putc, Ex.enc, Ex.hd, Ex.kids, Ne.symm hy])
      simp only [Ex.enc, Ex.hd, Ex.kids, List.map_cons, List.map_nil, List.cons_append, List.nil_append] at go ⊢
      walk_at "tl"
      rw [if_neg (by simpa using hy)]
      exact go _
  | _ =>
    have go := go (by simp [Ex.putc, Ex.enc, Ex.hd, Ex.kids])
    simp only [Ex.enc, Ex.hd, Ex.kids, List.map_cons, List.map_nil, List.cons_append, List.nil_append] at go ⊢
    walk_at "tl"
    exact go _
end TL

namespace TL
open PySem PySem.Spec PyProof.Rows L2
theorem free_out : ∀ (e : Ex) (r : List Str), ∀ z ∈ e.free r, z ∉ r
  | .nam y, r => by
    simp only [Ex.free]; split
    · simp
    · intro z hz; simp at hz; subst hz; assumption
  | .fn y b, r => fun z hz h => free_out b _ z hz (List.mem_append_left _ h)
  | .rc f y b, r => fun z hz h => free_out b _ z hz (List.mem_append_left _ h)
  | .app f a, r => fun z hz => (List.mem_append.mp hz).elim (free_out f r z) (free_out a r z)
  | .lt y a b, r => fun z hz h => (List.mem_append.mp hz).elim (fun q => free_out a r z q h) (fun q => free_out b _ z q (List.mem_append_left _ h))
  | .ite i a b, r => fun z hz => (List.mem_append.mp hz).elim (free_out i r z) fun hz => (List.mem_append.mp hz).elim (free_out a r z) (free_out b r z)
  | .op _ a b, r => fun z hz => (List.mem_append.mp hz).elim (free_out a r z) (free_out b r z)
  | .ext _ a b, r => fun z hz => (List.mem_append.mp hz).elim (free_out a r z) (free_out b r z)
  | .sel _ a, r => free_out a r
  | .drp _ a, r => free_out a r
  | .num _, r => fun z hz => by cases hz
  | .tru _, r => fun z hz => by cases hz
  | .emp, r => fun z hz => by cases hz
theorem filt_out {x : Str} {e : Ex} {r : List Str} (h : x ∈ r) : (e.free r).filter (fun z => decide (z ≠ x)) = e.free r :=
  List.filter_eq_self.mpr fun z hz => decide_eq_true fun q => free_out e r z hz (q ▸ h)
/-- v brings no names of its own -/
def Shut (v : Ex) : Prop := ∀ r, v.free r = []
theorem free_put {x : Str} {v : Ex} (hv : Shut v) : ∀ (e : Ex) (r : List Str), x ∉ r → (Ex.putc x v e false).free r = (e.free r).filter fun z => decide (z ≠ x)
  | .nam y, r, hx => by
    by_cases hy : y = x
    · subst hy
      simp [Ex.putc, Ex.free, hx, hv r]
    · simp only [Ex.putc, hy, false_and, if_false, Ex.free]
      split <;> simp [hy]
  | .fn y b, r, hx => by
    by_cases hy : x ∈ [y]
    · simp only [Ex.putc, Ex.free, decide_eq_true hy, Bool.or_true, putc_true]
      exact (filt_out (List.mem_append_right _ hy)).symm
    · simp only [Ex.putc, Ex.free, decide_eq_false hy, Bool.or_false]
      exact free_put hv b _ (by simp at hy ⊢; exact ⟨hx, hy⟩)
  | .rc f y b, r, hx => by
    by_cases hy : x ∈ [f, y]
    · simp only [Ex.putc, Ex.free, decide_eq_true hy, Bool.or_true, putc_true]
      exact (filt_out (List.mem_append_right _ hy)).symm
    · simp only [Ex.putc, Ex.free, decide_eq_false hy, Bool.or_false]
      exact free_put hv b _ (by simp at hy ⊢; exact ⟨hx, hy⟩)
  | .lt y a b, r, hx => by
    by_cases hy : x ∈ [y]
    · simp only [Ex.putc, Ex.free, decide_eq_true hy, Bool.or_true, putc_true, List.filter_append, free_put hv a r hx]
      rw [filt_out (e := b) (List.mem_append_right r hy)]
    · simp only [Ex.putc, Ex.free, decide_eq_false hy, Bool.or_false, List.filter_append, free_put hv a r hx]
      rw [free_put hv b _ (by simp at hy ⊢; exact ⟨hx, hy⟩)]
  | .app f a, r, hx => by simp only [Ex.putc, Ex.free, List.filter_append, free_put hv f r hx, free_put hv a r hx]
  | .ite i a b, r, hx => by simp only [Ex.putc, Ex.free, List.filter_append, free_put hv i r hx, free_put hv a r hx, free_put hv b r hx]
  | .op _ a b, r, hx => by simp only [Ex.putc, Ex.free, List.filter_append, free_put hv a r hx, free_put hv b r hx]
  | .ext _ a b, r, hx => by simp only [Ex.putc, Ex.free, List.filter_append, free_put hv a r hx, free_put hv b r hx]
  | .sel _ a, r, hx => by simp only [Ex.putc, Ex.free, free_put hv a r hx]
  | .drp _ a, r, hx => by simp only [Ex.putc, Ex.free, free_put hv a r hx]
  | .num _, r, hx => rfl
  | .tru _, r, hx => rfl
  | .emp, r, hx => rfl
theorem ins_filt (p : Str → Bool) (F : List Str) (y : Str) : (ins F y).filter p = if p y = true then ins (F.filter p) y else F.filter p := by
  unfold ins
  by_cases hy : y ∈ F
  · rw [if_pos hy]
    split
    · rename_i hp
      rw [if_pos (List.mem_filter.mpr ⟨hy, hp⟩)]
    · rfl
  · rw [if_neg hy, List.filter_append]
    split
    · rename_i hp
      rw [if_neg fun h => hy (List.mem_filter.mp h).1]
      simp [hp]
    · rename_i hp
      simp [hp]
theorem once_filt (p : Str → Bool) : ∀ (xs F : List Str), (xs.foldl ins F).filter p = (xs.filter p).foldl ins (F.filter p)
  | [], _ => rfl
  | y :: xs, F => by
    rw [List.foldl_cons, once_filt p xs, ins_filt]
    by_cases hp : p y = true
    · rw [if_pos hp, List.filter_cons_of_pos hp, List.foldl_cons]
    · rw [if_neg hp, List.filter_cons_of_neg hp]
theorem put_put {x : Str} {v w : Ex} (h : Ex.putc x w v false = v) : ∀ (e : Ex) (c : Bool), Ex.putc x w (Ex.putc x v e c) c = Ex.putc x v e c
  | .nam y, c => by
    by_cases hy : y = x ∧ c = false
    · simp only [Ex.putc, if_pos hy]; rw [hy.2]; exact h
    · simp only [Ex.putc, if_neg hy]
  | .fn _ b, c => by simp only [Ex.putc, put_put h b]
  | .rc _ _ b, c => by simp only [Ex.putc, put_put h b]
  | .app f a, c => by simp only [Ex.putc, put_put h f, put_put h a]
  | .lt _ a b, c => by simp only [Ex.putc, put_put h a, put_put h b]
  | .ite i a b, c => by simp only [Ex.putc, put_put h i, put_put h a, put_put h b]
  | .op _ a b, c => by simp only [Ex.putc, put_put h a, put_put h b]
  | .ext _ a b, c => by simp only [Ex.putc, put_put h a, put_put h b]
  | .sel _ a, c => by simp only [Ex.putc, put_put h a]
  | .drp _ a, c => by simp only [Ex.putc, put_put h a]
  | .num _, c => rfl
  | .tru _, c => rfl
  | .emp, c => rfl
theorem put_size {x : Str} {v : Ex} (h : v.size ≤ 3) : ∀ (e : Ex) (c : Bool), (Ex.putc x v e c).size ≤ 3 * e.size
  | .nam y, c => by simp only [Ex.putc]; split <;> simp [Ex.size] <;> omega
  | .fn _ b, c => by have := put_size (x := x) h b; simp only [Ex.putc, Ex.size]; exact Nat.le_trans (Nat.succ_le_succ (this _)) (by omega)
  | .rc _ _ b, c => by have := put_size (x := x) h b; simp only [Ex.putc, Ex.size]; exact Nat.le_trans (Nat.succ_le_succ (this _)) (by omega)
  | .app f a, c => by have := put_size (x := x) h f c; have := put_size (x := x) h a c; simp only [Ex.putc, Ex.size]; omega
  | .lt y a b, c => by have := put_size (x := x) h a c; have := put_size (x := x) h b (c || decide (x ∈ [y])); simp only [Ex.putc, Ex.size]; omega
  | .ite i a b, c => by have := put_size (x := x) h i c; have := put_size (x := x) h a c; have := put_size (x := x) h b c; simp only [Ex.putc, Ex.size]; omega
  | .op _ a b, c => by have := put_size (x := x) h a c; have := put_size (x := x) h b c; simp only [Ex.putc, Ex.size]; omega
  | .ext _ a b, c => by have := put_size (x := x) h a c; have := put_size (x := x) h b c; simp only [Ex.putc, Ex.size]; omega
  | .sel _ a, c => by have := put_size (x := x) h a c; simp only [Ex.putc, Ex.size]; omega
  | .drp _ a, c => by have := put_size (x := x) h a c; simp only [Ex.putc, Ex.size]; omega
  | .num _, c => by simp [Ex.putc, Ex.size]
  | .tru _, c => by simp [Ex.putc, Ex.size]
  | .emp, c => by simp [Ex.putc, Ex.size]
theorem put_ok {x : Str} {v : Ex} (h : v.ok) : ∀ (e : Ex) (c : Bool), e.ok → (Ex.putc x v e c).ok
  | .nam y, c, k => by simp only [Ex.putc]; split <;> assumption
  | .fn _ b, c, k => ⟨k.1, put_ok h b _ k.2⟩
  | .rc _ _ b, c, k => ⟨k.1, k.2.1, put_ok h b _ k.2.2⟩
  | .app f a, c, k => ⟨put_ok h f _ k.1, put_ok h a _ k.2⟩
  | .lt _ a b, c, k => ⟨k.1, put_ok h a _ k.2.1, put_ok h b _ k.2.2⟩
  | .ite i a b, c, k => ⟨put_ok h i _ k.1, put_ok h a _ k.2.1, put_ok h b _ k.2.2⟩
  | .op _ a b, c, k => ⟨k.1, put_ok h a _ k.2.1, put_ok h b _ k.2.2⟩
  | .ext _ a b, c, k => ⟨k.1, put_ok h a _ k.2.1, put_ok h b _ k.2.2⟩
  | .sel _ a, c, k => ⟨k.1, put_ok h a _ k.2⟩
  | .drp _ a, c, k => ⟨k.1, put_ok h a _ k.2⟩
  | .num _, c, k => k
  | .tru _, c, k => k
  | .emp, c, k => k
theorem free_ok : ∀ (e : Ex) (r : List Str), e.ok → ∀ z ∈ e.free r, z ∈ NMS
  | .nam y, r, k => by
    simp only [Ex.free]; split
    · simp
    · intro z hz; simp at hz; subst hz; exact k
  | .fn y b, r, k => free_ok b _ k.2
  | .rc f y b, r, k => free_ok b _ k.2.2
  | .app f a, r, k => fun z hz => (List.mem_append.mp hz).elim (free_ok f r k.1 z) (free_ok a r k.2 z)
  | .lt y a b, r, k => fun z hz => (List.mem_append.mp hz).elim (free_ok a r k.2.1 z) (free_ok b _ k.2.2 z)
  | .ite i a b, r, k => fun z hz => (List.mem_append.mp hz).elim (free_ok i r k.1 z) fun hz => (List.mem_append.mp hz).elim (free_ok a r k.2.1 z) (free_ok b r k.2.2 z)
  | .op _ a b, r, k => fun z hz => (List.mem_append.mp hz).elim (free_ok a r k.2.1 z) (free_ok b r k.2.2 z)
  | .ext _ a b, r, k => fun z hz => (List.mem_append.mp hz).elim (free_ok a r k.2.1 z) (free_ok b r k.2.2 z)
  | .sel _ a, r, k => free_ok a r k.2
  | .drp _ a, r, k => free_ok a r k.2
  | .num _, r, _ => fun z hz => by cases hz
  | .tru _, r, _ => fun z hz => by cases hz
  | .emp, r, _ => fun z hz => by cases hz
theorem ins_sub : ∀ (xs F : List Str), ∀ z ∈ xs.foldl ins F, z ∈ F ∨ z ∈ xs
  | [], F => fun z h => .inl h
  | y :: xs, F => fun z h => by
    rcases ins_sub xs (ins F y) z h with h | h
    · unfold ins at h
      split at h
      · exact .inl h
      · rcases List.mem_append.mp h with h | h
        · exact .inl h
        · simp at h; exact .inr (by simp [h])
    · exact .inr (List.mem_cons_of_mem _ h)
theorem once_sub {xs : List Str} : ∀ z ∈ onceS xs, z ∈ xs := fun z h => (ins_sub xs [] z h).elim (fun h => by cases h) id
theorem ins_foldl_len : ∀ (xs F : List Str), (xs.foldl ins F).length ≤ F.length + xs.length
  | [], F => Nat.le_refl _
  | y :: xs, F => by
    have h1 := ins_foldl_len xs (ins F y)
    have h2 := ins_len F y
    simp only [List.foldl_cons, List.length_cons]; omega
theorem onceS_len (xs : List Str) : (onceS xs).length ≤ xs.length := by have := ins_foldl_len xs []; unfold onceS; simpa using this
def Ex.dat : Ex → PyData
  | .num i => .tuple [.str "number", .int i]
  | .tru b => .tuple [.str "truth", .bool b]
  | .nam x => .tuple [.str "name", .str x]
  | .fn x b => .tuple [.str "fun", .str x, b.dat]
  | .rc f x b => .tuple [.str "rec", .str f, .str x, b.dat]
  | .app f a => .tuple [.str "call", f.dat, a.dat]
  | .lt x a b => .tuple [.str "let", .str x, a.dat, b.dat]
  | .ite c a b => .tuple [.str "if", c.dat, a.dat, b.dat]
  | .op o a b => .tuple [.str "op", .str o, a.dat, b.dat]
  | .emp => .tuple [.str "empty"]
  | .ext l a r => .tuple [.str "extend", .str l, a.dat, r.dat]
  | .sel l r => .tuple [.str "select", .str l, r.dat]
  | .drp l r => .tuple [.str "drop", .str l, r.dat]
theorem dat_tup {G : GH} {xs : List T} {ds : List PyData} (h : Paired (Dat G) xs ds) : Dat G (.tup xs) (.tuple ds) :=
  .tup (Paired.length h) fun i t d e1 e2 => by
    induction h generalizing i with
    | nil => cases e1
    | cons q _ ih =>
      cases i with
      | zero => cases e1; cases e2; exact q
      | succ i => exact ih i e1 e2
theorem dat_lst {G : GH} {p : Addr} {xs : List T} {ds : List PyData} (hp : G p = some (.lst xs)) (h : Paired (Dat G) xs ds) : Dat G (.ref p) (.list ds) :=
  .lst hp (Paired.length h) fun i t d e1 e2 => by
    clear hp
    induction h generalizing i with
    | nil => cases e1
    | cons q _ ih =>
      cases i with
      | zero => cases e1; cases e2; exact q
      | succ i => exact ih i e1 e2
theorem Ex.datOk {G : GH} : ∀ e : Ex, Dat G e.enc e.dat
  | .num i => dat_tup (.cons (.str _) (.cons (.int i) .nil))
  | .tru b => dat_tup (.cons (.str _) (.cons (.bl b) .nil))
  | .nam x => dat_tup (.cons (.str _) (.cons (.str x) .nil))
  | .fn x b => dat_tup (.cons (.str _) (.cons (.str x) (.cons b.datOk .nil)))
  | .rc f x b => dat_tup (.cons (.str _) (.cons (.str f) (.cons (.str x) (.cons b.datOk .nil))))
  | .app f a => dat_tup (.cons (.str _) (.cons f.datOk (.cons a.datOk .nil)))
  | .lt x a b => dat_tup (.cons (.str _) (.cons (.str x) (.cons a.datOk (.cons b.datOk .nil))))
  | .ite c a b => dat_tup (.cons (.str _) (.cons c.datOk (.cons a.datOk (.cons b.datOk .nil))))
  | .op o a b => dat_tup (.cons (.str _) (.cons (.str o) (.cons a.datOk (.cons b.datOk .nil))))
  | .emp => dat_tup (.cons (.str _) .nil)
  | .ext l a r => dat_tup (.cons (.str _) (.cons (.str l) (.cons a.datOk (.cons r.datOk .nil))))
  | .sel l r => dat_tup (.cons (.str _) (.cons (.str l) (.cons r.datOk .nil)))
  | .drp l r => dat_tup (.cons (.str _) (.cons (.str l) (.cons r.datOk .nil)))
/-- small enough to be shown -/
structure Fine (d : PyData) (w k : Nat) : Prop where
  sh : d.showable = true
  ls : d.leavesShort 13 = true
  wt : d.weight ≤ w
  dp : d.depth ≤ k
theorem Fine.shw {d : PyData} {w k : Nat} (h : Fine d w k) (hw : w ≤ 2 ^ 20) (hk : k ≤ 1200) : Shw d := ⟨h.sh, Nat.le_trans h.dp hk, PyData.shown_fits (by decide) (by decide) h.ls (Nat.le_trans h.wt hw)⟩
theorem fine_str : ∀ x ∈ NMS, Fine (.str x) 8 0 := by
  intro x hx
  have : (PyData.str x).leavesShort 13 = true ∧ (PyData.str x).weight ≤ 8 := (by decide : ∀ x ∈ NMS, (PyData.str x).leavesShort 13 = true ∧ (PyData.str x).weight ≤ 8) x hx
  exact ⟨rfl, this.1, this.2, Nat.le_refl _⟩
def HDS : List Str := ["number", "truth", "name", "fun", "rec", "call", "let", "if", "op", "empty", "extend", "select", "drop"]
theorem fine_hd : ∀ x ∈ HDS, Fine (.str x) 8 0 := by
  intro x hx
  have : (PyData.str x).leavesShort 13 = true ∧ (PyData.str x).weight ≤ 8 := (by decide : ∀ x ∈ HDS, (PyData.str x).leavesShort 13 = true ∧ (PyData.str x).weight ≤ 8) x hx
  exact ⟨rfl, this.1, this.2, Nat.le_refl _⟩
theorem fine_int {i : Int} (h0 : 0 ≤ i) (h1 : i ≤ 999999) : Fine (.int i) 20 0 := by
  have hl : i.natAbs.log2 < 20 := by
    by_cases z : i.natAbs = 0
    · rw [z]; decide
    · exact (Nat.log2_lt z).mpr (by omega)
  refine ⟨?_, ?_, ?_, Nat.le_refl _⟩
  · show decide (i.natAbs.log2 < 1920) = true
    exact decide_eq_true (by omega)
  · show decide ((PyData.shown (.int i)).length ≤ 13) = true
    exact decide_eq_true (PyData.shown_int_le (by omega))
  · show (if i == 0 then 0 else i.natAbs.log2 + 1) ≤ 20
    split <;> omega
theorem fine_tup {ds : List PyData} {w k : Nat} (h : ∀ d ∈ ds, ∃ w', Fine d w' k) (hw : PyData.weightAll ds ≤ w) : Fine (.tuple ds) w (k + 1) := by
  have : PyData.showableAll ds = true ∧ PyData.leavesShortAll 13 ds = true ∧ PyData.depthAll ds ≤ k := by
    clear hw
    induction ds with
    | nil => exact ⟨rfl, rfl, Nat.zero_le _⟩
    | cons d ds ih =>
      obtain ⟨w', f⟩ := h d (by simp)
      obtain ⟨h1, h2, h3⟩ := ih fun x hx => h x (by simp [hx])
      simp only [PyData.showableAll, PyData.leavesShortAll, PyData.depthAll, f.sh, f.ls, h1, h2, Bool.and_self, true_and]
      exact Nat.max_le.mpr ⟨f.dp, h3⟩
  refine ⟨?_, ?_, ?_, ?_⟩
  · simp only [PyData.showable]; exact this.1
  · simp only [PyData.leavesShort]; exact this.2.1
  · simp only [PyData.weight]; exact hw
  · simp only [PyData.depth]; omega
theorem fine_list {ds : List PyData} {w k : Nat} (h : ∀ d ∈ ds, ∃ w', Fine d w' k) (hw : PyData.weightAll ds ≤ w) : Fine (.list ds) w (k + 1) := by
  obtain ⟨h1, h2, h3, h4⟩ := fine_tup h hw
  refine ⟨?_, ?_, ?_, ?_⟩
  · simpa only [PyData.showable] using h1
  · simpa only [PyData.leavesShort] using h2
  · simpa only [PyData.weight] using h3
  · simpa only [PyData.depth] using h4
theorem put_dep {x : Str} {v : Ex} (h : v.dep ≤ 3) : ∀ (e : Ex) (c : Bool), (Ex.putc x v e c).dep ≤ e.dep + 2
  | .nam y, c => by simp only [Ex.putc]; split <;> simp only [Ex.dep] <;> omega
  | .fn y b, c => by have := put_dep (x := x) h b (c || decide (x ∈ [y])); simp only [Ex.putc, Ex.dep]; omega
  | .rc f y b, c => by have := put_dep (x := x) h b (c || decide (x ∈ [f, y])); simp only [Ex.putc, Ex.dep]; omega
  | .app f a, c => by have := put_dep (x := x) h f c; have := put_dep (x := x) h a c; simp only [Ex.putc, Ex.dep]; omega
  | .lt y a b, c => by have := put_dep (x := x) h a c; have := put_dep (x := x) h b (c || decide (x ∈ [y])); simp only [Ex.putc, Ex.dep]; omega
  | .ite i a b, c => by have := put_dep (x := x) h i c; have := put_dep (x := x) h a c; have := put_dep (x := x) h b c; simp only [Ex.putc, Ex.dep]; omega
  | .op _ a b, c => by have := put_dep (x := x) h a c; have := put_dep (x := x) h b c; simp only [Ex.putc, Ex.dep]; omega
  | .ext _ a b, c => by have := put_dep (x := x) h a c; have := put_dep (x := x) h b c; simp only [Ex.putc, Ex.dep]; omega
  | .sel _ a, c => by have := put_dep (x := x) h a c; simp only [Ex.putc, Ex.dep]; omega
  | .drp _ a, c => by have := put_dep (x := x) h a c; simp only [Ex.putc, Ex.dep]; omega
  | .num _, c => by simp [Ex.putc, Ex.dep]
  | .tru _, c => by simp [Ex.putc, Ex.dep]
  | .emp, c => by simp [Ex.putc, Ex.dep]
theorem Fine.up {d : PyData} {w k k' : Nat} (h : Fine d w k) (hk : k ≤ k') : Fine d w k' := ⟨h.sh, h.ls, h.wt, Nat.le_trans h.dp hk⟩
/-- data all of which is fine, with the sum of its weights -/
inductive Fines : List PyData → Nat → Nat → Prop
  | nil {k : Nat} : Fines [] 0 k
  | cons {d : PyData} {ds : List PyData} {w w2 k k2 : Nat} : Fine d w k2 → k2 ≤ k → Fines ds w2 k → Fines (d :: ds) (w + 1 + w2) k
theorem Fines.all {ds : List PyData} {w k : Nat} (h : Fines ds w k) : (∀ d ∈ ds, ∃ w', Fine d w' k) ∧ PyData.weightAll ds ≤ w := by
  induction h with
  | nil => exact ⟨fun d h => (by cases h), Nat.le_refl _⟩
  | cons f hk _ ih =>
    refine ⟨fun d h => ?_, ?_⟩
    · rcases List.mem_cons.mp h with rfl | h
      · exact ⟨_, f.up hk⟩
      · exact ih.1 d h
    · simp only [PyData.weightAll]
      have := f.wt
      have := ih.2
      omega
theorem Fines.tup {ds : List PyData} {w w2 k k2 : Nat} (h : Fines ds w k) (hw : w ≤ w2) (hk : k + 1 ≤ k2) : Fine (.tuple ds) w2 k2 := (fine_tup h.all.1 (Nat.le_trans h.all.2 hw)).up hk
theorem fine_ex : ∀ e : Ex, e.ok → Fine e.dat (40 * e.size) e.dep
  | .num i, k => Fines.tup (k := 0) (.cons (fine_hd _ (by decide)) (Nat.le_refl _) (.cons (fine_int k.1 k.2) (Nat.le_refl _) .nil)) (by simp [Ex.size]) (by simp [Ex.dep])
  | .tru b, k => Fines.tup (k := 0) (.cons (fine_hd _ (by decide)) (Nat.le_refl _) (.cons (w := 0) ⟨rfl, rfl, Nat.le_refl _, Nat.le_refl _⟩ (Nat.le_refl _) .nil)) (by simp [Ex.size]) (by simp [Ex.dep])
  | .nam x, k => Fines.tup (k := 0) (.cons (fine_hd _ (by decide)) (Nat.le_refl _) (.cons (fine_str x k) (Nat.le_refl _) .nil)) (by simp [Ex.size]) (by simp [Ex.dep])
  | .fn x b, k => Fines.tup (k := b.dep) (.cons (fine_hd _ (by decide)) (Nat.zero_le _) (.cons (fine_str x k.1) (Nat.zero_le _) (.cons (fine_ex b k.2) (Nat.le_refl _) .nil))) (by simp only [Ex.size]; omega) (by simp [Ex.dep])
  | .rc f x b, k => Fines.tup (k := b.dep) (.cons (fine_hd _ (by decide)) (Nat.zero_le _) (.cons (fine_str f k.1) (Nat.zero_le _) (.cons (fine_str x k.2.1) (Nat.zero_le _) (.cons (fine_ex b k.2.2) (Nat.le_refl _) .nil)))) (by simp only [Ex.size]; omega) (by simp [Ex.dep])
  | .app f a, k => Fines.tup (k := max f.dep a.dep) (.cons (fine_hd _ (by decide)) (Nat.zero_le _) (.cons (fine_ex f k.1) (by omega) (.cons (fine_ex a k.2) (by omega) .nil))) (by simp only [Ex.size]; omega) (by simp [Ex.dep])
  | .lt x a b, k => Fines.tup (k := max a.dep b.dep) (.cons (fine_hd _ (by decide)) (Nat.zero_le _) (.cons (fine_str x k.1) (Nat.zero_le _) (.cons (fine_ex a k.2.1) (by omega) (.cons (fine_ex b k.2.2) (by omega) .nil)))) (by simp only [Ex.size]; omega) (by simp [Ex.dep])
  | .ite c a b, k => Fines.tup (k := max c.dep (max a.dep b.dep)) (.cons (fine_hd _ (by decide)) (Nat.zero_le _) (.cons (fine_ex c k.1) (by omega) (.cons (fine_ex a k.2.1) (by omega) (.cons (fine_ex b k.2.2) (by omega) .nil)))) (by simp only [Ex.size]; omega) (by simp [Ex.dep])
  | .op o a b, k => Fines.tup (k := max a.dep b.dep) (.cons (fine_hd _ (by decide)) (Nat.zero_le _) (.cons (fine_str o (ops_nms o k.1)) (Nat.zero_le _) (.cons (fine_ex a k.2.1) (by omega) (.cons (fine_ex b k.2.2) (by omega) .nil)))) (by simp only [Ex.size]; omega) (by simp [Ex.dep])
  | .emp, k => Fines.tup (k := 0) (.cons (fine_hd _ (by decide)) (Nat.le_refl _) .nil) (by simp [Ex.size]) (by simp [Ex.dep])
  | .ext l a b, k => Fines.tup (k := max a.dep b.dep) (.cons (fine_hd _ (by decide)) (Nat.zero_le _) (.cons (fine_str l k.1) (Nat.zero_le _) (.cons (fine_ex a k.2.1) (by omega) (.cons (fine_ex b k.2.2) (by omega) .nil)))) (by simp only [Ex.size]; omega) (by simp [Ex.dep])
  | .sel l b, k => Fines.tup (k := b.dep) (.cons (fine_hd _ (by decide)) (Nat.zero_le _) (.cons (fine_str l k.1) (Nat.zero_le _) (.cons (fine_ex b k.2) (Nat.le_refl _) .nil))) (by simp only [Ex.size]; omega) (by simp [Ex.dep])
  | .drp l b, k => Fines.tup (k := b.dep) (.cons (fine_hd _ (by decide)) (Nat.zero_le _) (.cons (fine_str l k.1) (Nat.zero_le _) (.cons (fine_ex b k.2) (Nat.le_refl _) .nil))) (by simp only [Ex.size]; omega) (by simp [Ex.dep])
theorem shownAll_map : ∀ ds : List PyData, PyData.shownAll ds = ds.map PyData.shown
  | [] => rfl
  | d :: ds => by rw [PyData.shownAll, List.map_cons, shownAll_map ds]
theorem shown_tup {ds : List PyData} {n : Nat} (h : (ds.map fun d => d.shown.length).sum + 2 * ds.length + 3 ≤ n) : (PyData.tuple ds).shown.length ≤ n := by
  simp only [PyData.shown]
  refine Nat.le_trans (tupleText_len_le _) ?_
  rw [shownAll_map, List.map_map, List.length_map]
  exact h
theorem len_nms : ∀ x ∈ NMS, (PyData.str x).shown.length ≤ 8 := by decide +kernel
theorem len_hds : ∀ x ∈ HDS, (PyData.str x).shown.length ≤ 8 := by decide +kernel
/-- how long an expression is, shown -/
theorem shown_ex : ∀ e : Ex, e.ok → e.dat.shown.length ≤ 40 * e.size
  | .num i, k => shown_tup (by
    have h1 := len_hds "number" (by decide)
    have h2 : (PyData.shown (.int i)).length ≤ 13 := PyData.shown_int_le (by obtain ⟨a, b⟩ := k; omega)
    simp only [List.map_cons, List.map_nil, List.sum_cons, List.sum_nil, List.length_cons, List.length_nil, Ex.size]; omega)
  | .tru b, k => shown_tup (by
    have h1 := len_hds "truth" (by decide)
    have h2 : (PyData.shown (.bool b)).length ≤ 8 := by cases b <;> decide
    simp only [List.map_cons, List.map_nil, List.sum_cons, List.sum_nil, List.length_cons, List.length_nil, Ex.size]; omega)
  | .nam x, k => shown_tup (by
    have h1 := len_hds "name" (by decide)
    have h2 := len_nms x k
    simp only [List.map_cons, List.map_nil, List.sum_cons, List.sum_nil, List.length_cons, List.length_nil, Ex.size]; omega)
  | .fn x b, k => shown_tup (by
    have h1 := len_hds "fun" (by decide)
    have h2 := len_nms x k.1
    have h3 := shown_ex b k.2
    simp only [List.map_cons, List.map_nil, List.sum_cons, List.sum_nil, List.length_cons, List.length_nil, Ex.size]; omega)
  | .rc f x b, k => shown_tup (by
    have h1 := len_hds "rec" (by decide)
    have h2 := len_nms f k.1
    have h3 := len_nms x k.2.1
    have h4 := shown_ex b k.2.2
    simp only [List.map_cons, List.map_nil, List.sum_cons, List.sum_nil, List.length_cons, List.length_nil, Ex.size]; omega)
  | .app f a, k => shown_tup (by
    have h1 := len_hds "call" (by decide)
    have h2 := shown_ex f k.1
    have h3 := shown_ex a k.2
    simp only [List.map_cons, List.map_nil, List.sum_cons, List.sum_nil, List.length_cons, List.length_nil, Ex.size]; omega)
  | .lt x a b, k => shown_tup (by
    have h1 := len_hds "let" (by decide)
    have h2 := len_nms x k.1
    have h3 := shown_ex a k.2.1
    have h4 := shown_ex b k.2.2
    simp only [List.map_cons, List.map_nil, List.sum_cons, List.sum_nil, List.length_cons, List.length_nil, Ex.size]; omega)
  | .ite c a b, k => shown_tup (by
    have h1 := len_hds "if" (by decide)
    have h2 := shown_ex c k.1
    have h3 := shown_ex a k.2.1
    have h4 := shown_ex b k.2.2
    simp only [List.map_cons, List.map_nil, List.sum_cons, List.sum_nil, List.length_cons, List.length_nil, Ex.size]; omega)
  | .op o a b, k => shown_tup (by
    have h1 := len_hds "op" (by decide)
    have h2 := len_nms o (ops_nms o k.1)
    have h3 := shown_ex a k.2.1
    have h4 := shown_ex b k.2.2
    simp only [List.map_cons, List.map_nil, List.sum_cons, List.sum_nil, List.length_cons, List.length_nil, Ex.size]; omega)
  | .emp, k => shown_tup (by
    have h1 := len_hds "empty" (by decide)
    simp only [List.map_cons, List.map_nil, List.sum_cons, List.sum_nil, List.length_cons, List.length_nil, Ex.size]; omega)
  | .ext l a b, k => shown_tup (by
    have h1 := len_hds "extend" (by decide)
    have h2 := len_nms l k.1
    have h3 := shown_ex a k.2.1
    have h4 := shown_ex b k.2.2
    simp only [List.map_cons, List.map_nil, List.sum_cons, List.sum_nil, List.length_cons, List.length_nil, Ex.size]; omega)
  | .sel l b, k => shown_tup (by
    have h1 := len_hds "select" (by decide)
    have h2 := len_nms l k.1
    have h3 := shown_ex b k.2
    simp only [List.map_cons, List.map_nil, List.sum_cons, List.sum_nil, List.length_cons, List.length_nil, Ex.size]; omega)
  | .drp l b, k => shown_tup (by
    have h1 := len_hds "drop" (by decide)
    have h2 := len_nms l k.1
    have h3 := shown_ex b k.2
    simp only [List.map_cons, List.map_nil, List.sum_cons, List.sum_nil, List.length_cons, List.length_nil, Ex.size]; omega)
theorem shw_ex {e : Ex} (h : e.ok) (hs : e.size ≤ 400000) (hd : e.dep ≤ 1200) : Shw e.dat := ⟨(fine_ex e h).sh, Nat.le_trans (fine_ex e h).dp hd, Nat.le_trans (shown_ex e h) (by unfold sizeLine; omega)⟩
/-- a list of names -/
theorem shw_names {xs : List Str} (h : ∀ x ∈ xs, x ∈ NMS) (hl : xs.length ≤ 1000) : Shw (.list (xs.map PyData.str)) := by
  have hw : ∀ ys : List Str, (∀ x ∈ ys, x ∈ NMS) → PyData.weightAll (ys.map PyData.str) ≤ 9 * ys.length := by
    intro ys
    induction ys with
    | nil => intro _; exact Nat.le_refl _
    | cons y r ih =>
      intro hy
      have := ih fun x hx => hy x (by simp [hx])
      have := (fine_str y (hy y (by simp))).wt
      simp only [List.map_cons, PyData.weightAll, List.length_cons]
      omega
  refine (fine_list (w := 9 * xs.length) (k := 0) (fun d hd => ?_) (hw xs h)).shw (by omega) (by omega)
  obtain ⟨x, hx, rfl⟩ := List.mem_map.mp hd
  exact ⟨8, fine_str x (h x hx)⟩
theorem dat_names {G : GH} {p : Addr} {xs : List Str} (hp : G p = some (.lst (xs.map T.str))) : Dat G (.ref p) (.list (xs.map PyData.str)) := by
  refine dat_lst hp ?_
  clear hp
  induction xs with
  | nil => exact .nil
  | cons x r ih => exact .cons (.str x) ih
end TL

namespace TL
open PySem PySem.Spec PyProof.Rows L2
local macro_rules | `(tactic| walk_at "tl") => `(tactic| try simp +decide only [tseq, vint_bl, vneg_int, irevr1_eq, tpl, exists_ptup, vptuple_ref, tmethT, tandV, torV, tnotV, tasg, tifs, tbool, tret, tretN, tdrop, tnext, tcont, tbreak, gname, gtup_tup, gcons_cons, gnil_nil, GO.lst.injEq, GO.dK.injEq, top, tvar, tcon, tun, ttup, tlst, tacons, tanil, tcb, tcall, tife, tand, tor, tnot, tandV, torV, tnotV, tisN, tnotN, T.isNon, ttruth, truth_bl, truth_non, truth_int, truth_tup, truth_fl, tsl, tpart, tnopart, tsortk, tlc, tfor, iany, irev, irange1_eq, irange2_eq, items_tup, items_fl, items_ref, twipe, List.set, izip_eq, tput_eq, vlist_tup, tmeth, isL, mappend_ref, mextend_tup, trev, exists_eq, exists_eq', 
  vix_tup, vix_fl, veq_str, vne_str, veq_int, vne_int, vcmp_int, vadd_int, vaddI_int, vadd_tup, vadd_str, vsub_int, vI_int, vlen_tup, vlen_fl, vlen_str, vtuple_tup, vtuple_ref, vint_int, vsl_tup, cut_from1, atI0, atI1, atI2, atI3, taug,
  startT, List.map_cons, List.map_nil, List.length_cons, List.length_nil, List.cons_append, List.nil_append, List.getElem?_cons_zero, List.getElem?_cons_succ, List.set_cons_zero, List.set_cons_succ, List.replicate, Option.some.injEq, exists_eq_left', exists_eq_left, T.bl.injEq, T.int.injEq, T.str.injEq, T.tup.injEq, T.ref.injEq, if_true, if_false, ite_true, ite_false, true_and, and_true, reduceCtorEq, gupd_same, gupd_gupd, Option.map_some, Option.map_none, Option.isSome_some, Option.isSome_none, Bool.not_true, Bool.not_false, Bool.true_eq_false, Bool.false_eq_true, List.cons.injEq, decide_true, decide_false])
def offs : Nat → List Ex → List (Ex × Nat)
  | _, [] => []
  | k, e :: r => (e, k) :: offs (k + e.size) r
def kidsI (p : Ex × Nat) : List (Ex × Nat) := offs (p.2 + 1) p.1.kids
def Ex.preI : Ex → Nat → List (Ex × Nat)
  | .fn y b, k => (.fn y b, k) :: b.preI (k + 1)
  | .rc f y b, k => (.rc f y b, k) :: b.preI (k + 1)
  | .app f a, k => (.app f a, k) :: (f.preI (k + 1) ++ a.preI (k + 1 + f.size))
  | .lt y a b, k => (.lt y a b, k) :: (a.preI (k + 1) ++ b.preI (k + 1 + a.size))
  | .ite c a b, k => (.ite c a b, k) :: (c.preI (k + 1) ++ (a.preI (k + 1 + c.size) ++ b.preI (k + 1 + c.size + a.size)))
  | .op o a b, k => (.op o a b, k) :: (a.preI (k + 1) ++ b.preI (k + 1 + a.size))
  | .ext l a b, k => (.ext l a b, k) :: (a.preI (k + 1) ++ b.preI (k + 1 + a.size))
  | .sel l b, k => (.sel l b, k) :: b.preI (k + 1)
  | .drp l b, k => (.drp l b, k) :: b.preI (k + 1)
  | e, k => [(e, k)]
def preP (p : Ex × Nat) : List (Ex × Nat) := p.1.preI p.2
theorem preP_eq (p : Ex × Nat) : preP p = p :: (kidsI p).flatMap preP := by
  obtain ⟨e, k⟩ := p
  cases e <;> simp [preP, kidsI, Ex.preI, Ex.kids, offs]
theorem preP_pos (p : Ex × Nat) : 1 ≤ (preP p).length := by rw [preP_eq]; simp
theorem range_cat (k m n : Nat) : List.range' k m ++ List.range' (k + m) n = List.range' k (m + n) := by
  have := List.range'_append (s := k) (m := m) (n := n) (step := 1)
  simpa using this
theorem Ex.preI_nums : ∀ (e : Ex) (k : Nat), (e.preI k).map (·.2) = List.range' k e.size
  | .fn _ b, k => by simp only [Ex.preI, Ex.size, List.map_cons, b.preI_nums, List.range'_succ]
  | .rc _ _ b, k => by simp only [Ex.preI, Ex.size, List.map_cons, b.preI_nums, List.range'_succ]
  | .app f a, k => by simp only [Ex.preI, Ex.size, List.map_cons, List.map_append, f.preI_nums, a.preI_nums, List.range'_succ, range_cat]
  | .lt _ f a, k => by simp only [Ex.preI, Ex.size, List.map_cons, List.map_append, f.preI_nums, a.preI_nums, List.range'_succ, range_cat]
  | .ite c f a, k => by simp only [Ex.preI, Ex.size, List.map_cons, List.map_append, c.preI_nums, f.preI_nums, a.preI_nums, List.range'_succ, range_cat]; rw [Nat.add_assoc c.size]
  | .op _ f a, k => by simp only [Ex.preI, Ex.size, List.map_cons, List.map_append, f.preI_nums, a.preI_nums, List.range'_succ, range_cat]
  | .ext _ f a, k => by simp only [Ex.preI, Ex.size, List.map_cons, List.map_append, f.preI_nums, a.preI_nums, List.range'_succ, range_cat]
  | .sel _ b, k => by simp only [Ex.preI, Ex.size, List.map_cons, b.preI_nums, List.range'_succ]
  | .drp _ b, k => by simp only [Ex.preI, Ex.size, List.map_cons, b.preI_nums, List.range'_succ]
  | .num _, k => rfl
  | .tru _, k => rfl
  | .nam _, k => rfl
  | .emp, k => rfl
theorem Ex.preI_len (e : Ex) (k : Nat) : (e.preI k).length = e.size := by
  have := congrArg List.length (e.preI_nums k)
  simpa using this
theorem Ex.preI_at {e : Ex} {u : Ex × Nat} (h : u ∈ e.preI 0) : (e.preI 0)[u.2]? = some u := by
  obtain ⟨i, hi, e1⟩ := List.getElem_of_mem h
  have e2 : (e.preI 0)[i]? = some u := by rw [List.getElem?_eq_getElem hi, e1]
  have e3 : ((e.preI 0).map (·.2))[i]? = some u.2 := by rw [List.getElem?_map, e2]; rfl
  rw [e.preI_nums, List.getElem?_range' (by rw [e.preI_len] at hi; exact hi)] at e3
  have : i = u.2 := by simpa using e3
  rw [← this]; exact e2
theorem preP_trans : ∀ (n : Nat) (u v w : Ex × Nat), (preP u).length ≤ n → v ∈ preP u → w ∈ preP v → w ∈ preP u := by
  intro n
  induction n with
  | zero => intro u v w h; have := preP_pos u; omega
  | succ n ih =>
    intro u v w h hv hw
    rw [preP_eq] at hv h ⊢
    rcases List.mem_cons.mp hv with rfl | hv
    · rw [preP_eq] at hw; exact hw
    · obtain ⟨k, hk, hv⟩ := List.mem_flatMap.mp hv
      refine List.mem_cons_of_mem _ (List.mem_flatMap.mpr ⟨k, hk, ih k v w ?_ hv hw⟩)
      have h1 : (preP k).length ≤ ((kidsI u).flatMap preP).length := by
        rw [List.length_flatMap]
        exact mem_sum (List.mem_map_of_mem hk)
      simp only [List.length_cons] at h; omega
theorem kid_pre {e : Ex} {u v : Ex × Nat} (h : u ∈ e.preI 0) (hv : v ∈ kidsI u) : v ∈ e.preI 0 := by
  refine preP_trans _ (e, 0) u v (Nat.le_refl _) h ?_
  rw [preP_eq]
  exact List.mem_cons_of_mem _ (List.mem_flatMap.mpr ⟨v, hv, by rw [preP_eq]; simp⟩)
theorem root_pre (e : Ex) : (e, 0) ∈ e.preI 0 := by
  have := preP_eq (e, 0)
  show (e, 0) ∈ preP (e, 0)
  rw [this]; simp
theorem offs_fst : ∀ (es : List Ex) (k : Nat), (offs k es).map (·.1) = es
  | [], _ => rfl
  | e :: r, k => by simp only [offs, List.map_cons, offs_fst r]
theorem kidsI_fst (p : Ex × Nat) : (kidsI p).map (·.1) = p.1.kids := offs_fst _ _
theorem kidsI_len (p : Ex × Nat) : (kidsI p).length = p.1.kids.length := by
  have := congrArg List.length (kidsI_fst p); simpa using this
/-- the numbers of the children ascend -/
theorem offs_asc : ∀ (es : List Ex) (k m j : Nat) (u v : Ex × Nat), m < j → (offs k es)[m]? = some u → (offs k es)[j]? = some v → u.2 < v.2
  | [], k, m, j, u, v, _, h, _ => by cases h
  | e :: r, k, 0, j + 1, u, v, _, h, h2 => by
    cases h
    have : ∀ (es : List Ex) (k' j : Nat) (v : Ex × Nat), (offs k' es)[j]? = some v → k' ≤ v.2 := by
      intro es
      induction es with
      | nil => intro _ _ _ h; cases h
      | cons x r ih =>
        intro k' j v h
        cases j with
        | zero => cases h; exact Nat.le_refl _
        | succ j => exact Nat.le_trans (Nat.le_add_right _ _) (ih _ j v h)
    have := this r _ j v h2
    have := e.size_pos
    show k < v.2
    omega
  | e :: r, k, m + 1, j + 1, u, v, hmj, h, h2 => offs_asc r _ m j u v (by omega) h h2
theorem kidsI_asc {p u v : Ex × Nat} {m j : Nat} (h : m < j) (hu : (kidsI p)[m]? = some u) (hv : (kidsI p)[j]? = some v) : u.2 ≠ v.2 := Nat.ne_of_lt (offs_asc _ _ m j u v h hu hv)
def encJ (p : Ex × Nat) : T := p.1.enc
def intN (k : Nat) : T := .int (k : Int)
def intT (p : Ex × Nat) : T := intN p.2
def encK (p : Ex × Nat) : T := .ptup ((kidsI p).map intT)
local macro_rules | `(tactic| walk_at "glk") => `(tactic| (repeat (first | exact gupd_same | refine (gupd_ne (by first | assumption | (apply Ne.symm; assumption))).trans ?_); try assumption))
theorem g3_set1 {G : GH} {p w a : Addr} {A B C A' : GO} (wp : w ≠ p) (ap : a ≠ p) : gupd (gupd (gupd (gupd G p A) w B) a C) p A' = gupd (gupd (gupd G p A') w B) a C := by rw [gupd_comm ap, g2_setp wp]
theorem g3_set2 {G : GH} {p w a : Addr} {A B C B' : GO} (aw : a ≠ w) : gupd (gupd (gupd (gupd G p A) w B) a C) w B' = gupd (gupd (gupd G p A) w B') a C := g2_setp aw
theorem encJ_kids (p : Ex × Nat) : p.1.kids.map Ex.enc = (kidsI p).map encJ := by
  rw [← kidsI_fst p, List.map_map]; rfl
theorem pre_at {e : Ex} {u : Ex × Nat} {α : Type} (f : Ex × Nat → α) (h : u ∈ e.preI 0) : atI ((e.preI 0).map f) (u.2 : Int) = some (f u) := atI_lt (by rw [List.getElem?_map, Ex.preI_at h]; rfl)
def t_nodes : TTS :=
  (tseq (tasg (tlst tanil) (gname 1))
  (tseq (tasg (tlst (tacons (tvar 0) tanil)) (gname 2))
  (tseq (twhile (ttruth (tvar 2))
  (tseq (tasg (tmeth mpop (tvar 2) tanil) (gname 3))
  (tseq (tdrop (tmeth mappend (tvar 1) (tacons (tvar 3) tanil)))
  (tdrop (tmeth mextend (tvar 2) (tacons (trev (tcall sp_children (tacons (tvar 3) tanil))) tanil))))))
  (tret (tvar 1)))))

def sp_nodes : TSp := fun ts G R => ∃ e : Ex, ts = [e.enc] ∧ e.size ≤ sizeLine ∧ ∀ p, G p = none → R (.ref p) (gupd G p (.lst ((e.preI 0).map encJ)))
theorem pure_nodes (ts : List T) (G : GH) (R : TK) (h : sp_nodes ts G R) : t_nodes { nx := fun _ G' => WkR R .non G', rt := WkR R } (startT ["expression", "found", "waiting", "node"] ts) G := by
  obtain ⟨e, rfl, hl, h⟩ := h
  unfold t_nodes
  walk_at "tl"
  intro p hp q hq0
  obtain ⟨hqp, hq⟩ := ne_none hq0
  refine ⟨fun m st G' => ∃ F W : List (Ex × Nat), st = [some e.enc, some (.ref p), some (.ref q), none] ∧ G' = gupd (gupd G p (.lst (F.map encJ))) q (.lst (W.map encJ)) ∧ F ++ W.reverse.flatMap preP = e.preI 0 ∧ m = (W.reverse.flatMap preP).length, ⟨_, [], [(e, 0)], rfl, rfl, by simp [preP], rfl⟩, ?_⟩
  rintro m st G' ⟨F, W, rfl, rfl, hF, rfl⟩
  have hlen := congrArg List.length hF
  rw [List.length_append, Ex.preI_len] at hlen
  walk_at "tl"
  refine ⟨_, truth_ref gupd_same rfl, ?_⟩
  rcases List.eq_nil_or_concat W with rfl | ⟨W', u, rfl⟩
  · walk_at "tl"
    have eF : F = e.preI 0 := by simpa using hF
    subst eF
    exact ⟨_, Sub.gupd (by rw [gupd_ne hqp]; exact hq), h p hp⟩
  · have hk : (W' ++ [u]).reverse.flatMap preP = u :: ((kidsI u).flatMap preP ++ W'.reverse.flatMap preP) := by
      simp only [List.reverse_append, List.reverse_cons, List.reverse_nil, List.nil_append, List.cons_append, List.flatMap_cons]
      rw [preP_eq]
      rfl
    rw [List.concat_eq_append] at *
    rw [hk] at hlen
    simp only [List.length_cons, List.length_append] at hlen
    have w1 := flat_lenG preP_pos (kidsI u)
    have w2 := flat_lenG preP_pos W'.reverse
    rw [List.length_reverse] at w2
    have e1 : (!(List.map encJ (W' ++ [u])).isEmpty) = true := by simp
    rw [e1]
    walk_at "tl"
    refine pop_mk (t := encJ u) (ys := W'.map encJ) (by rw [gupd_same, List.map_append]; rfl) ?_
    rw [g2_setq]
    walk_at "tl"
    refine ⟨⟨_, g2_p hqp⟩, _, g2_p hqp, by rw [List.length_map]; omega, ?_⟩
    rw [g2_setp hqp]
    walk_at "tl"
    refine ⟨u.1, rfl, ?_⟩
    rw [encJ_kids u]
    walk_at "tl"
    refine ⟨?_, ?_⟩
    · rw [List.length_reverse, List.length_map, List.length_map]; omega
    refine ⟨((kidsI u).flatMap preP ++ W'.reverse.flatMap preP).length, by rw [hk]; simp, .mk ⟨F ++ [u], W' ++ (kidsI u).reverse, rfl, ?_, ?_, ?_⟩ (.same (.same (.same (.none .nil)))) .refl⟩
    · rw [List.map_append, List.map_append, List.map_reverse]; rfl
    · rw [hk] at hF
      simpa using hF
    · simp
def t_child_numbers : TTS :=
  (tseq (tasg (tlst tanil) (gname 1))
  (tseq (tasg (tlst tanil) (gname 2))
  (tseq (tasg (tcall sp_nodes (tacons (tvar 0) tanil)) (gname 3))
  (tseq (tfor (irevr1 (tcb vlen (tacons (tvar 3) tanil))) (gname 4)
  (tseq (tdrop (tmeth mappend (tvar 1) (tacons (tcb vptuple (tacons (tlc (iany (tcall sp_children (tacons (top vix (tvar 3) (tvar 4)) tanil))) (gname 5) tyes (tmeth mpop (tvar 2) tanil) [5]) tanil)) tanil)))
  (tdrop (tmeth mappend (tvar 2) (tacons (tvar 4) tanil)))))
  (tret (trev (tvar 1)))))))

theorem revr_pre (e : Ex) : ((List.range ((e.preI 0).map encJ).length).reverse.map fun (i : Nat) => T.int (i : Int)) = (e.preI 0).reverse.map intT := by
  rw [List.length_map, e.preI_len, ← List.map_reverse.symm, ← List.map_reverse.symm]
  congr 1
  have := e.preI_nums 0
  rw [← List.range_eq_range'] at this
  rw [← this, List.map_map]; rfl
def sp_child_numbers : TSp := fun ts G R => ∃ e : Ex, ts = [e.enc] ∧ e.size ≤ sizeLine ∧ ∀ p, G p = none → R (.ref p) (gupd G p (.lst ((e.preI 0).map encK)))
theorem pure_child_numbers (ts : List T) (G : GH) (R : TK) (h : sp_child_numbers ts G R) : t_child_numbers { nx := fun _ G' => WkR R .non G', rt := WkR R } (startT ["expression", "found", "waiting", "parts", "number", "_"] ts) G := by
  obtain ⟨e, rfl, hl, h⟩ := h
  have z : (2 ^ 24 : Nat) = sizeLine := rfl
  unfold t_child_numbers
  walk_at "tl"
  intro p hp w hw0
  obtain ⟨hwp, hw⟩ := ne_none hw0
  walk_at "tl"
  refine ⟨e, rfl, hl, fun a ha0 => ?_⟩
  obtain ⟨haw, ha1⟩ := ne_none ha0
  obtain ⟨hap, ha⟩ := ne_none ha1
  walk_at "tl"
  refine .inl ⟨_, gupd_same, ?_⟩
  refine rvr_nat (n := ((e.preI 0).map encJ).length) (by rw [List.length_map, e.preI_len]; omega) ?_
  rw [revr_pre]
  have ha3 : ∀ S D : GO, gupd (gupd (gupd G p S) w D) a (.lst ((e.preI 0).map encJ)) a = some (.lst ((e.preI 0).map encJ)) := fun _ _ => gupd_same
  have main := preG_loop (kids := kidsI) (pre := preP) preP_eq (P := fun (S : List Nat) xs => ∀ done : List (Ex × Nat), (e.preI 0).reverse = done ++ xs → S.length + xs.length ≤ e.size → forGo (fun _ => True) (gname 4)
      (tseq
        (tdrop
          (tmeth mappend (tvar 1)
            (tacons
              (tcb vptuple
                (tacons
                  (tlc (iany (tcall sp_children (tacons (top vix (tvar 3) (tvar 4)) tanil))) (gname 5) tyes
                    (tmeth mpop (tvar 2) tanil) [5])
                  tanil))
              tanil)))
        (tdrop (tmeth mappend (tvar 2) (tacons (tvar 4) tanil))))
      { nx := tret (trev (tvar 1)) { nx := fun x G' => WkR R T.non G', rt := WkR R }, rt := WkR R } (xs.map intT)
      [some e.enc, some (T.ref p), some (T.ref w), some (T.ref a), none, none] (gupd (gupd (gupd G p (.lst (done.map encK))) w (.lst (S.map intN))) a (.lst ((e.preI 0).map encJ)))) (·.2) (e, 0) ?_ [] [] ?_ [] (by simp [preP]) (by simp [preP, Ex.preI_len])
  · simpa [preP] using main
  · intro u S rest hu hP done hd hlen
    refine ⟨trivial, ?_⟩
    simp only [List.length_cons, List.length_append, List.length_nil] at hP hlen
    walk_at "tl"
    have hu' : u ∈ e.preI 0 := hu
    refine ⟨⟨_, by walk_at "glk"⟩, ?_⟩
    refine vix_lst gupd_same (pre_at encJ hu') ?_
    refine ⟨u.1, rfl, ?_⟩
    rw [encJ_kids u]

    refine (items_tup (xs := (kidsI u).map encJ)).mpr ?_
    intro D hD0
    obtain ⟨hDa, hD1⟩ := ne_none hD0
    obtain ⟨hDw, hD2⟩ := ne_none hD1
    obtain ⟨hDp, hD3⟩ := ne_none hD2
    have hk3 := u.1.kids_le
    rw [← kidsI_len] at hk3
    refine lc_inv (α := Ex × Nat) encJ (fun ys acc G' => ∃ zs, kidsI u = zs ++ ys ∧ acc = zs.map intT ∧ G' = gupd (gupd (gupd (gupd G p (.lst (done.map encK))) w (.lst ((S ++ (ys.map (·.2)).reverse).map intN))) a (.lst ((e.preI 0).map encJ))) D (.lst acc)) ?_ ?_ (kidsI u) [] _ ⟨[], rfl, rfl, rfl⟩
    · rintro q ys acc G' N hN ⟨zs, hz, rfl, rfl⟩
      have hzl := congrArg List.length hz
      simp only [List.length_append, List.length_cons] at hzl
      refine ⟨trivial, ?_⟩
      walk_at "tl"
      refine ⟨⟨_, by walk_at "glk"⟩, pop_mk (t := intT q) (ys := (S ++ (ys.map (·.2)).reverse).map intN) ((by walk_at "glk" : gupd (gupd (gupd (gupd G p _) w _) a _) D _ w = some _).trans (by simp [intT])) ?_⟩
      refine ⟨zs.map intT, by walk_at "glk", by rw [List.length_map]; omega, hN (zs.map intT ++ [intT q]) _ (.of ⟨zs ++ [q], by simpa using hz, by simp, ?_⟩)⟩
      rw [gupd_comm hDw, g3_set2 haw, gupd_gupd]
    · rintro acc G' ⟨zs, hz, rfl, rfl⟩
      rw [List.append_nil] at hz
      subst hz
      refine ⟨trivial, ?_⟩
      walk_at "tl"
      have hdl := congrArg List.length hd
      simp only [List.length_reverse, Ex.preI_len, List.length_append, List.length_cons] at hdl
      refine ⟨done.map encK, by walk_at "glk", by rw [List.length_map]; omega, ⟨_, by walk_at "glk"⟩, S.map intN, ?_, by rw [List.length_map]; omega, ?_⟩
      · refine (gupd_ne hwp).trans ((by walk_at "glk" : gupd (gupd (gupd (gupd G p _) w _) a _) D _ w = some _).trans (by simp))
      · refine .mk (hP (done ++ [u]) (by rw [hd]; simp) (by omega)) (.same (.same (.same (.same (.none (.none .nil)))))) ?_
        rw [gupd_comm hDp, gupd_comm hDw, g3_set1 hwp hap, g3_set2 haw]
        have e1 : done.map encK ++ [.ptup ((kidsI u).map intT)] = (done ++ [u]).map encK := by rw [List.map_append]; rfl
        have e2 : S.map intN ++ [intT u] = (S ++ [u.2]).map intN := by rw [List.map_append]; rfl
        rw [e1, e2]
        exact Sub.gupd (by walk_at "glk")
  · intro done hd hlen
    refine ⟨trivial, ?_⟩
    walk_at "tl"
    have hdn : done = (e.preI 0).reverse := by simpa using hd.symm
    refine ⟨_, (by walk_at "glk" : gupd (gupd (gupd G p _) w _) a _ p = some _), fun l hl0 => ?_⟩
    obtain ⟨hla, hl1⟩ := ne_none hl0
    obtain ⟨hlw, hl2⟩ := ne_none hl1
    obtain ⟨hlp, hl3⟩ := ne_none hl2
    have e1 : (done.map encK).reverse = (e.preI 0).map encK := by rw [hdn, List.map_reverse, List.reverse_reverse]
    rw [e1]
    refine ⟨_, ?_, h l hl3⟩
    rw [gupd_comm (Ne.symm hla), gupd_comm (Ne.symm hlw), gupd_comm (Ne.symm hlp)]
    refine ((Sub.gupd ?_).trans (Sub.gupd ?_)).trans (Sub.gupd ?_)
    all_goals walk_at "glk"
end TL

namespace TL
open PySem PySem.Spec PyProof.Rows L2
local macro_rules | `(tactic| walk_at "tl") => `(tactic| try simp +decide only [tseq, vint_bl, vneg_int, irevr1_eq, tpl, exists_ptup, vptuple_ref, tmethT, tandV, torV, tnotV, tasg, tifs, tbool, tret, tretN, tdrop, tnext, tcont, tbreak, gname, gtup_tup, gcons_cons, gnil_nil, GO.lst.injEq, GO.dK.injEq, top, tvar, tcon, tun, ttup, tlst, tacons, tanil, tcb, tcall, tife, tand, tor, tnot, tandV, torV, tnotV, tisN, tnotN, T.isNon, ttruth, truth_bl, truth_non, truth_int, truth_tup, truth_fl, tsl, tpart, tnopart, tsortk, tlc, tfor, iany, irev, irange1_eq, irange2_eq, items_tup, items_fl, items_ref, twipe, List.set, izip_eq, tput_eq, vlist_tup, tmeth, isL, mappend_ref, mextend_tup, trev, exists_eq, exists_eq', 
  vix_tup, vix_fl, veq_str, vne_str, veq_int, vne_int, vcmp_int, vadd_int, vaddI_int, vadd_tup, vadd_str, vsub_int, vI_int, vlen_tup, vlen_fl, vlen_str, vtuple_tup, vtuple_ref, vint_int, vsl_tup, cut_from1, atI0, atI1, atI2, atI3, taug,
  startT, List.map_cons, List.map_nil, List.length_cons, List.length_nil, List.cons_append, List.nil_append, List.getElem?_cons_zero, List.getElem?_cons_succ, List.set_cons_zero, List.set_cons_succ, List.replicate, Option.some.injEq, exists_eq_left', exists_eq_left, T.bl.injEq, T.int.injEq, T.str.injEq, T.tup.injEq, T.ref.injEq, if_true, if_false, ite_true, ite_false, true_and, and_true, reduceCtorEq, gupd_same, gupd_gupd, Option.map_some, Option.map_none, Option.isSome_some, Option.isSome_none, Bool.not_true, Bool.not_false, Bool.true_eq_false, Bool.false_eq_true, List.cons.injEq, decide_true, decide_false])
def D_NEEDED : List (Str × Int) := [("name", 0), ("call", 2), ("let", 1), ("if", 1), ("op", 2), ("extend", 2), ("select", 1), ("drop", 1)]
def L_SIMPLE_VALUES : List Str := ["number", "truth", "fun", "rec", "empty"]
def L_RECORDS : List Str := ["empty", "extend"]
def Ex.kind : Ex → Str
  | .num _ => "number"
  | .tru _ => "truth"
  | .nam _ => "name"
  | .fn _ _ => "fun"
  | .rc _ _ _ => "rec"
  | .app _ _ => "call"
  | .lt _ _ _ => "let"
  | .ite _ _ _ => "if"
  | .op _ _ _ => "op"
  | .emp => "empty"
  | .ext _ _ _ => "extend"
  | .sel _ _ => "select"
  | .drp _ _ => "drop"
theorem vix_kind {e : Ex} {G : GH} {R : TK} (h : R (.str e.kind) G) : vix e.enc (.int 0) G R := by
  cases e <;> exact ⟨_, atI0, h⟩
def Ex.simp : Ex → Bool
  | .num _ => true
  | .tru _ => true
  | .fn _ _ => true
  | .rc _ _ _ => true
  | .emp => true
  | _ => false
def Ex.isRec : Ex → Bool
  | .emp => true
  | .ext _ _ _ => true
  | _ => false
def Ex.val : Ex → Bool
  | .num _ => true
  | .tru _ => true
  | .fn _ _ => true
  | .rc _ _ _ => true
  | .emp => true
  | .ext _ a r => a.val && (r.val && r.isRec)
  | _ => false
theorem simp_kind (e : Ex) : decide (e.kind ∈ L_SIMPLE_VALUES) = e.simp := by
  cases e <;> simp +decide [Ex.kind, Ex.simp, L_SIMPLE_VALUES]
theorem rec_kind (e : Ex) : decide (e.kind ∈ L_RECORDS) = e.isRec := by
  cases e <;> simp +decide [Ex.kind, Ex.isRec, L_RECORDS]
theorem pre_nth {e : Ex} {i : Nat} {p : Ex × Nat} (h : (e.preI 0)[i]? = some p) : p.2 = i := by
  have h1 := Ex.preI_at (List.mem_of_getElem? h)
  have hi : i < (e.preI 0).length := (List.getElem?_eq_some_iff.mp h).1
  have e3 : ((e.preI 0).map (·.2))[i]? = some p.2 := by rw [List.getElem?_map, h]; rfl
  rw [e.preI_nums, List.getElem?_range' (by rw [e.preI_len] at hi; exact hi)] at e3
  have : i = p.2 := by simpa using e3
  exact this.symm
theorem pre_set {e : Ex} {u : Ex × Nat} {f g : Ex × Nat → T} {t : T} (h : u ∈ e.preI 0) (hu : g u = t) (ho : ∀ p ∈ e.preI 0, p.2 ≠ u.2 → g p = f p) : ((e.preI 0).map f).set u.2 t = (e.preI 0).map g := by
  apply List.ext_getElem?
  intro i
  have hlt : u.2 < ((e.preI 0).map f).length := by rw [List.length_map]; exact (List.getElem?_eq_some_iff.mp (Ex.preI_at h)).1
  rw [List.getElem?_set]
  by_cases hi : u.2 = i
  · subst hi
    rw [if_pos rfl, if_pos hlt, List.getElem?_map, Ex.preI_at h, ← hu]; rfl
  · rw [if_neg hi, List.getElem?_map, List.getElem?_map]
    cases hp : (e.preI 0)[i]? with
    | none => rfl
    | some p =>
      have := pre_nth hp
      rw [Option.map_some, Option.map_some, ho p (List.mem_of_getElem? hp) (by omega)]
theorem pre_rev {e : Ex} {u : Ex × Nat} {done xs : List (Ex × Nat)} (h : (e.preI 0).reverse = done ++ u :: xs) : u ∈ e.preI 0 ∧ u.2 = xs.length := by
  have h2 : e.preI 0 = xs.reverse ++ u :: done.reverse := by rw [← List.reverse_reverse (e.preI 0), h]; simp
  have h3 : (e.preI 0)[xs.length]? = some u := by rw [h2, List.getElem?_append_right (by simp)]; simp
  exact ⟨List.mem_of_getElem? h3, pre_nth h3⟩
/-- what is known of the values, from the number m on -/
def vmk (m : Nat) (p : Ex × Nat) : T := .bl (if p.2 < m then p.1.simp else p.1.val)
theorem kids_gt {u v : Ex × Nat} (h : v ∈ kidsI u) : u.2 < v.2 := by
  have : ∀ (es : List Ex) (k : Nat), ∀ v ∈ offs k es, k ≤ v.2 := by
    intro es
    induction es with
    | nil => intro k v h; cases h
    | cons x r ih =>
      intro k v h
      rcases List.mem_cons.mp h with rfl | h
      · exact Nat.le_refl _
      · exact Nat.le_trans (Nat.le_add_right _ _) (ih _ v h)
  have := this _ _ v h
  omega
def t__value_marks : TTS :=
  (tseq (tasg (tlc (iany (tvar 0)) (gname 3) tyes (top (vin false) (top vix (tvar 3) (tcon (.int 0))) (tcon (.tup (L_SIMPLE_VALUES.map T.str)))) [3]) (gname 2))
  (tseq (tfor (irevr1 (tcb vlen (tacons (tvar 0) tanil))) (gname 4)
  (tifs (tbool (top veq (top vix (top vix (tvar 0) (tvar 4)) (tcon (.int 0))) (tcon (.str "extend"))))
  (tseq (tasg (tpl (top vix (tvar 1) (tvar 4))) (gtup 2 (gcons (gname 5) (gcons (gname 6) gnil))))
  (tput (tvar 2) (tvar 4) (tandV (top vix (tvar 2) (tvar 5)) (tandV (top vix (tvar 2) (tvar 6)) (top (vin false) (top vix (top vix (tvar 0) (tvar 6)) (tcon (.int 0))) (tcon (.tup (L_RECORDS.map T.str))))))))
  tnext))
  (tret (tvar 2))))

def valT (p : Ex × Nat) : T := .bl p.1.val
def sp__value_marks : TSp := fun ts G R => ∃ (e : Ex) (a b : Addr), ts = [.ref a, .ref b] ∧ G a = some (.lst ((e.preI 0).map encJ)) ∧ G b = some (.lst ((e.preI 0).map encK)) ∧ e.size ≤ sizeLine ∧ ∀ q, G q = none → R (.ref q) (gupd G q (.lst ((e.preI 0).map valT)))
theorem pure__value_marks (ts : List T) (G : GH) (R : TK) (h : sp__value_marks ts G R) : t__value_marks { nx := fun _ G' => WkR R .non G', rt := WkR R } (startT ["parts", "inner", "marks", "part", "number", "field", "record"] ts) G := by
  obtain ⟨e, a, b, rfl, ha, hb, hl, h⟩ := h
  have z : (2 ^ 24 : Nat) = sizeLine := rfl
  unfold t__value_marks
  walk_at "tl"
  refine ⟨_, ha, fun D hD => ?_⟩
  have aD : a ≠ D := Ne.symm (fresh_ne hD ha)
  have bD : b ≠ D := Ne.symm (fresh_ne hD hb)
  refine lc_map (α := Ex × Nat) encJ (fun p => .bl p.1.simp) (e.preI 0) (fun _ => by rw [gupd_ne aD]; exact ha) (by rw [e.preI_len]; exact hl) (fun p _ acc N hN => ?_) ?_
  · walk_at "tl"
    refine vix_kind (e := p.1) ?_
    refine vin_strs (ys := L_SIMPLE_VALUES) ?_
    rw [simp_kind]
    exact hN
  · walk_at "tl"
    refine .inl ⟨_, by rw [gupd_ne aD]; exact ha, ?_⟩
    refine rvr_nat (n := ((e.preI 0).map encJ).length) (by rw [List.length_map, e.preI_len]; omega) ?_
    rw [revr_pre]
    refine for_inv (α := Ex × Nat) intT (fun xs st G' => ∃ done, (e.preI 0).reverse = done ++ xs ∧ st = [some (.ref a), some (.ref b), some (.ref D), none, none, none, none] ∧ G' = gupd G D (.lst ((e.preI 0).map (vmk xs.length)))) ?_ ?_ (e.preI 0).reverse _ _ ⟨[], rfl, rfl, ?_⟩
    · rintro u xs st G' N hN ⟨done, hd, rfl, rfl⟩
      obtain ⟨hu, hn⟩ := pre_rev hd
      have next : ∀ (s1 s2 s3 : Option T) (G2 : GH), G2 = gupd G D (.lst ((e.preI 0).map (vmk xs.length))) → N [some (.ref a), some (.ref b), some (.ref D), none, s1, s2, s3] G2 := fun s1 s2 s3 G2 hG =>
        hN _ _ (.mk ⟨done ++ [u], by rw [hd]; simp, rfl, hG⟩ (.same (.same (.same (.none (.none (.none (.none .nil))))))) .refl)
      refine ⟨trivial, ?_⟩
      walk_at "tl"
      refine vix_lst (by rw [gupd_ne aD]; exact ha) (pre_at encJ hu) ?_
      refine vix_kind (e := u.1) ?_
      walk_at "tl"
      by_cases hk : u.1.kind = "extend"
      · rw [if_pos (by simpa using hk)]
        obtain ⟨n, k⟩ := u
        cases n with
        | ext l x y =>
          refine vix_lst (by rw [gupd_ne bD]; exact hb) (pre_at encK hu) ?_
          refine ⟨[intN (k + 1), intN (k + 1 + x.size)], rfl, rfl, ?_⟩
          have hx : (x, k + 1) ∈ kidsI (Ex.ext l x y, k) := by simp [kidsI, Ex.kids, offs]
          have hy : (y, k + 1 + x.size) ∈ kidsI (Ex.ext l x y, k) := by simp [kidsI, Ex.kids, offs]
          have hx2 := kid_pre hu hx
          have hy2 := kid_pre hu hy
          have gx := kids_gt hx
          have gy := kids_gt hy
          simp only at hn gx gy
          have vx : vmk (xs.length + 1) (x, k + 1) = .bl x.val := by rw [vmk, if_neg (by simp only; omega)]
          have vy : vmk (xs.length + 1) (y, k + 1 + x.size) = .bl y.val := by rw [vmk, if_neg (by simp only; omega)]
          walk_at "tl"
          refine vix_lst gupd_same (pre_at (vmk (xs.length + 1)) hx2) ?_
          refine ⟨x.val, vx, ?_⟩
          have put : ∀ c : Bool, c = (Ex.ext l x y).val → putP (.ref D) (intT (Ex.ext l x y, k)) (.bl c) [some (T.ref a), some (T.ref b), some (T.ref D), none, some (intT (Ex.ext l x y, k)), some (intN (k + 1)), some (intN (k + 1 + x.size))] N (gupd G D (.lst ((e.preI 0).map (vmk (xs.length + 1))))) := by
            intro c hc
            refine put_lst (j := k) gupd_same (by
              have h1 := (List.getElem?_eq_some_iff.mp (Ex.preI_at hu)).1
              simp only [ixN, List.length_map]
              rw [if_pos (by omega), if_pos (by simp only at h1; omega)]
              simp) ?_
            rw [gupd_gupd]
            refine next _ _ _ _ ?_
            congr 2
            refine pre_set hu (by rw [hc, vmk, if_neg (by simp only; omega)]) fun p hp hne => ?_
            have : (p.2 < xs.length + 1) = (p.2 < xs.length) := by simp only at hne; apply propext; omega
            simp only [vmk, this]
          cases hvx : x.val with
          | false =>
            rw [if_neg (by simp)]
            have := put false (by simp [Ex.val, hvx])
            exact this
          | true =>
            rw [if_pos rfl]
            refine vix_lst gupd_same (pre_at (vmk (xs.length + 1)) hy2) ?_
            refine ⟨y.val, vy, ?_⟩
            cases hvy : y.val with
            | false =>
              rw [if_neg (by simp)]
              have := put false (by simp [Ex.val, hvx, hvy])
              exact this
            | true =>
              rw [if_pos rfl]
              refine vix_lst (by rw [gupd_ne aD]; exact ha) (pre_at encJ hy2) ?_
              refine vix_kind (e := y) ?_
              refine vin_strs (ys := L_RECORDS) ?_
              rw [rec_kind]
              exact put _ (by simp [Ex.val, hvx, hvy])
        | _ => simp +decide [Ex.kind] at hk
      · rw [if_neg (by simpa using hk)]
        refine next _ _ _ _ ?_
        congr 2
        refine List.map_congr_left fun p hp => ?_
        by_cases hpu : p.2 = xs.length
        · have : p = u := by
            have h1 := Ex.preI_at hp
            have h2 := Ex.preI_at hu
            rw [hpu, ← hn, h2] at h1; cases h1; rfl
          subst this
          obtain ⟨n, k⟩ := p
          have : n.simp = n.val := by
            cases n <;> first | rfl | (simp +decide [Ex.kind] at hk)
          simp [vmk, hn, this]
        · have : (p.2 < (u :: xs).length) = (p.2 < xs.length) := by simp only [List.length_cons]; apply propext; omega
          show T.bl (if p.2 < (u :: xs).length then _ else _) = _
          simp only [vmk, this]
    · rintro st G' ⟨done, hd, rfl, rfl⟩
      refine ⟨trivial, ?_⟩
      walk_at "tl"
      have := h D hD
      have e1 : (e.preI 0).map (vmk 0) = (e.preI 0).map valT := List.map_congr_left fun p _ => by simp [vmk, valT]
      rw [e1]
      exact .of this
    · congr 2
      refine List.map_congr_left fun p hp => ?_
      have h1 := Ex.preI_at hp
      have : p.2 < (e.preI 0).reverse.length := by rw [List.length_reverse]; exact (List.getElem?_eq_some_iff.mp h1).1
      rw [vmk, if_pos this]
def t_is_value : TTS :=
  (tret (top vix (tcall sp__value_marks (tacons (tcall sp_nodes (tacons (tvar 0) tanil)) (tacons (tcall sp_child_numbers (tacons (tvar 0) tanil)) tanil))) (tcon (.int 0))))

def sp_is_value : TSp := fun ts G R => ∃ e : Ex, ts = [e.enc] ∧ e.size ≤ sizeLine ∧ R (.bl e.val) G
theorem pure_is_value (ts : List T) (G : GH) (R : TK) (h : sp_is_value ts G R) : t_is_value { nx := fun _ G' => WkR R .non G', rt := WkR R } (startT ["expression"] ts) G := by
  obtain ⟨e, rfl, hl, h⟩ := h
  unfold t_is_value
  walk_at "tl"
  refine ⟨e, rfl, hl, fun a ha => ?_⟩
  refine ⟨e, rfl, hl, fun b hb => ?_⟩
  obtain ⟨hba, hb1⟩ := ne_none hb
  refine ⟨e, a, b, rfl, by rw [gupd_ne (Ne.symm hba), gupd_same], gupd_same, hl, fun q hq => ?_⟩
  obtain ⟨hqb, hq1⟩ := ne_none hq
  obtain ⟨hqa, hq2⟩ := ne_none hq1
  refine vix_lst gupd_same (pre_at valT (root_pre e)) ⟨_, ?_, h⟩
  exact ((Sub.gupd ha).trans (Sub.gupd hb)).trans (Sub.gupd hq)
end TL

namespace TL
open PySem PySem.Spec PyProof.Rows L2
local macro_rules | `(tactic| walk_at "tl") => `(tactic| try simp +decide only [tseq, vint_bl, vneg_int, irevr1_eq, tpl, exists_ptup, vptuple_ref, tmethT, tandV, torV, tnotV, tasg, tifs, tbool, tret, tretN, tdrop, tnext, tcont, tbreak, gname, gtup_tup, gcons_cons, gnil_nil, GO.lst.injEq, GO.dK.injEq, top, tvar, tcon, tun, ttup, tlst, tacons, tanil, tcb, tcall, tife, tand, tor, tnot, tandV, torV, tnotV, tisN, tnotN, T.isNon, ttruth, truth_bl, truth_non, truth_int, truth_tup, truth_fl, tsl, tpart, tnopart, tsortk, tlc, tfor, iany, irev, irange1_eq, irange2_eq, items_tup, items_fl, items_ref, twipe, List.set, izip_eq, tput_eq, vlist_tup, tmeth, isL, mappend_ref, mextend_tup, trev, exists_eq, exists_eq', 
  vix_tup, vix_fl, veq_str, vne_str, veq_int, vne_int, vcmp_int, vadd_int, vaddI_int, vadd_tup, vadd_str, vsub_int, vI_int, vlen_tup, vlen_fl, vlen_str, vtuple_tup, vtuple_ref, vint_int, vsl_tup, cut_from1, atI0, atI1, atI2, atI3, taug,
  startT, List.map_cons, List.map_nil, List.length_cons, List.length_nil, List.cons_append, List.nil_append, List.getElem?_cons_zero, List.getElem?_cons_succ, List.set_cons_zero, List.set_cons_succ, List.replicate, Option.some.injEq, exists_eq_left', exists_eq_left, T.bl.injEq, T.int.injEq, T.str.injEq, T.tup.injEq, T.ref.injEq, if_true, if_false, ite_true, ite_false, true_and, and_true, reduceCtorEq, gupd_same, gupd_gupd, Option.map_some, Option.map_none, Option.isSome_some, Option.isSome_none, Bool.not_true, Bool.not_false, Bool.true_eq_false, Bool.false_eq_true, List.cons.injEq, decide_true, decide_false])
inductive Rs where
  | val | large | over | stuck (m : Str) | next (e : Ex)
def Rs.enc : Rs → T
  | .val => .tup [.str "value"]
  | .large => .tup [.str "large"]
  | .over => .tup [.str "overflow"]
  | .stuck m => .tup [.str "stuck", .str m]
  | .next e => .tup [.str "next", e.enc]
abbrev Bk := List (Str × Ex)
def encBk (b : Bk) : T := .tup (b.map fun p => .tup [.str p.1, p.2.enc])
def lookB : Bk → Str → Rs
  | [], _ => .stuck "unbound name"
  | p :: r, x => if p.1 = x then .next p.2 else lookB r x
def called : Ex → Ex → Rs
  | .fn x b, a => .next (Ex.putc x a b false)
  | .rc f x b, a => .next (Ex.putc x a (if f = x then b else Ex.putc f (.rc f x b) b false) false)
  | _, _ => .stuck "not a function"
def chosen : Ex → Ex → Ex → Rs
  | .tru c, a, b => .next (if c then a else b)
  | _, _, _ => .stuck "not a truth"
def counted : Str → Ex → Ex → Rs
  | o, .num i, .num j => if o = "<" then .next (.tru (decide (i < j))) else if o = "==" then .next (.tru (decide (i = j))) else
      if o = "+" then (if 999999 < i + j then .over else .next (.num (i + j))) else if i - j < 0 then .over else .next (.num (i - j))
  | _, _, _ => .stuck "not a number"
def fieldOf (l : Str) : Ex → Option Ex
  | .ext m a r => if m = l then some a else fieldOf l r
  | _ => none
def less (l : Str) : Ex → Option Ex
  | .ext m a r => if m = l then some r else (less l r).map (Ex.ext m a)
  | _ => none
def fieldStep (sel : Bool) (l : Str) (r : Ex) : Rs :=
  if r.isRec = false then .stuck "not a record" else match (if sel then fieldOf l r else less l r) with
    | some e => .next e
    | none => .stuck "no such field"
def own (bk : Bk) : Ex → Rs
  | .nam x => lookB bk x
  | .app f a => called f a
  | .lt x a b => .next (Ex.putc x a b false)
  | .ite c a b => chosen c a b
  | .op o a b => counted o a b
  | .ext _ _ _ => .stuck "not a record"
  | .sel l r => fieldStep true l r
  | .drp l r => fieldStep false l r
  | _ => .val
def t__definition : TTS :=
  (tseq (tfor (iany (tvar 1)) (gtup 2 (gcons (gname 2) (gcons (gname 3) gnil)))
  (tifs (tbool (top veq (tvar 2) (tvar 0)))
  (tret (ttup (tacons (tcon (.str "next")) (tacons (tvar 3) tanil))))
  tnext))
  (tret (ttup (tacons (tcon (.str "stuck")) (tacons (tcon (.str "unbound name")) tanil)))))

def sp__definition : TSp := fun ts G R => ∃ (x : Str) (bk : Bk), ts = [.str x, encBk bk] ∧ R (lookB bk x).enc G
theorem pure__definition (ts : List T) (G : GH) (R : TK) (h : sp__definition ts G R) : t__definition { nx := fun _ G' => WkR R .non G', rt := WkR R } (startT ["name", "book", "defined", "expression"] ts) G := by
  obtain ⟨x, bk, rfl, h⟩ := h
  unfold t__definition
  simp only [encBk]
  walk_at "tl"
  refine for_inv (α := Str × Ex) (fun p => .tup [.str p.1, p.2.enc]) (fun xs st G' => st = [some (.str x), some (encBk bk), none, none] ∧ G' = G ∧ lookB xs x = lookB bk x) ?_ ?_ bk _ _ ⟨rfl, rfl, rfl⟩
  · rintro ⟨y, e⟩ xs st G' N hN ⟨rfl, rfl, hl⟩
    refine ⟨trivial, ?_⟩
    walk_at "tl"
    by_cases hy : y = x
    · rw [if_pos (by simpa using hy)]
      rw [lookB, if_pos hy] at hl
      rw [← hl] at h
      exact .of h
    · rw [if_neg (by simpa using hy)]
      rw [lookB, if_neg hy] at hl
      exact hN _ _ (.mk ⟨rfl, rfl, hl⟩ (.same (.same (.none (.none .nil)))) .refl)
  · rintro st G' ⟨rfl, rfl, hl⟩
    refine ⟨trivial, ?_⟩
    walk_at "tl"
    rw [← hl] at h
    exact .of h
def t__called_r1 : TTS :=
  (tret (ttup (tacons (tcon (.str "next")) (tacons (tcall sp_put_in (tacons (tvar 2) (tacons (top vix (tvar 0) (tcon (.int 2))) (tacons (tvar 1) tanil)))) tanil))))
def t__called : TTS :=
  (tseq (tifs (tbool (top veq (top vix (tvar 0) (tcon (.int 0))) (tcon (.str "fun"))))
  (tret (ttup (tacons (tcon (.str "next")) (tacons (tcall sp_put_in (tacons (top vix (tvar 0) (tcon (.int 2))) (tacons (top vix (tvar 0) (tcon (.int 1))) (tacons (tvar 1) tanil)))) tanil))))
  tnext)
  (tseq (tifs (tbool (top vne (top vix (tvar 0) (tcon (.int 0))) (tcon (.str "rec"))))
  (tret (ttup (tacons (tcon (.str "stuck")) (tacons (tcon (.str "not a function")) tanil))))
  tnext)
  (tseq (tasg (top vix (tvar 0) (tcon (.int 3))) (gname 2))
  (tseq (tifs (tbool (top vne (top vix (tvar 0) (tcon (.int 1))) (top vix (tvar 0) (tcon (.int 2)))))
  (tasg (tcall sp_put_in (tacons (tvar 2) (tacons (top vix (tvar 0) (tcon (.int 1))) (tacons (tvar 0) tanil)))) (gname 2))
  tnext)
  t__called_r1))))

theorem vix1 {e : Ex} {t : T} {G : GH} {R : TK} {xs : List T} (he : e.enc = .tup xs) {i : Int} (hi : atI xs i = some t) (h : R t G) : vix e.enc (.int i) G R := by
  rw [he]; exact ⟨_, hi, h⟩
def sp__called : TSp := fun ts G R => ∃ f a : Ex, ts = [f.enc, a.enc] ∧ (f.size + 1) * (f.size + 1) ≤ sizeLine ∧ R (called f a).enc G
theorem mul_size {x : Str} {v : Ex} : ∀ (e : Ex) (c : Bool), (Ex.putc x v e c).size ≤ e.size * v.size
  | .nam y, c => by
    have := v.size_pos
    simp only [Ex.putc]; split <;> simp only [Ex.size] <;> omega
  | .fn _ b, c => by
    have := v.size_pos; have h := mul_size (x := x) (v := v) b
    simp only [Ex.putc, Ex.size, Nat.add_mul, Nat.one_mul]; exact Nat.add_le_add (h _) this
  | .rc _ _ b, c => by
    have := v.size_pos; have h := mul_size (x := x) (v := v) b
    simp only [Ex.putc, Ex.size, Nat.add_mul, Nat.one_mul]; exact Nat.add_le_add (h _) this
  | .app f a, c => by
    have := v.size_pos; have h1 := mul_size (x := x) (v := v) f c; have h2 := mul_size (x := x) (v := v) a c
    simp only [Ex.putc, Ex.size, Nat.add_mul, Nat.one_mul]; omega
  | .lt y f a, c => by
    have := v.size_pos; have h1 := mul_size (x := x) (v := v) f c; have h2 := mul_size (x := x) (v := v) a (c || decide (x ∈ [y]))
    simp only [Ex.putc, Ex.size, Nat.add_mul, Nat.one_mul]; omega
  | .ite i f a, c => by
    have := v.size_pos; have h0 := mul_size (x := x) (v := v) i c; have h1 := mul_size (x := x) (v := v) f c; have h2 := mul_size (x := x) (v := v) a c
    simp only [Ex.putc, Ex.size, Nat.add_mul, Nat.one_mul]; omega
  | .op _ f a, c => by
    have := v.size_pos; have h1 := mul_size (x := x) (v := v) f c; have h2 := mul_size (x := x) (v := v) a c
    simp only [Ex.putc, Ex.size, Nat.add_mul, Nat.one_mul]; omega
  | .ext _ f a, c => by
    have := v.size_pos; have h1 := mul_size (x := x) (v := v) f c; have h2 := mul_size (x := x) (v := v) a c
    simp only [Ex.putc, Ex.size, Nat.add_mul, Nat.one_mul]; omega
  | .sel _ a, c => by
    have := v.size_pos; have h2 := mul_size (x := x) (v := v) a c
    simp only [Ex.putc, Ex.size, Nat.add_mul, Nat.one_mul]; omega
  | .drp _ a, c => by
    have := v.size_pos; have h2 := mul_size (x := x) (v := v) a c
    simp only [Ex.putc, Ex.size, Nat.add_mul, Nat.one_mul]; omega
  | .num _, c => by have := v.size_pos; simp only [Ex.putc, Ex.size]; omega
  | .tru _, c => by have := v.size_pos; simp only [Ex.putc, Ex.size]; omega
  | .emp, c => by have := v.size_pos; simp only [Ex.putc, Ex.size]; omega
theorem pure__called (ts : List T) (G : GH) (R : TK) (h : sp__called ts G R) : t__called { nx := fun _ G' => WkR R .non G', rt := WkR R } (startT ["function", "argument", "body"] ts) G := by
  obtain ⟨f, a, rfl, hz, h⟩ := h
  have sq : f.size ≤ sizeLine := Nat.le_trans (by have h1 := Nat.le_mul_of_pos_left (f.size + 1) (Nat.succ_pos f.size); exact Nat.le_trans (Nat.le_succ _) h1) hz
  unfold t__called t__called_r1
  cases f with
  | fn x b =>
    simp only [Ex.enc, Ex.size] at *
    walk_at "tl"
    refine ⟨b, x, a, rfl, by omega, ?_⟩
    walk_at "tl"
    exact .of h
  | rc f x b =>
    simp only [Ex.enc] at *
    simp only [Ex.size] at sq hz
    walk_at "tl"
    by_cases hf : f = x
    · have e2 : (!decide (f = x)) = false := by simp [hf]
      rw [called, if_pos hf] at h
      rw [e2]
      walk_at "tl"
      refine ⟨b, x, a, rfl, by omega, ?_⟩
      walk_at "tl"
      exact .of h
    · have e2 : (!decide (f = x)) = true := by simp [hf]
      rw [called, if_neg hf] at h
      rw [e2]
      walk_at "tl"
      refine ⟨b, f, .rc f x b, rfl, by omega, ?_⟩
      walk_at "tl"
      refine ⟨_, x, a, rfl, ?_, ?_⟩
      · have h1 := mul_size (x := f) (v := .rc f x b) b false
        have h2 : b.size * (Ex.rc f x b).size ≤ (b.size + 1 + 1) * (b.size + 1 + 1) := Nat.mul_le_mul (by omega) (by simp only [Ex.size]; omega)
        exact Nat.le_trans h1 (Nat.le_trans h2 hz)
      · walk_at "tl"
        exact .of h
  | _ =>
    simp only [Ex.enc] at *
    walk_at "tl"
    exact .of h
def t__chosen : TTS :=
  (tseq (tifs (tbool (top vne (top vix (top vix (tvar 0) (tcon (.int 1))) (tcon (.int 0))) (tcon (.str "truth"))))
  (tret (ttup (tacons (tcon (.str "stuck")) (tacons (tcon (.str "not a truth")) tanil))))
  tnext)
  (tret (ttup (tacons (tcon (.str "next")) (tacons (tife (ttruth (top vix (top vix (tvar 0) (tcon (.int 1))) (tcon (.int 1)))) (top vix (tvar 0) (tcon (.int 2))) (top vix (tvar 0) (tcon (.int 3)))) tanil)))))

def sp__chosen : TSp := fun ts G R => ∃ c a b : Ex, ts = [(Ex.ite c a b).enc] ∧ R (chosen c a b).enc G
theorem pure__chosen (ts : List T) (G : GH) (R : TK) (h : sp__chosen ts G R) : t__chosen { nx := fun _ G' => WkR R .non G', rt := WkR R } (startT ["node"] ts) G := by
  obtain ⟨c, a, b, rfl, h⟩ := h
  unfold t__chosen
  cases c with
  | tru v =>
    simp only [Ex.enc]
    walk_at "tl"
    cases v <;> exact .of h
  | _ =>
    simp only [Ex.enc]
    walk_at "tl"
    exact .of h
def t__counted : TTS :=
  (tseq (tifs (tor (tbool (top vne (top vix (tvar 1) (tcon (.int 0))) (tcon (.str "number")))) (tbool (top vne (top vix (tvar 2) (tcon (.int 0))) (tcon (.str "number")))))
  (tret (ttup (tacons (tcon (.str "stuck")) (tacons (tcon (.str "not a number")) tanil))))
  tnext)
  (tseq (tifs (tbool (top veq (tvar 0) (tcon (.str "<"))))
  (tret (ttup (tacons (tcon (.str "next")) (tacons (ttup (tacons (tcon (.str "truth")) (tacons (top (vcmp fun i j => decide (i < j)) (top vix (tvar 1) (tcon (.int 1))) (top vix (tvar 2) (tcon (.int 1)))) tanil))) tanil))))
  tnext)
  (tseq (tifs (tbool (top veq (tvar 0) (tcon (.str "=="))))
  (tret (ttup (tacons (tcon (.str "next")) (tacons (ttup (tacons (tcon (.str "truth")) (tacons (top veq (top vix (tvar 1) (tcon (.int 1))) (top vix (tvar 2) (tcon (.int 1)))) tanil))) tanil))))
  tnext)
  (tseq (tasg (tife (tbool (top veq (tvar 0) (tcon (.str "+")))) (top vadd (top vix (tvar 1) (tcon (.int 1))) (top vix (tvar 2) (tcon (.int 1)))) (top vsub (top vix (tvar 1) (tcon (.int 1))) (top vix (tvar 2) (tcon (.int 1))))) (gname 3))
  (tseq (tifs (tor (tand (tbool (top veq (tvar 0) (tcon (.str "+")))) (tbool (top (vcmp fun i j => decide (j < i)) (tvar 3) (tcon (.int 999999))))) (tand (tbool (top veq (tvar 0) (tcon (.str "-")))) (tbool (top (vcmp fun i j => decide (i < j)) (tvar 3) (tcon (.int 0))))))
  (tret (ttup (tacons (tcon (.str "overflow")) tanil)))
  tnext)
  (tret (ttup (tacons (tcon (.str "next")) (tacons (ttup (tacons (tcon (.str "number")) (tacons (tvar 3) tanil))) tanil)))))))))

def sp__counted : TSp := fun ts G R => ∃ (o : Str) (a b : Ex), ts = [.str o, a.enc, b.enc] ∧ o ∈ OPS ∧ R (counted o a b).enc G
theorem pure__counted (ts : List T) (G : GH) (R : TK) (h : sp__counted ts G R) : t__counted { nx := fun _ G' => WkR R .non G', rt := WkR R } (startT ["sign", "one", "other", "result"] ts) G := by
  obtain ⟨o, a, b, rfl, ho, h⟩ := h
  have not : (∀ i j, a = .num i → b = .num j → False) → counted o a b = .stuck "not a number" := by
    intro n
    cases a <;> first | rfl | (cases b <;> first | rfl | exact (n _ _ rfl rfl).elim)
  unfold t__counted
  cases a with
  | num i =>
    cases b with
    | num j =>
      simp only [OPS, List.mem_cons, List.not_mem_nil, or_false] at ho
      rcases ho with rfl | rfl | rfl | rfl
      · simp +decide only [counted] at h
        simp only [Ex.enc]
        walk_at "tl"
        by_cases c : 999999 < i + j
        · rw [if_pos (by simpa using c)]; rw [if_pos c] at h; exact .of h
        · rw [if_neg (by simpa using c)]; rw [if_neg c] at h; exact .of h
      · simp +decide only [counted] at h
        simp only [Ex.enc]
        walk_at "tl"
        by_cases c : i - j < 0
        · rw [if_pos (by simpa using c)]; rw [if_pos c] at h; exact .of h
        · rw [if_neg (by simpa using c)]; rw [if_neg c] at h; exact .of h
      · simp +decide only [counted] at h
        simp only [Ex.enc]
        walk_at "tl"
        exact .of h
      · simp +decide only [counted] at h
        simp only [Ex.enc]
        walk_at "tl"
        exact .of h
    | _ =>
      rw [not (fun _ _ _ e => by cases e)] at h
      simp only [Ex.enc]
      walk_at "tl"
      exact .of h
  | _ =>
    rw [not (fun _ _ e => by cases e)] at h
    simp only [Ex.enc]
    walk_at "tl"
    exact .of h
def t__with_child : TTS :=
  (tseq (tasg (tcb vlist (tacons (tcall sp_children (tacons (tvar 0) tanil)) tanil)) (gname 3))
  (tseq (tput (tvar 3) (tvar 1) (tvar 2))
  (tret (tcall sp_with_children (tacons (tvar 0) (tacons (tvar 3) tanil))))))

def sp__with_child : TSp := fun ts G R => ∃ (e : Ex) (j : Nat) (c : Ex), ts = [e.enc, .int (j : Int), c.enc] ∧ j < e.kids.length ∧ R (e.withK (e.kids.set j c)).enc G
theorem pure__with_child (ts : List T) (G : GH) (R : TK) (h : sp__with_child ts G R) : t__with_child { nx := fun _ G' => WkR R .non G', rt := WkR R } (startT ["node", "at", "child", "inner"] ts) G := by
  obtain ⟨e, j, c, rfl, hj, h⟩ := h
  unfold t__with_child
  walk_at "tl"
  refine ⟨e, rfl, ?_⟩
  walk_at "tl"
  intro l hl
  refine put_lst (j := j) gupd_same (by
    simp only [ixN, List.length_map]
    rw [if_pos (by omega), if_pos (by omega)]; simp) ?_
  rw [gupd_gupd]
  walk_at "tl"
  refine ⟨e, e.kids.set j c, l, rfl, by rw [gupd_same, List.map_set], by rw [List.length_set], ?_⟩
  exact wkR_new hl h
end TL

namespace TL
open PySem PySem.Spec PyProof.Rows L2
local macro_rules | `(tactic| walk_at "tl") => `(tactic| try simp +decide only [tseq, vint_bl, vneg_int, irevr1_eq, tpl, exists_ptup, vptuple_ref, tmethT, tandV, torV, tnotV, tasg, tifs, tbool, tret, tretN, tdrop, tnext, tcont, tbreak, gname, gtup_tup, gcons_cons, gnil_nil, GO.lst.injEq, GO.dK.injEq, top, tvar, tcon, tun, ttup, tlst, tacons, tanil, tcb, tcall, tife, tand, tor, tnot, tandV, torV, tnotV, tisN, tnotN, T.isNon, ttruth, truth_bl, truth_non, truth_int, truth_tup, truth_fl, tsl, tpart, tnopart, tsortk, tlc, tfor, iany, irev, irange1_eq, irange2_eq, items_tup, items_fl, items_ref, twipe, List.set, izip_eq, tput_eq, vlist_tup, tmeth, isL, mappend_ref, mextend_tup, trev, exists_eq, exists_eq', 
  vix_tup, vix_fl, veq_str, vne_str, veq_int, vne_int, vcmp_int, vadd_int, vaddI_int, vadd_tup, vadd_str, vsub_int, vI_int, vlen_tup, vlen_fl, vlen_str, vtuple_tup, vtuple_ref, vint_int, vsl_tup, cut_from1, atI0, atI1, atI2, atI3, taug,
  startT, List.map_cons, List.map_nil, List.length_cons, List.length_nil, List.cons_append, List.nil_append, List.getElem?_cons_zero, List.getElem?_cons_succ, List.set_cons_zero, List.set_cons_succ, List.replicate, Option.some.injEq, exists_eq_left', exists_eq_left, T.bl.injEq, T.int.injEq, T.str.injEq, T.tup.injEq, T.ref.injEq, if_true, if_false, ite_true, ite_false, true_and, and_true, reduceCtorEq, gupd_same, gupd_gupd, Option.map_some, Option.map_none, Option.isSome_some, Option.isSome_none, Bool.not_true, Bool.not_false, Bool.true_eq_false, Bool.false_eq_true, List.cons.injEq, decide_true, decide_false])
def backF (A : List (Str × Ex × Ex)) (w : Ex) : Ex := A.foldr (fun q w => .ext q.1 q.2.1 w) w
def encA (q : Str × Ex × Ex) : T := (Ex.ext q.1 q.2.1 q.2.2).enc
def t__field_step : TTS :=
  (tseq (tifs (tbool (top (vin true) (top vix (tvar 2) (tcon (.int 0))) (tcon (.tup (L_RECORDS.map T.str)))))
  (tret (ttup (tacons (tcon (.str "stuck")) (tacons (tcon (.str "not a record")) tanil))))
  tnext)
  (tseq (tasg (tlst tanil) (gname 3))
  (tseq (tasg (tvar 2) (gname 4))
  (tseq (twhile (tand (tbool (top veq (top vix (tvar 4) (tcon (.int 0))) (tcon (.str "extend")))) (tbool (top vne (top vix (tvar 4) (tcon (.int 1))) (tvar 1))))
  (tseq (tdrop (tmeth mappend (tvar 3) (tacons (tvar 4) tanil)))
  (tasg (top vix (tvar 4) (tcon (.int 3))) (gname 4))))
  (tseq (tifs (tbool (top veq (top vix (tvar 4) (tcon (.int 0))) (tcon (.str "empty"))))
  (tret (ttup (tacons (tcon (.str "stuck")) (tacons (tcon (.str "no such field")) tanil))))
  tnext)
  (tseq (tifs (tbool (top veq (tvar 0) (tcon (.str "select"))))
  (tret (ttup (tacons (tcon (.str "next")) (tacons (top vix (tvar 4) (tcon (.int 2))) tanil))))
  tnext)
  (tseq (tasg (top vix (tvar 4) (tcon (.int 3))) (gname 5))
  (tseq (tfor (irev (tvar 3)) (gname 6)
  (tasg (tcall sp__with_child (tacons (tvar 6) (tacons (tcon (.int 1)) (tacons (tvar 5) tanil)))) (gname 5)))
  (tret (ttup (tacons (tcon (.str "next")) (tacons (tvar 5) tanil))))))))))))

def selWord (sel : Bool) : Str := if sel then "select" else "drop"
def sp__field_step : TSp := fun ts G R => ∃ (sel : Bool) (l : Str) (r : Ex), ts = [.str (selWord sel), .str l, r.enc] ∧ r.val = true ∧ r.size ≤ sizeLine ∧ R (fieldStep sel l r).enc G
theorem pure__field_step (ts : List T) (G : GH) (R : TK) (h : sp__field_step ts G R) : t__field_step { nx := fun _ G' => WkR R .non G', rt := WkR R } (startT ["kind", "label", "record", "ahead", "rest", "without", "field"] ts) G := by
  obtain ⟨sel, l, r, rfl, hv, hz, h⟩ := h
  unfold t__field_step
  walk_at "tl"
  refine vix_kind (e := r) ?_
  refine vin_strs (ys := L_RECORDS) ?_
  rw [rec_kind]
  cases hr : r.isRec with
  | false =>
    walk_at "tl"
    rw [fieldStep, if_pos hr] at h
    exact .of h
  | true =>
    have h : R (match (if sel then fieldOf l r else less l r) with | some e => Rs.next e | none => .stuck "no such field").enc G := by
      rw [fieldStep, if_neg (by simp [hr])] at h; exact h
    walk_at "tl"
    intro q hq
    refine ⟨fun m st G' => ∃ (A : List (Str × Ex × Ex)) (c : Ex), st = [some (.str (selWord sel)), some (.str l), some r.enc, some (.ref q), some c.enc, none, none] ∧ G' = gupd G q (.lst (A.map encA)) ∧ m = c.size ∧ A.length + c.size ≤ r.size ∧ c.val = true ∧ c.isRec = true ∧ fieldOf l r = fieldOf l c ∧ less l r = (less l c).map (backF A), ⟨_, [], r, rfl, rfl, rfl, by simp, hv, hr, rfl, by cases less l r <;> rfl⟩, ?_⟩
    rintro m st G' ⟨A, c, rfl, rfl, rfl, hl, cv, cr, hf, hs⟩
    cases c with
    | emp =>
      simp only [Ex.enc]
      walk_at "tl"
      rw [hf, hs] at h
      refine ⟨_, Sub.gupd hq, ?_⟩
      cases sel <;> exact h
    | ext k a t =>
      simp only [Ex.val, Bool.and_eq_true] at cv
      simp only [Ex.size] at hl
      by_cases hk : k = l
      · have e2 : (!decide (k = l)) = false := by simp [hk]
        have f1 : fieldOf l r = some a := by rw [hf, fieldOf, if_pos hk]
        have f2 : less l r = some (backF A t) := by rw [hs, less, if_pos hk]; rfl
        rw [f1, f2] at h
        simp only [Ex.enc]
        walk_at "tl"
        rw [e2]
        walk_at "tl"
        cases sel with
        | true =>
          walk_at "tl"
          exact ⟨_, Sub.gupd hq, h⟩
        | false =>
          walk_at "tl"
          rw [← List.map_reverse]
          refine for_inv (α := Str × Ex × Ex) encA (fun xs st G' => ∃ w : Ex, backF xs.reverse w = backF A t ∧ st = [some (.str (selWord false)), some (.str l), some r.enc, some (.ref q), some (.tup [.str "extend", .str k, a.enc, t.enc]), some w.enc, none] ∧ G' = gupd G q (.lst (A.map encA))) ?_ ?_ A.reverse _ _ ⟨t, by rw [List.reverse_reverse], rfl, rfl⟩
          · rintro ⟨k2, a2, t2⟩ xs st G' N hN ⟨w, hw, rfl, rfl⟩
            refine ⟨gupd_same, ?_⟩
            walk_at "tl"
            refine ⟨.ext k2 a2 t2, 1, w, rfl, by simp [Ex.kids], ?_⟩
            refine hN _ _ (.mk ⟨.ext k2 a2 w, ?_, rfl, rfl⟩ (.same (.same (.same (.same (.same (.same (.none .nil))))))) .refl)
            rw [← hw]
            simp [backF]
          · rintro st G' ⟨w, hw, rfl, rfl⟩
            refine ⟨gupd_same, ?_⟩
            walk_at "tl"
            have : w = backF A t := hw
            rw [← this] at h
            exact ⟨_, Sub.gupd hq, h⟩
      · have e2 : (!decide (k = l)) = true := by simp [hk]
        simp only [Ex.enc]
        walk_at "tl"
        rw [e2]
        walk_at "tl"
        refine ⟨?_, ?_⟩
        · rw [List.length_map]; have := t.size_pos; have := a.size_pos; omega
        · refine ⟨t.size, by simp only [Ex.size]; omega, .mk ⟨A ++ [(k, a, t)], t, rfl, by rw [List.map_append]; rfl, rfl, by simp; omega, cv.2.1, cv.2.2, by rw [hf, fieldOf, if_neg hk], ?_⟩ (.same (.same (.same (.same (.same (.none (.none .nil))))))) .refl⟩
          rw [hs, less, if_neg hk, Option.map_map]
          congr 1
          funext w
          simp [backF]
    | _ => cases cr
def Ex.need : Ex → Nat
  | .nam _ => 0
  | .app _ _ => 2
  | .lt _ _ _ => 1
  | .ite _ _ _ => 1
  | .op _ _ _ => 2
  | .ext _ _ _ => 2
  | .sel _ _ => 1
  | .drp _ _ => 1
  | _ => 0
def t__own_step : TTS :=
  (tseq (tasg (top vix (tvar 0) (tcon (.int 0))) (gname 2))
  (tseq (tifs (tbool (top veq (tvar 2) (tcon (.str "name"))))
  (tret (tcall sp__definition (tacons (top vix (tvar 0) (tcon (.int 1))) (tacons (tvar 1) tanil))))
  tnext)
  (tseq (tifs (tbool (top veq (tvar 2) (tcon (.str "call"))))
  (tret (tcall sp__called (tacons (top vix (tvar 0) (tcon (.int 1))) (tacons (top vix (tvar 0) (tcon (.int 2))) tanil))))
  tnext)
  (tseq (tifs (tbool (top veq (tvar 2) (tcon (.str "let"))))
  (tret (ttup (tacons (tcon (.str "next")) (tacons (tcall sp_put_in (tacons (top vix (tvar 0) (tcon (.int 3))) (tacons (top vix (tvar 0) (tcon (.int 1))) (tacons (top vix (tvar 0) (tcon (.int 2))) tanil)))) tanil))))
  tnext)
  (tseq (tifs (tbool (top veq (tvar 2) (tcon (.str "if"))))
  (tret (tcall sp__chosen (tacons (tvar 0) tanil)))
  tnext)
  (tseq (tifs (tbool (top veq (tvar 2) (tcon (.str "op"))))
  (tret (tcall sp__counted (tacons (top vix (tvar 0) (tcon (.int 1))) (tacons (top vix (tvar 0) (tcon (.int 2))) (tacons (top vix (tvar 0) (tcon (.int 3))) tanil)))))
  tnext)
  (tseq (tifs (tbool (top veq (tvar 2) (tcon (.str "extend"))))
  (tret (ttup (tacons (tcon (.str "stuck")) (tacons (tcon (.str "not a record")) tanil))))
  tnext)
  (tret (tcall sp__field_step (tacons (tvar 2) (tacons (top vix (tvar 0) (tcon (.int 1))) (tacons (top vix (tvar 0) (tcon (.int 2))) tanil))))))))))))

def sp__own_step : TSp := fun ts G R => ∃ (e : Ex) (bk : Bk), ts = [e.enc, encBk bk] ∧ e.ok ∧ e.val = false ∧ (∀ q ∈ e.kids.take e.need, q.val = true) ∧ e.size ≤ 1000 ∧ R (own bk e).enc G
theorem pure__own_step (ts : List T) (G : GH) (R : TK) (h : sp__own_step ts G R) : t__own_step { nx := fun _ G' => WkR R .non G', rt := WkR R } (startT ["node", "book", "kind"] ts) G := by
  obtain ⟨e, bk, rfl, hok, hv, hk, hz, h⟩ := h
  have z : (2 ^ 24 : Nat) = sizeLine := rfl
  have sq : ∀ n : Nat, n + 1 ≤ 1000 → (n + 1) * (n + 1) ≤ sizeLine := fun n hn => by
    have := Nat.mul_le_mul hn hn
    exact Nat.le_trans this (by decide)
  unfold t__own_step
  cases e with
  | nam x => simp only [Ex.enc]; walk_at "tl"; exact ⟨x, bk, rfl, .of h⟩
  | app f a =>
    simp only [Ex.size] at hz
    have := a.size_pos
    simp only [Ex.enc]; walk_at "tl"; exact ⟨f, a, rfl, sq _ (by omega), .of h⟩
  | lt x a b => simp only [Ex.size] at hz; simp only [Ex.enc]; walk_at "tl"; refine ⟨b, x, a, rfl, by omega, ?_⟩; walk_at "tl"; exact .of h
  | ite c a b => have h2 : sp__chosen [(Ex.ite c a b).enc] G (WkR R) := ⟨c, a, b, rfl, .of h⟩; simp only [Ex.enc] at h2 ⊢; walk_at "tl"; exact h2
  | op o a b => simp only [Ex.enc]; walk_at "tl"; exact ⟨o, a, b, rfl, hok.1, .of h⟩
  | ext l a r => simp only [Ex.enc]; walk_at "tl"; exact .of h
  | sel l r =>
    simp only [Ex.size] at hz
    simp only [Ex.enc]; walk_at "tl"; exact ⟨true, l, r, rfl, hk r (by simp [Ex.kids, Ex.need]), by omega, .of h⟩
  | drp l r =>
    simp only [Ex.size] at hz
    simp only [Ex.enc]; walk_at "tl"; exact ⟨false, l, r, rfl, hk r (by simp [Ex.kids, Ex.need]), by omega, .of h⟩
  | _ => cases hv
inductive Walk : Ex × Nat → List ((Ex × Nat) × Nat) → Ex × Nat → Prop
  | tip {u : Ex × Nat} : u.1.val = false → (∀ q ∈ (kidsI u).take u.1.need, q.1.val = true) → Walk u [] u
  | down {u v t : Ex × Nat} {j : Nat} {tr : List ((Ex × Nat) × Nat)} : u.1.val = false → j < u.1.need → (kidsI u)[j]? = some v → v.1.val = false → (∀ q ∈ (kidsI u).take j, q.1.val = true) → Walk v tr t → Walk u ((u, j) :: tr) t
theorem Walk.inv {u t : Ex × Nat} {tr : List ((Ex × Nat) × Nat)} (w : Walk u tr t) : (tr = [] ∧ t = u ∧ ∀ q ∈ (kidsI u).take u.1.need, q.1.val = true) ∨
    ∃ v j tr2, tr = (u, j) :: tr2 ∧ j < u.1.need ∧ (kidsI u)[j]? = some v ∧ v.1.val = false ∧ (∀ q ∈ (kidsI u).take j, q.1.val = true) ∧ Walk v tr2 t := by
  cases w with
  | tip h1 h2 => exact .inl ⟨rfl, rfl, h2⟩
  | down h1 h2 h3 h4 h5 w => exact .inr ⟨_, _, _, rfl, h2, h3, h4, h5, w⟩
theorem first_bad : ∀ L : List (Ex × Nat), (∀ q ∈ L, q.1.val = true) ∨ ∃ j v, L[j]? = some v ∧ v.1.val = false ∧ ∀ q ∈ L.take j, q.1.val = true
  | [] => .inl (by simp)
  | x :: r => by
    cases hx : x.1.val with
    | false => exact .inr ⟨0, x, rfl, hx, by simp⟩
    | true =>
      rcases first_bad r with h | ⟨j, v, h1, h2, h3⟩
      · exact .inl fun q hq => (List.mem_cons.mp hq).elim (fun e => e ▸ hx) (h q)
      · exact .inr ⟨j + 1, v, h1, h2, fun q hq => by rw [List.take_succ_cons] at hq; exact (List.mem_cons.mp hq).elim (fun e => e ▸ hx) (h3 q)⟩
theorem kidsI_size {u v : Ex × Nat} (h : v ∈ kidsI u) : v.1.size < u.1.size := by
  refine u.1.kid_size v.1 ?_
  rw [← kidsI_fst]
  exact List.mem_map_of_mem h
theorem Walk.ex : ∀ (n : Nat) (u : Ex × Nat), u.1.size ≤ n → u.1.val = false → ∃ tr t, Walk u tr t := by
  intro n
  induction n with
  | zero => intro u h; have := u.1.size_pos; omega
  | succ n ih =>
    intro u hn hv
    rcases first_bad ((kidsI u).take u.1.need) with h | ⟨j, v, h1, h2, h3⟩
    · exact ⟨[], u, .tip hv h⟩
    · have hj : j < u.1.need := by
        have := (List.getElem?_eq_some_iff.mp h1).1
        rw [List.length_take] at this; omega
      have h1' : (kidsI u)[j]? = some v := by rw [List.getElem?_take, if_pos hj] at h1; exact h1
      obtain ⟨tr, t, w⟩ := ih v (by have := kidsI_size (List.mem_of_getElem? h1'); omega) h2
      refine ⟨_, t, .down hv hj h1' h2 (fun q hq => h3 q ?_) w⟩
      rw [List.take_take, Nat.min_eq_left (by omega)]; exact hq
def wayN (tr : List ((Ex × Nat) × Nat)) (t : Ex × Nat) : List Nat := tr.map (·.1.2) ++ [t.2]
theorem Walk.head {u t : Ex × Nat} {tr : List ((Ex × Nat) × Nat)} (w : Walk u tr t) : u.1.val = false := by cases w <;> assumption
theorem wayN_head {u t : Ex × Nat} {tr : List ((Ex × Nat) × Nat)} (w : Walk u tr t) : ∃ r, wayN tr t = u.2 :: r := by cases w <;> exact ⟨_, rfl⟩
theorem need_mem {e : Ex} (h : e.val = false) : (e.kind, (e.need : Int)) ∈ D_NEEDED := by
  cases e <;> first | (cases h; done) | (simp +decide [Ex.kind, Ex.need, D_NEEDED]; done)
theorem atI_neg {α : Type} {xs : List α} {x : α} : atI (xs ++ [x]) (-1) = some x := by
  have h : ixN (xs ++ [x]).length (-1) = some xs.length := by
    unfold ixN
    rw [if_neg (by decide), if_pos (by simp; omega)]
    congr 1
    simp only [List.length_append, List.length_cons, List.length_nil]; omega
  unfold atI
  rw [h]
  simp
theorem cut_take {xs : List T} {n : Nat} : cutT xs none (some (n : Int)) = xs.take n := by
  unfold cutT
  rw [HT.sIx_none, HT.sIx_nat]
  simp [List.take_eq_take_iff]
def t__way_to_step : TTS :=
  (tseq (tasg (tlst tanil) (gname 3))
  (tseq (tasg (tlst (tacons (tcon (.int 0)) tanil)) (gname 4))
  (tseq (twhile (ttruth (tvar 4))
  (tseq (tdrop (tmeth mappend (tvar 3) (tacons (top vix (tvar 4) (tcon (.int 0))) tanil)))
  (tseq (tasg (tsl (tpl (top vix (tvar 1) (top vix (tvar 3) (tun vneg (tcon (.int 1)))))) tnopart (tpart (tkd D_NEEDED (top vix (top vix (tvar 0) (top vix (tvar 3) (tun vneg (tcon (.int 1))))) (tcon (.int 0)))))) (gname 5))
  (tasg (tlc (iany (tvar 5)) (gname 6) (tnot (ttruth (top vix (tvar 2) (tvar 6)))) (tvar 6) [6]) (gname 4)))))
  (tret (tvar 3)))))

def sp__way_to_step : TSp := fun ts G R => ∃ (e : Ex) (a b c : Addr) (tr : List ((Ex × Nat) × Nat)) (t : Ex × Nat), ts = [.ref a, .ref b, .ref c] ∧ G a = some (.lst ((e.preI 0).map encJ)) ∧ G b = some (.lst ((e.preI 0).map encK)) ∧ G c = some (.lst ((e.preI 0).map valT)) ∧ Walk (e, 0) tr t ∧ e.size ≤ sizeLine ∧ tr.length < sizeLine ∧
  ∀ q, G q = none → R (.ref q) (gupd G q (.lst ((wayN tr t).map intN)))
theorem pure__way_to_step (ts : List T) (G : GH) (R : TK) (h : sp__way_to_step ts G R) : t__way_to_step { nx := fun _ G' => WkR R .non G', rt := WkR R } (startT ["parts", "inner", "marks", "way", "waiting", "needed", "child"] ts) G := by
  obtain ⟨e, a, b, c, tr, t, rfl, ha, hb, hc, w, hz, htl, h⟩ := h
  have zz : (2 ^ 24 : Nat) = sizeLine := rfl
  unfold t__way_to_step
  walk_at "tl"
  intro q hq w0 hw0
  obtain ⟨hwq, hw1⟩ := ne_none hw0
  refine ⟨fun m st G' => ∃ (f : Addr) (done L : List Nat), f ≠ q ∧ G f = none ∧ st = [some (.ref a), some (.ref b), some (.ref c), some (.ref q), some (.ref f), none, none] ∧ G' = gupd (gupd G q (.lst (done.map intN))) f (.lst (L.map intN)) ∧
    ((∃ u tr' more, L = u.2 :: more ∧ u ∈ e.preI 0 ∧ Walk u tr' t ∧ done ++ wayN tr' t = wayN tr t ∧ m = tr'.length + 1) ∨ (L = [] ∧ done = wayN tr t ∧ m = 0)), ⟨_, w0, [], [0], hwq, hw1, rfl, rfl, .inl ⟨(e, 0), tr, [], rfl, root_pre e, w, rfl, rfl⟩⟩, ?_⟩
  rintro m st G' ⟨f, done, L, hfq, hf, rfl, rfl, hI⟩
  walk_at "tl"
  refine ⟨_, truth_ref gupd_same rfl, ?_⟩
  rcases hI with ⟨u, tr', more, rfl, hu, W, hd, rfl⟩ | ⟨rfl, rfl, rfl⟩
  · have aq : a ≠ q := Ne.symm (fresh_ne hq ha)
    have bq : b ≠ q := Ne.symm (fresh_ne hq hb)
    have cq : c ≠ q := Ne.symm (fresh_ne hq hc)
    have af : a ≠ f := Ne.symm (fresh_ne hf ha)
    have bf : b ≠ f := Ne.symm (fresh_ne hf hb)
    have cf : c ≠ f := Ne.symm (fresh_ne hf hc)
    have hdl := congrArg List.length hd
    simp only [wayN, List.length_append, List.length_map, List.length_cons, List.length_nil] at hdl
    walk_at "tl"
    simp only [List.isEmpty_cons, Bool.not_false, if_true]
    refine ⟨⟨_, g2_p hfq⟩, vix_lst gupd_same atI0 ⟨done.map intN, g2_p hfq, by rw [List.length_map]; omega, ?_⟩⟩
    rw [g2_setp hfq]
    have ga : ∀ A B : GO, gupd (gupd G q A) f B a = some (.lst ((e.preI 0).map encJ)) := fun A B => by rw [gupd_ne af, gupd_ne aq]; exact ha
    have gb : ∀ A B : GO, gupd (gupd G q A) f B b = some (.lst ((e.preI 0).map encK)) := fun A B => by rw [gupd_ne bf, gupd_ne bq]; exact hb
    have gc : ∀ A B : GO, gupd (gupd G q A) f B c = some (.lst ((e.preI 0).map valT)) := fun A B => by rw [gupd_ne cf, gupd_ne cq]; exact hc
    have hu0 := W.head
    refine vix_lst (g2_p hfq) atI_neg ?_
    refine vix_lst (gb _ _) (pre_at encK hu) ⟨_, rfl, ?_⟩
    unfold tkd
    walk_at "tl"
    refine vix_lst (g2_p hfq) atI_neg ?_
    refine vix_lst (ga _ _) (pre_at encJ hu) ?_
    refine vix_kind (e := u.1) ?_
    refine ⟨_, _, rfl, need_mem hu0, fun D hD0 => ?_⟩
    obtain ⟨hDf, hD1⟩ := ne_none hD0
    obtain ⟨hDq, hD2⟩ := ne_none hD1
    have hDc : c ≠ D := Ne.symm (fresh_ne hD2 hc)
    have em : cutT (List.map intT (kidsI u)) none (some (u.1.need : Int)) = ((kidsI u).take u.1.need).map intT := by rw [cut_take, List.map_take]
    rw [em]
    have hk3 := u.1.kids_le
    rw [← kidsI_len] at hk3
    refine lc_inv (α := Ex × Nat) intT (fun ys acc G' => ∃ zs, (kidsI u).take u.1.need = zs ++ ys ∧ acc = (zs.filter fun v => !v.1.val).map intT ∧ G' = gupd (gupd (gupd G q (.lst (done.map intN ++ [intN u.2]))) f (.lst (intN u.2 :: more.map intN))) D (.lst acc)) ?_ ?_ ((kidsI u).take u.1.need) [] _ ⟨[], rfl, rfl, rfl⟩
    · rintro v ys acc G' N hN ⟨zs, hzs, rfl, rfl⟩
      have hv : v ∈ kidsI u := List.mem_of_mem_take (by rw [hzs]; simp : v ∈ (kidsI u).take u.1.need)
      have hlen := congrArg List.length hzs
      rw [List.length_take, List.length_append, List.length_cons] at hlen
      have hfl := List.length_filter_le (fun v : Ex × Nat => !v.1.val) zs
      refine ⟨trivial, ?_⟩
      walk_at "tl"
      refine vix_lst (by rw [gupd_ne hDc]; exact gc _ _) (pre_at valT (kid_pre hu hv)) ?_
      refine ⟨v.1.val, rfl, ?_⟩
      have next : ∀ A, A = ((zs ++ [v]).filter fun v => !v.1.val).map intT → N (gupd (gupd (gupd G q (.lst (done.map intN ++ [intN u.2]))) f (.lst (intN u.2 :: more.map intN))) D (.lst A)) := fun A hA => hN A _ (.of ⟨zs ++ [v], by simpa using hzs, hA, rfl⟩)
      cases hvv : v.1.val with
      | true =>
        walk_at "tl"
        exact next _ (by simp [hvv])
      | false =>
        walk_at "tl"
        exact ⟨by rw [List.length_map]; omega, next _ (by simp [hvv])⟩
    · rintro acc G' ⟨zs, hzs, rfl, rfl⟩
      rw [List.append_nil] at hzs
      subst hzs
      refine ⟨trivial, ?_⟩
      have sub : ∀ A, Sub (gupd (gupd G q (.lst ((done ++ [u.2]).map intN))) D (.lst A)) (gupd (gupd (gupd G q (.lst (done.map intN ++ [intN u.2]))) f (.lst (intN u.2 :: more.map intN))) D (.lst A)) := fun A => by
        have e1 : (done ++ [u.2]).map intN = done.map intN ++ [intN u.2] := by rw [List.map_append]; rfl
        rw [e1, gupd_comm (Ne.symm hDf)]
        exact Sub.gupd (by rw [gupd_ne (Ne.symm hDf), gupd_ne hfq]; exact hf)
      have em2 : ∀ Z : List (Ex × Nat), Z.map intT = (Z.map (·.2)).map intN := fun Z => by rw [List.map_map]; rfl
      rcases W.inv with ⟨rfl, rfl, h2⟩ | ⟨v, j, tr2, rfl, h2, h3, h4, h5, W2⟩
      · have e0 : (((kidsI t).take t.1.need).filter fun v => !v.1.val) = [] := List.filter_eq_nil_iff.mpr fun q hq => by simp [h2 q hq]
        rw [e0]
        exact ⟨0, by omega, .mk ⟨D, done ++ [t.2], [], hDq, hD2, rfl, rfl, .inr ⟨rfl, hd, rfl⟩⟩ (.same (.same (.same (.same (.same (.none (.none .nil))))))) (sub _)⟩
      · have e0 : ∃ more2, (((kidsI u).take u.1.need).filter fun v => !v.1.val) = v :: more2 := by
          have e1 : (kidsI u).take u.1.need = (kidsI u).take j ++ v :: ((kidsI u).take u.1.need).drop (j + 1) := by
            have h6 : ((kidsI u).take u.1.need)[j]? = some v := by rw [List.getElem?_take, if_pos h2]; exact h3
            obtain ⟨hj, h7⟩ := List.getElem?_eq_some_iff.mp h6
            have h8 : ((kidsI u).take u.1.need).take j = (kidsI u).take j := by rw [List.take_take, Nat.min_eq_left (by omega)]
            rw [← h8, ← h7, List.getElem_cons_drop hj, List.take_append_drop]
          rw [e1, List.filter_append]
          have e2 : ((kidsI u).take j).filter (fun v => !v.1.val) = [] := List.filter_eq_nil_iff.mpr fun q hq => by simp [h5 q hq]
          rw [e2, List.nil_append, List.filter_cons_of_pos (by simp [h4])]
          exact ⟨_, rfl⟩
        obtain ⟨more2, e0⟩ := e0
        rw [e0]
        have sb : Sub (gupd (gupd G q (.lst ((done ++ [u.2]).map intN))) D (.lst ((v.2 :: more2.map (·.2)).map intN))) (gupd (gupd (gupd G q (.lst (done.map intN ++ [intN u.2]))) f (.lst (intN u.2 :: more.map intN))) D (.lst ((v :: more2).map intT))) := by
          rw [em2 (v :: more2)]; exact sub _
        refine ⟨tr2.length + 1, by simp, .mk ⟨D, done ++ [u.2], _, hDq, hD2, rfl, rfl, .inl ⟨v, tr2, more2.map (·.2), rfl, kid_pre hu (List.mem_of_getElem? h3), W2, ?_, rfl⟩⟩ (.same (.same (.same (.same (.same (.none (.none .nil))))))) sb⟩
        rw [← hd]
        simp [wayN]
  · walk_at "tl"
    exact ⟨_, Sub.gupd (by rw [gupd_ne hfq]; exact hf), h q hq⟩
end TL

namespace TL
open PySem PySem.Spec PyProof.Rows L2
local macro_rules | `(tactic| walk_at "tl") => `(tactic| try simp +decide only [tseq, vint_bl, vneg_int, irevr1_eq, tpl, exists_ptup, vptuple_ref, tmethT, tandV, torV, tnotV, tasg, tifs, tbool, tret, tretN, tdrop, tnext, tcont, tbreak, gname, gtup_tup, gcons_cons, gnil_nil, GO.lst.injEq, GO.dK.injEq, top, tvar, tcon, tun, ttup, tlst, tacons, tanil, tcb, tcall, tife, tand, tor, tnot, tandV, torV, tnotV, tisN, tnotN, T.isNon, ttruth, truth_bl, truth_non, truth_int, truth_tup, truth_fl, tsl, tpart, tnopart, tsortk, tlc, tfor, iany, irev, irange1_eq, irange2_eq, items_tup, items_fl, items_ref, twipe, List.set, izip_eq, tput_eq, vlist_tup, tmeth, isL, mappend_ref, mextend_tup, trev, exists_eq, exists_eq', 
  vix_tup, vix_fl, veq_str, vne_str, veq_int, vne_int, vcmp_int, vadd_int, vaddI_int, vadd_tup, vadd_str, vsub_int, vI_int, vlen_tup, vlen_fl, vlen_str, vtuple_tup, vtuple_ref, vint_int, vsl_tup, cut_from1, atI0, atI1, atI2, atI3, taug,
  startT, List.map_cons, List.map_nil, List.length_cons, List.length_nil, List.cons_append, List.nil_append, List.getElem?_cons_zero, List.getElem?_cons_succ, List.set_cons_zero, List.set_cons_succ, List.replicate, Option.some.injEq, exists_eq_left', exists_eq_left, T.bl.injEq, T.int.injEq, T.str.injEq, T.tup.injEq, T.ref.injEq, if_true, if_false, ite_true, ite_false, true_and, and_true, reduceCtorEq, gupd_same, gupd_gupd, Option.map_some, Option.map_none, Option.isSome_some, Option.isSome_none, Bool.not_true, Bool.not_false, Bool.true_eq_false, Bool.false_eq_true, List.cons.injEq, decide_true, decide_false])
def plug : List ((Ex × Nat) × Nat) → Ex → Ex
  | [], v => v
  | p :: tr, v => p.1.1.withK (p.1.1.kids.set p.2 (plug tr v))
def Rs.plug (tr : List ((Ex × Nat) × Nat)) : Rs → Rs
  | .next e => .next (TL.plug tr e)
  | r => r
def Stepped (bk : Bk) (e : Ex) (r : Rs) : Prop := if e.val = true then r = .val else if 300 < e.size then r = .large else ∃ tr t, Walk (e, 0) tr t ∧ r = (own bk t.1).plug tr
theorem Stepped.ex (bk : Bk) (e : Ex) : ∃ r, Stepped bk e r := by
  unfold Stepped
  split
  · exact ⟨_, rfl⟩
  · split
    · exact ⟨_, rfl⟩
    · rename_i h _
      obtain ⟨tr, t, w⟩ := Walk.ex _ (e, 0) (Nat.le_refl _) (by simpa using h)
      exact ⟨_, tr, t, w, rfl⟩
theorem Walk.mem {e : Ex} {u t : Ex × Nat} {tr : List ((Ex × Nat) × Nat)} (w : Walk u tr t) : u ∈ e.preI 0 → t ∈ e.preI 0 := by
  induction w with
  | tip => exact id
  | down _ _ h3 _ _ _ ih => exact fun h => ih (kid_pre h (List.mem_of_getElem? h3))
theorem Walk.tipOk {u t : Ex × Nat} {tr : List ((Ex × Nat) × Nat)} (w : Walk u tr t) : t.1.val = false ∧ ∀ q ∈ t.1.kids.take t.1.need, q.val = true := by
  induction w with
  | tip h1 h2 =>
    rename_i u
    refine ⟨h1, fun q hq => ?_⟩
    rw [← kidsI_fst, ← List.map_take] at hq
    obtain ⟨v, hv, rfl⟩ := List.mem_map.mp hq
    exact h2 v hv
  | down _ _ _ _ _ _ ih => exact ih
theorem Walk.size {u t : Ex × Nat} {tr : List ((Ex × Nat) × Nat)} (w : Walk u tr t) : tr.length + t.1.size ≤ u.1.size := by
  induction w with
  | tip => simp
  | down _ _ h3 _ _ _ ih =>
    have := kidsI_size (List.mem_of_getElem? h3)
    simp only [List.length_cons]; omega
theorem kid_ok {e : Ex} (h : e.ok) : ∀ k ∈ e.kids, k.ok := by
  cases e <;> simp [Ex.kids, Ex.ok] at h ⊢ <;> simp_all
theorem kidsI_ok {u v : Ex × Nat} (h : u.1.ok) (hv : v ∈ kidsI u) : v.1.ok := by
  refine kid_ok h v.1 ?_
  rw [← kidsI_fst]
  exact List.mem_map_of_mem hv
theorem Walk.ok {u t : Ex × Nat} {tr : List ((Ex × Nat) × Nat)} (w : Walk u tr t) : u.1.ok → t.1.ok := by
  induction w with
  | tip => exact id
  | down _ _ h3 _ _ _ ih => exact fun h => ih (kidsI_ok h (List.mem_of_getElem? h3))
theorem Walk.at {e : Ex} {u t : Ex × Nat} {tr : List ((Ex × Nat) × Nat)} (w : Walk u tr t) : u ∈ e.preI 0 → ∀ (k : Nat) (p : (Ex × Nat) × Nat), tr[k]? = some p → p.1 ∈ e.preI 0 ∧ ∃ v, (kidsI p.1)[p.2]? = some v ∧ (wayN tr t)[k]? = some p.1.2 ∧ (wayN tr t)[k + 1]? = some v.2 := by
  induction w with
  | tip => intro _ k p h; cases h
  | @down u v t j tr _ _ h3 _ _ w ih =>
    intro hu k p hp
    cases k with
    | zero =>
      cases hp
      obtain ⟨r, hr⟩ := wayN_head w
      refine ⟨hu, v, h3, rfl, ?_⟩
      have : wayN ((u, j) :: tr) t = u.2 :: wayN tr t := rfl
      rw [this, hr]; rfl
    | succ k =>
      obtain ⟨h1, x, h2, h4, h5⟩ := ih (kid_pre hu (List.mem_of_getElem? h3)) k p hp
      exact ⟨h1, x, h2, h4, h5⟩
theorem atN {ns : List Nat} {k : Nat} {n : Nat} (h : ns[k]? = some n) : atI (ns.map intN) (k : Int) = some (intN n) := atI_lt (by rw [List.getElem?_map, h]; rfl)
def t_step : TTS :=
  (tseq (tasg (tcall sp_nodes (tacons (tvar 0) tanil)) (gname 2))
  (tseq (tasg (tcall sp_child_numbers (tacons (tvar 0) tanil)) (gname 3))
  (tseq (tasg (tcall sp__value_marks (tacons (tvar 2) (tacons (tvar 3) tanil))) (gname 4))
  (tseq (tifs (ttruth (top vix (tvar 4) (tcon (.int 0))))
  (tret (ttup (tacons (tcon (.str "value")) tanil)))
  tnext)
  (tseq (tifs (tbool (top (vcmp fun i j => decide (j < i)) (tcb vlen (tacons (tvar 2) tanil)) (tcon (.int 300))))
  (tret (ttup (tacons (tcon (.str "large")) tanil)))
  tnext)
  (tseq (tasg (tcall sp__way_to_step (tacons (tvar 2) (tacons (tvar 3) (tacons (tvar 4) tanil)))) (gname 5))
  (tseq (tasg (tcall sp__own_step (tacons (top vix (tvar 2) (top vix (tvar 5) (tun vneg (tcon (.int 1))))) (tacons (tvar 1) tanil))) (gname 6))
  (tseq (tifs (tbool (top vne (top vix (tvar 6) (tcon (.int 0))) (tcon (.str "next"))))
  (tret (tvar 6))
  tnext)
  (tseq (tasg (top vix (tvar 6) (tcon (.int 1))) (gname 7))
  (tseq (tfor (irevr1 (top vsub (tcb vlen (tacons (tvar 5) tanil)) (tcon (.int 1)))) (gname 8)
  (tasg (tcall sp__with_child (tacons (top vix (tvar 2) (top vix (tvar 5) (tvar 8))) (tacons (tmethT mtindex (top vix (tvar 3) (top vix (tvar 5) (tvar 8))) (tacons (top vix (tvar 5) (top vadd (tvar 8) (tcon (.int 1)))) tanil)) (tacons (tvar 7) tanil)))) (gname 7)))
  (tret (ttup (tacons (tcon (.str "next")) (tacons (tvar 7) tanil))))))))))))))

def sp_step : TSp := fun ts G R => ∃ (e : Ex) (bk : Bk) (r : Rs), ts = [e.enc, encBk bk] ∧ e.ok ∧ e.size ≤ sizeLine ∧ Stepped bk e r ∧ R r.enc G
theorem pure_step (ts : List T) (G : GH) (R : TK) (h : sp_step ts G R) : t_step { nx := fun _ G' => WkR R .non G', rt := WkR R } (startT ["expression", "book", "parts", "inner", "marks", "way", "found", "made", "at"] ts) G := by
  obtain ⟨e, bk, r, rfl, hok, hl, hS, h⟩ := h
  have zz : (2 ^ 24 : Nat) = sizeLine := rfl
  unfold t_step
  walk_at "tl"
  refine ⟨e, rfl, hl, fun a ha => ?_⟩
  refine ⟨e, rfl, hl, fun b hb => ?_⟩
  obtain ⟨hba, hb1⟩ := ne_none hb
  walk_at "tl"
  refine ⟨e, a, b, rfl, by rw [gupd_ne (Ne.symm hba), gupd_same], gupd_same, hl, fun c hc => ?_⟩
  obtain ⟨hcb, hc1⟩ := ne_none hc
  obtain ⟨hca, hc2⟩ := ne_none hc1
  walk_at "tl"
  refine vix_lst gupd_same (pre_at valT (root_pre e)) ?_
  refine ⟨e.val, rfl, ?_⟩
  have hsub : Sub G (gupd (gupd (gupd G a (.lst ((e.preI 0).map encJ))) b (.lst ((e.preI 0).map encK))) c (.lst ((e.preI 0).map valT))) := ((Sub.gupd ha).trans (Sub.gupd hb)).trans (Sub.gupd hc)
  generalize hG : gupd (gupd (gupd G a (.lst ((e.preI 0).map encJ))) b (.lst ((e.preI 0).map encK))) c (.lst ((e.preI 0).map valT)) = G1
  have ga : G1 a = some (.lst ((e.preI 0).map encJ)) := by rw [← hG, gupd_ne (Ne.symm hca), gupd_ne (Ne.symm hba), gupd_same]
  have gb : G1 b = some (.lst ((e.preI 0).map encK)) := by rw [← hG, gupd_ne (Ne.symm hcb), gupd_same]
  have gc : G1 c = some (.lst ((e.preI 0).map valT)) := by rw [← hG, gupd_same]
  rw [hG] at hsub
  have fin : ∀ (Q : TK) (x : T) (G2 : GH), Sub G1 G2 → Q x G → WkR Q x G2 := fun Q x G2 s q => ⟨G, hsub.trans s, q⟩
  unfold Stepped at hS
  cases hv : e.val with
  | true =>
    rw [if_pos hv] at hS
    subst hS
    walk_at "tl"
    exact fin _ _ _ .refl h
  | false =>
    rw [if_neg (by simp [hv])] at hS
    walk_at "tl"
    refine .inl ⟨_, ga, ?_⟩
    rw [List.length_map, e.preI_len]
    by_cases h300 : 300 < e.size
    · rw [if_pos h300] at hS
      subst hS
      have e2 : decide ((300 : Int) < (e.size : Int)) = true := decide_eq_true (by omega)
      walk_at "tl"
      rw [e2]
      walk_at "tl"
      exact fin _ _ _ .refl h
    · rw [if_neg h300] at hS
      obtain ⟨tr, t, w, rfl⟩ := hS
      have e2 : decide ((300 : Int) < (e.size : Int)) = false := decide_eq_false (by omega)
      have hws := w.size
      have htp := t.1.size_pos
      simp only at hws
      obtain ⟨tv, tk⟩ := w.tipOk
      have tm := w.mem (root_pre e)
      walk_at "tl"
      rw [e2]
      walk_at "tl"
      refine ⟨e, a, b, c, tr, t, rfl, ga, gb, gc, w, hl, by omega, fun q hq => ?_⟩
      have qa : a ≠ q := Ne.symm (fresh_ne hq ga)
      have qb : b ≠ q := Ne.symm (fresh_ne hq gb)
      walk_at "tl"
      have ga2 : gupd G1 q (.lst ((wayN tr t).map intN)) a = _ := (gupd_ne qa).trans ga
      have gb2 : gupd G1 q (.lst ((wayN tr t).map intN)) b = _ := (gupd_ne qb).trans gb
      have fin := fun (Q : TK) x => fin Q x _ (Sub.gupd hq (o := .lst ((wayN tr t).map intN)))
      refine vix_lst gupd_same (by show atI ((tr.map (·.1.2) ++ [t.2]).map intN) (-1) = _; rw [List.map_append]; exact atI_neg) ?_
      refine vix_lst ga2 (pre_at encJ tm) ?_
      refine ⟨t.1, bk, rfl, w.ok hok, tv, tk, by omega, ?_⟩
      walk_at "tl"
      cases ho : own bk t.1 with
      | next x =>
        rw [ho] at h
        simp only [Rs.enc]
        walk_at "tl"
        refine .inl ⟨_, gupd_same, ?_⟩
        walk_at "tl"
        refine rvr_int (n := tr.length) (by simp [wayN]) (by omega) ?_
        refine for_inv (α := Nat) (fun i => T.int (i : Int)) (fun xs st G' => ∃ m, xs = (List.range m).reverse ∧ m ≤ tr.length ∧ st = [some e.enc, some (encBk bk), some (.ref a), some (.ref b), some (.ref c), some (.ref q), some (Rs.next x).enc, some (plug (tr.drop m) x).enc, none] ∧ G' = gupd G1 q (.lst ((wayN tr t).map intN))) ?_ ?_ (List.range tr.length).reverse _ _ ⟨_, rfl, Nat.le_refl _, by simp [plug, Rs.enc], rfl⟩
        · rintro i xs st G' N hN ⟨m, hx, hm, rfl, rfl⟩
          refine ⟨trivial, ?_⟩
          cases m with
          | zero => simp at hx
          | succ k =>
            rw [List.range_succ, List.reverse_append] at hx
            simp only [List.reverse_cons, List.reverse_nil, List.nil_append, List.cons_append, List.cons.injEq] at hx
            obtain ⟨rfl, rfl⟩ := hx
            obtain ⟨p, hp⟩ : ∃ p, tr[i]? = some p := ⟨_, List.getElem?_eq_getElem (by omega)⟩
            obtain ⟨pm, v, hv1, hv2, hv3⟩ := w.at (root_pre e) i p hp
            have hpl : plug (tr.drop i) x = p.1.1.withK (p.1.1.kids.set p.2 (plug (tr.drop (i + 1)) x)) := by
              obtain ⟨hi, hp2⟩ := List.getElem?_eq_some_iff.mp hp
              rw [← List.getElem_cons_drop hi, hp2]; rfl
            walk_at "tl"
            refine vix_lst gupd_same (atN hv2) ?_
            refine vix_lst ga2 (pre_at encJ pm) ?_
            refine vix_lst gupd_same (atN hv2) ?_
            refine vix_lst gb2 (pre_at encK pm) ?_
            refine ⟨_, rfl, ?_⟩
            walk_at "tl"
            refine vix_lst gupd_same (by have := atN hv3; rw [Int.natCast_add] at this; exact this) ?_
            have em : encK p.1 = .ptup (((kidsI p.1).map fun q => (q.2 : Int)).map T.int) := by unfold encK; rw [List.map_map]; rfl
            rw [em]
            refine mtindex_mk p.2 (by rw [List.getElem?_map, hv1]; rfl) (fun m hm hx => ?_) ?_
            · rw [List.getElem?_map] at hx
              cases hy : (kidsI p.1)[m]? with
              | none => rw [hy] at hx; cases hx
              | some y =>
                rw [hy] at hx
                have := kidsI_asc hm hy hv1
                simp only [Option.map_some, Option.some.injEq] at hx
                omega
            · refine ⟨p.1.1, p.2, _, rfl, ?_, ?_⟩
              · have := (List.getElem?_eq_some_iff.mp hv1).1
                rw [kidsI_len] at this; exact this
              · rw [← hpl]
                exact hN _ _ (.mk ⟨i, rfl, by omega, rfl, rfl⟩ (.same (.same (.same (.same (.same (.same (.same (.same (.none .nil))))))))) .refl)
        · rintro st G' ⟨m, hx, hm, rfl, rfl⟩
          refine ⟨trivial, ?_⟩
          have : m = 0 := by
            cases m with
            | zero => rfl
            | succ m => rw [List.range_succ] at hx; simp at hx
          subst this
          walk_at "tl"
          exact fin _ _ h
      | _ =>
        rw [ho] at h
        simp only [Rs.enc]
        walk_at "tl"
        exact fin _ _ h
end TL

namespace TL
open PySem PySem.Spec PyProof.Rows L2
local macro_rules | `(tactic| walk_at "tl") => `(tactic| try simp +decide only [tseq, vint_bl, vneg_int, irevr1_eq, tpl, exists_ptup, vptuple_ref, tmethT, tandV, torV, tnotV, tasg, tifs, tbool, tret, tretN, tdrop, tnext, tcont, tbreak, gname, gtup_tup, gcons_cons, gnil_nil, GO.lst.injEq, GO.dK.injEq, top, tvar, tcon, tun, ttup, tlst, tacons, tanil, tcb, tcall, tife, tand, tor, tnot, tandV, torV, tnotV, tisN, tnotN, T.isNon, ttruth, truth_bl, truth_non, truth_int, truth_tup, truth_fl, tsl, tpart, tnopart, tsortk, tlc, tfor, iany, irev, irange1_eq, irange2_eq, items_tup, items_fl, items_ref, twipe, List.set, izip_eq, tput_eq, vlist_tup, tmeth, isL, mappend_ref, mextend_tup, trev, exists_eq, exists_eq', 
  vix_tup, vix_fl, veq_str, vne_str, veq_int, vne_int, vcmp_int, vadd_int, vaddI_int, vadd_tup, vadd_str, vsub_int, vI_int, vlen_tup, vlen_fl, vlen_str, vtuple_tup, vtuple_ref, vint_int, vsl_tup, cut_from1, atI0, atI1, atI2, atI3, taug,
  startT, List.map_cons, List.map_nil, List.length_cons, List.length_nil, List.cons_append, List.nil_append, List.getElem?_cons_zero, List.getElem?_cons_succ, List.set_cons_zero, List.set_cons_succ, List.replicate, Option.some.injEq, exists_eq_left', exists_eq_left, T.bl.injEq, T.int.injEq, T.str.injEq, T.tup.injEq, T.ref.injEq, if_true, if_false, ite_true, ite_false, true_and, and_true, reduceCtorEq, gupd_same, gupd_gupd, Option.map_some, Option.map_none, Option.isSome_some, Option.isSome_none, Bool.not_true, Bool.not_false, Bool.true_eq_false, Bool.false_eq_true, List.cons.injEq, decide_true, decide_false])
local macro_rules | `(tactic| walk_at "glk") => `(tactic| (repeat (first | exact gupd_same | refine (gupd_ne (by first | assumption | (apply Ne.symm; assumption))).trans ?_); try assumption))
def t__law_is_value (s__law_is_value : TSp) : TTS :=
  (tseq (twhile (tand (tbool (top veq (top vix (tvar 0) (tcon (.int 0))) (tcon (.str "extend")))) (ttruth (tcall s__law_is_value (tacons (top vix (tvar 0) (tcon (.int 2))) tanil))))
  (tseq (tasg (top vix (tvar 0) (tcon (.int 3))) (gname 0))
  (tifs (tand (tbool (top vne (top vix (tvar 0) (tcon (.int 0))) (tcon (.str "extend")))) (tbool (top vne (top vix (tvar 0) (tcon (.int 0))) (tcon (.str "empty")))))
  (tret (tcon (.bl false)))
  tnext)))
  (tret (top (vin false) (top vix (tvar 0) (tcon (.int 0))) (ttup (tacons (tcon (.str "number")) (tacons (tcon (.str "truth")) (tacons (tcon (.str "fun")) (tacons (tcon (.str "rec")) (tacons (tcon (.str "empty")) tanil)))))))))

def sp__law_is_value (d : Nat) : TSp := fun ts G R => ∃ e : Ex, ts = [e.enc] ∧ e.dep ≤ d + 1 ∧ R (.bl e.val) G
theorem vin_tup {x : Str} {ys : List Str} {G : GH} {R : TK} (h : R (.bl (decide (x ∈ ys))) G) : vin false (.str x) (.tup (ys.map T.str)) G R := vin_strs h
theorem pure__law_is_value (d : Nat) (s1 : TSp) (h1 : ∀ k, d = k + 1 → s1 = sp__law_is_value k) (ts : List T) (G : GH) (R : TK) (h : sp__law_is_value d ts G R) : t__law_is_value s1 { nx := fun _ G' => WkR R .non G', rt := WkR R } (startT ["row"] ts) G := by
  obtain ⟨e, rfl, hd, h⟩ := h
  unfold t__law_is_value
  walk_at "tl"
  refine ⟨fun m st G' => ∃ c : Ex, st = [some c.enc] ∧ G' = G ∧ m = c.size ∧ c.dep ≤ d + 1 ∧ c.val = e.val, ⟨_, e, rfl, rfl, rfl, hd, rfl⟩, ?_⟩
  rintro m st G' ⟨c, rfl, rfl, rfl, hcd, hcv⟩
  cases c with
  | ext l a r =>
    simp only [Ex.dep] at hcd
    have pa := a.dep_pos
    obtain ⟨k, rfl⟩ : ∃ k, d = k + 1 := ⟨d - 1, by omega⟩
    obtain rfl := h1 k rfl
    simp only [Ex.enc]
    walk_at "tl"
    refine ⟨a, rfl, by omega, a.val, rfl, ?_⟩
    cases hav : a.val with
    | false =>
      walk_at "tl"
      refine vin_tup (ys := ["number", "truth", "fun", "rec", "empty"]) ?_
      have : e.val = false := by rw [← hcv]; simp [Ex.val, hav]
      rw [this] at h
      simp +decide only []
      exact .of h
    | true =>
      have next : r.isRec = true → r.val = e.val := fun hr => by rw [← hcv]; simp [Ex.val, hav, hr]
      walk_at "tl"
      cases r with
      | emp =>
        have := next rfl
        simp only [Ex.enc]
        walk_at "tl"
        exact ⟨1, by have := a.size_pos; simp only [Ex.size]; omega, .mk ⟨.emp, rfl, rfl, rfl, by simp [Ex.dep], this⟩ (.same .nil) .refl⟩
      | ext l2 a2 r2 =>
        have := next rfl
        simp only [Ex.enc]
        walk_at "tl"
        exact ⟨(Ex.ext l2 a2 r2).size, by simp only [Ex.size]; omega, .mk ⟨.ext l2 a2 r2, rfl, rfl, rfl, by omega, this⟩ (.same .nil) .refl⟩
      | _ =>
        have : e.val = false := by rw [← hcv]; simp [Ex.val, Ex.isRec]
        rw [this] at h
        simp only [Ex.enc]
        walk_at "tl"
        exact .of h
  | _ =>
    simp only [Ex.enc]
    walk_at "tl"
    refine vin_tup (ys := ["number", "truth", "fun", "rec", "empty"]) ?_
    rw [← hcv] at h
    simp +decide only []
    exact .of h
def t__law_count : TTS :=
  (tseq (tasg (tcon (.int 0)) (gname 1))
  (tseq (tasg (tlst (tacons (tvar 0) tanil)) (gname 2))
  (tseq (tfor (irange1 (tacons (tcon (.int 20000)) tanil)) (gname 3)
  (tifs (tbool (top vneN (tvar 2) (tlst tanil)))
  (tseq (tasg (top vadd (tvar 1) (tcon (.int 1))) (gname 1))
  (tasg (top vadd (tvar 2) (tcall sp__law_children (tacons (tmeth mpop (tvar 2) tanil) tanil))) (gname 2)))
  tnext))
  (tret (tvar 1)))))

def szE (W : List Ex) : Nat := (W.map Ex.size).sum
theorem szE_app (a b : List Ex) : szE (a ++ b) = szE a + szE b := by simp [szE]
theorem szE_len (W : List Ex) : W.length ≤ szE W := by
  induction W with
  | nil => simp
  | cons p r ih => have := p.size_pos; rw [← List.singleton_append, szE_app]; simp [szE] at ih ⊢; omega
theorem szE_kids (e : Ex) : szE e.kids + 1 = e.size := by
  cases e <;> simp [szE, Ex.kids, Ex.size] <;> omega
def sp__law_count : TSp := fun ts G R => ∃ e : Ex, ts = [e.enc] ∧ e.size ≤ 2 ^ 20 ∧ ∀ n : Nat, (300 < n ↔ 300 < e.size) → R (.int (n : Int)) G
theorem pure__law_count (ts : List T) (G : GH) (R : TK) (h : sp__law_count ts G R) : t__law_count { nx := fun _ G' => WkR R .non G', rt := WkR R } (startT ["row", "many", "todo", "turn"] ts) G := by
  obtain ⟨e, rfl, hz, h⟩ := h
  have zz : (2 ^ 24 : Nat) = sizeLine := rfl
  unfold t__law_count
  walk_at "tl"
  intro w0 hw0
  refine rng1_lit 20000 rfl (by decide) ?_
  refine for_inv (α := Nat) (fun i => T.int (i : Int)) (fun xs st G' => ∃ (n : Nat) (w : Addr) (W : List Ex), G w = none ∧ st = [some e.enc, some (.int (n : Int)), some (.ref w), none] ∧ G' = gupd G w (.lst (W.map Ex.enc)) ∧ n + szE W = e.size ∧ (W ≠ [] → n + xs.length = 20000)) ?_ ?_ (List.range 20000) _ _ ⟨0, w0, [e], hw0, rfl, rfl, by simp [szE], by simp⟩
  · rintro i xs st G' N hN ⟨n, w, W, hw, rfl, rfl, hs, hn⟩
    refine ⟨trivial, ?_⟩
    walk_at "tl"
    intro l hl
    obtain ⟨hlw, hl1⟩ := ne_none hl
    refine vnil_mk (by rw [gupd_ne (Ne.symm hlw), gupd_same]) gupd_same ⟨_, rfl, ?_⟩
    have sl : ∀ A, Sub (gupd G w A) (gupd (gupd G w A) l (.lst [])) := fun A => Sub.gupd (by rw [gupd_ne hlw]; exact hl1)
    rcases List.eq_nil_or_concat W with rfl | ⟨W', u, rfl⟩
    · walk_at "tl"
      exact hN _ _ (.mk ⟨n, w, [], hw, rfl, rfl, hs, fun h => absurd rfl h⟩ (.same (.same (.same (.none .nil)))) (sl _))
    · rw [List.concat_eq_append] at *
      have e1 : ((List.map Ex.enc (W' ++ [u])).isEmpty != true) = true := by simp
      rw [e1]
      rw [szE_app] at hs
      have hu : szE [u] = u.size := by simp [szE]
      have hk := szE_kids u
      have hwl := szE_len W'
      have hkl := szE_len u.kids
      have hn := hn (by simp)
      simp only [List.length_cons] at hn
      walk_at "tl"
      refine ⟨⟨_, by rw [gupd_ne (Ne.symm hlw), gupd_same]⟩, pop_mk (t := u.enc) (ys := W'.map Ex.enc) (by rw [gupd_ne (Ne.symm hlw), gupd_same, List.map_append]; rfl) ?_⟩
      rw [g2_setp hlw]
      refine ⟨u, rfl, fun c hc0 => ?_⟩
      obtain ⟨hcl, hc1⟩ := ne_none hc0
      obtain ⟨hcw, hc2⟩ := ne_none hc1
      refine ⟨W'.map Ex.enc, u.kids.map Ex.enc, by rw [gupd_ne (Ne.symm hcw), gupd_ne (Ne.symm hlw), gupd_same], gupd_same, by rw [List.length_map, List.length_map]; omega, fun m hm0 => ?_⟩
      obtain ⟨hmc, hm1⟩ := ne_none hm0
      obtain ⟨hml, hm2⟩ := ne_none hm1
      obtain ⟨hmw, hm3⟩ := ne_none hm2
      rw [← List.map_append]
      have e2 : ((n : Int) + 1) = ((n + 1 : Nat) : Int) := by omega
      rw [e2]
      refine hN _ _ (.mk ⟨n + 1, m, W' ++ u.kids, hm3, rfl, rfl, by rw [szE_app]; omega, fun _ => by omega⟩ (.same (.same (.same (.none .nil)))) ?_)
      exact Sub.at fun a u ha e => by
        have hcw' : a ≠ w := fun z => by subst z; rw [hw] at e; cases e
        have hcl' : a ≠ l := fun z => by subst z; rw [hl1] at e; cases e
        have hcc' : a ≠ c := fun z => by subst z; rw [hc2] at e; cases e
        rw [gupd_ne hcc', gupd_ne hcl', gupd_ne hcw']; exact e
  · rintro st G' ⟨n, w, W, hw, rfl, rfl, hs, hn⟩
    refine ⟨trivial, ?_⟩
    walk_at "tl"
    refine ⟨_, Sub.gupd hw, h n ?_⟩
    by_cases hW : W = []
    · subst hW
      have : n = e.size := by simpa [szE] using hs
      rw [this]
    · have := hn hW
      simp only [List.length_nil] at this
      omega
def t__law_needs : TTS :=
  (tseq (tasg (top vix (tvar 0) (tcon (.int 0))) (gname 1))
  (tseq (tifs (tbool (top (vin false) (tvar 1) (ttup (tacons (tcon (.str "op")) (tacons (tcon (.str "extend")) tanil)))))
  (tret (tlst (tacons (tcon (.int 2)) (tacons (tcon (.int 3)) tanil))))
  tnext)
  (tseq (tifs (tbool (top (vin false) (tvar 1) (ttup (tacons (tcon (.str "let")) (tacons (tcon (.str "select")) (tacons (tcon (.str "drop")) tanil))))))
  (tret (tlst (tacons (tcon (.int 2)) tanil)))
  tnext)
  (tret (top vix (tlst (tacons (tlst tanil) (tacons (tlst (tacons (tcon (.int 1)) tanil)) (tacons (tlst (tacons (tcon (.int 1)) (tacons (tcon (.int 2)) tanil))) tanil)))) (top vadd (tcb vint (tacons (top veq (tvar 1) (tcon (.str "if"))) tanil)) (top (vI CMul (· * ·)) (tcon (.int 2)) (tcb vint (tacons (top veq (tvar 1) (tcon (.str "call"))) tanil)))))))))

def sp__law_needs : TSp := fun ts G R => ∃ e : Ex, ts = [e.enc] ∧ e.val = false ∧ ∀ q G', Sub G G' → G' q = some (.lst ((List.range e.need).map fun j => T.int ((e.hd.length + j : Nat) : Int))) → R (.ref q) G'
theorem pure__law_needs (ts : List T) (G : GH) (R : TK) (h : sp__law_needs ts G R) : t__law_needs { nx := fun _ G' => WkR R .non G', rt := WkR R } (startT ["row", "word"] ts) G := by
  obtain ⟨e, rfl, hv, h⟩ := h
  unfold t__law_needs
  have inop : ∀ (x : Str) (G' : GH) (R' : TK), R' (.bl (decide (x ∈ (["op", "extend"] : List Str)))) G' → vin false (.str x) (.tup [.str "op", .str "extend"]) G' R' := fun x G' R' q => vin_tup (ys := ["op", "extend"]) q
  have inlet : ∀ (x : Str) (G' : GH) (R' : TK), R' (.bl (decide (x ∈ (["let", "select", "drop"] : List Str)))) G' → vin false (.str x) (.tup [.str "let", .str "select", .str "drop"]) G' R' := fun x G' R' q => vin_tup (ys := ["let", "select", "drop"]) q
  cases e with
  | op o a b =>
    simp only [Ex.enc]
    walk_at "tl"
    refine inop _ _ _ ?_
    simp +decide only []
    walk_at "tl"
    intro q hq
    exact .of (h q _ (Sub.gupd hq) gupd_same)
  | ext o a b =>
    simp only [Ex.enc]
    walk_at "tl"
    refine inop _ _ _ ?_
    simp +decide only []
    walk_at "tl"
    intro q hq
    exact .of (h q _ (Sub.gupd hq) gupd_same)
  | lt o a b =>
    simp only [Ex.enc]
    walk_at "tl"
    refine inop _ _ _ ?_
    simp +decide only []
    walk_at "tl"
    refine inlet _ _ _ ?_
    simp +decide only []
    walk_at "tl"
    intro q hq
    exact .of (h q _ (Sub.gupd hq) gupd_same)
  | sel o a =>
    simp only [Ex.enc]
    walk_at "tl"
    refine inop _ _ _ ?_
    simp +decide only []
    walk_at "tl"
    refine inlet _ _ _ ?_
    simp +decide only []
    walk_at "tl"
    intro q hq
    exact .of (h q _ (Sub.gupd hq) gupd_same)
  | drp o a =>
    simp only [Ex.enc]
    walk_at "tl"
    refine inop _ _ _ ?_
    simp +decide only []
    walk_at "tl"
    refine inlet _ _ _ ?_
    simp +decide only []
    walk_at "tl"
    intro q hq
    exact .of (h q _ (Sub.gupd hq) gupd_same)
  | nam x =>
    simp only [Ex.enc]
    walk_at "tl"
    refine inop _ _ _ ?_
    simp +decide only []
    walk_at "tl"
    refine inlet _ _ _ ?_
    simp +decide only []
    walk_at "tl"
    intro p0 hp0 p1 hp1 p2 hp2 p3 hp3
    refine ⟨.inl ⟨by decide, by decide⟩, ?_⟩
    refine vix_lst gupd_same (atI0) ?_
    obtain ⟨h31, h32⟩ := ne_none hp3
    obtain ⟨h33, h34⟩ := ne_none h32
    obtain ⟨h35, h36⟩ := ne_none h34
    obtain ⟨h21, h22⟩ := ne_none hp2
    obtain ⟨h23, h24⟩ := ne_none h22
    obtain ⟨h11, h12⟩ := ne_none hp1
    refine .of (h p0 _ ?_ (by walk_at "glk"))
    exact (((Sub.gupd hp0).trans (Sub.gupd hp1)).trans (Sub.gupd hp2)).trans (Sub.gupd hp3)
  | app f a =>
    simp only [Ex.enc]
    walk_at "tl"
    refine inop _ _ _ ?_
    simp +decide only []
    walk_at "tl"
    refine inlet _ _ _ ?_
    simp +decide only []
    walk_at "tl"
    intro p0 hp0 p1 hp1 p2 hp2 p3 hp3
    refine ⟨.inl ⟨by decide, by decide⟩, ?_⟩
    refine vix_lst gupd_same (atI2) ?_
    obtain ⟨h31, h32⟩ := ne_none hp3
    obtain ⟨h33, h34⟩ := ne_none h32
    obtain ⟨h35, h36⟩ := ne_none h34
    obtain ⟨h21, h22⟩ := ne_none hp2
    obtain ⟨h23, h24⟩ := ne_none h22
    obtain ⟨h11, h12⟩ := ne_none hp1
    refine .of (h p2 _ ?_ (by walk_at "glk"))
    exact (((Sub.gupd hp0).trans (Sub.gupd hp1)).trans (Sub.gupd hp2)).trans (Sub.gupd hp3)
  | ite c a b =>
    simp only [Ex.enc]
    walk_at "tl"
    refine inop _ _ _ ?_
    simp +decide only []
    walk_at "tl"
    refine inlet _ _ _ ?_
    simp +decide only []
    walk_at "tl"
    intro p0 hp0 p1 hp1 p2 hp2 p3 hp3
    refine ⟨.inl ⟨by decide, by decide⟩, ?_⟩
    refine vix_lst gupd_same (atI1) ?_
    obtain ⟨h31, h32⟩ := ne_none hp3
    obtain ⟨h33, h34⟩ := ne_none h32
    obtain ⟨h35, h36⟩ := ne_none h34
    obtain ⟨h21, h22⟩ := ne_none hp2
    obtain ⟨h23, h24⟩ := ne_none h22
    obtain ⟨h11, h12⟩ := ne_none hp1
    refine .of (h p1 _ ?_ (by walk_at "glk"))
    exact (((Sub.gupd hp0).trans (Sub.gupd hp1)).trans (Sub.gupd hp2)).trans (Sub.gupd hp3)
  | _ => cases hv
end TL

namespace TL
open PySem PySem.Spec PyProof.Rows L2
local macro_rules | `(tactic| walk_at "tl") => `(tactic| try simp +decide only [tseq, vint_bl, vneg_int, irevr1_eq, tpl, exists_ptup, vptuple_ref, tmethT, tandV, torV, tnotV, tasg, tifs, tbool, tret, tretN, tdrop, tnext, tcont, tbreak, gname, gtup_tup, gcons_cons, gnil_nil, GO.lst.injEq, GO.dK.injEq, top, tvar, tcon, tun, ttup, tlst, tacons, tanil, tcb, tcall, tife, tand, tor, tnot, tandV, torV, tnotV, tisN, tnotN, T.isNon, ttruth, truth_bl, truth_non, truth_int, truth_tup, truth_fl, tsl, tpart, tnopart, tsortk, tlc, tfor, iany, irev, irange1_eq, irange2_eq, items_tup, items_fl, items_ref, twipe, List.set, izip_eq, tput_eq, vlist_tup, tmeth, isL, mappend_ref, mextend_tup, trev, exists_eq, exists_eq', 
  vix_tup, vix_fl, veq_str, vne_str, veq_int, vne_int, vcmp_int, vadd_int, vaddI_int, vadd_tup, vadd_str, vsub_int, vI_int, vlen_tup, vlen_fl, vlen_str, vtuple_tup, vtuple_ref, vint_int, vsl_tup, cut_from1, atI0, atI1, atI2, atI3, taug,
  startT, List.map_cons, List.map_nil, List.length_cons, List.length_nil, List.cons_append, List.nil_append, List.getElem?_cons_zero, List.getElem?_cons_succ, List.set_cons_zero, List.set_cons_succ, List.replicate, Option.some.injEq, exists_eq_left', exists_eq_left, T.bl.injEq, T.int.injEq, T.str.injEq, T.tup.injEq, T.ref.injEq, if_true, if_false, ite_true, ite_false, true_and, and_true, reduceCtorEq, gupd_same, gupd_gupd, Option.map_some, Option.map_none, Option.isSome_some, Option.isSome_none, Bool.not_true, Bool.not_false, Bool.true_eq_false, Bool.false_eq_true, List.cons.injEq, decide_true, decide_false])
def t__law_op_step : TTS :=
  (tseq (tifs (tor (tbool (top vne (top vix (top vix (tvar 0) (tcon (.int 2))) (tcon (.int 0))) (tcon (.str "number")))) (tbool (top vne (top vix (top vix (tvar 0) (tcon (.int 3))) (tcon (.int 0))) (tcon (.str "number")))))
  (tret (ttup (tacons (tcon (.str "stuck")) (tacons (tcon (.str "not a number")) tanil))))
  tnext)
  (tseq (tasg (top vix (top vix (tvar 0) (tcon (.int 2))) (tcon (.int 1))) (gname 1))
  (tseq (tasg (top vix (top vix (tvar 0) (tcon (.int 3))) (tcon (.int 1))) (gname 2))
  (tseq (tifs (tor (tbool (top veq (top vix (tvar 0) (tcon (.int 1))) (tcon (.str "<")))) (tbool (top veq (top vix (tvar 0) (tcon (.int 1))) (tcon (.str "==")))))
  (tret (ttup (tacons (tcon (.str "next")) (tacons (ttup (tacons (tcon (.str "truth")) (tacons (top vix (tlst (tacons (top veq (tvar 1) (tvar 2)) (tacons (top (vcmp fun i j => decide (i < j)) (tvar 1) (tvar 2)) tanil))) (tcb vint (tacons (top veq (top vix (tvar 0) (tcon (.int 1))) (tcon (.str "<"))) tanil))) tanil))) tanil))))
  tnext)
  (tseq (tasg (top vix (tlst (tacons (top vsub (tvar 1) (tvar 2)) (tacons (top vadd (tvar 1) (tvar 2)) tanil))) (tcb vint (tacons (top veq (top vix (tvar 0) (tcon (.int 1))) (tcon (.str "+"))) tanil))) (gname 3))
  (tseq (tifs (tor (tbool (top (vcmp fun i j => decide (i < j)) (tvar 3) (tcon (.int 0)))) (tbool (top (vcmp fun i j => decide (j < i)) (tvar 3) (tcon (.int 999999)))))
  (tret (ttup (tacons (tcon (.str "overflow")) tanil)))
  tnext)
  (tret (ttup (tacons (tcon (.str "next")) (tacons (ttup (tacons (tcon (.str "number")) (tacons (tvar 3) tanil))) tanil))))))))))

def sp__law_op_step : TSp := fun ts G R => ∃ (o : Str) (a b : Ex), ts = [(Ex.op o a b).enc] ∧ o ∈ OPS ∧ a.ok ∧ b.ok ∧ R (counted o a b).enc G
theorem pure__law_op_step (ts : List T) (G : GH) (R : TK) (h : sp__law_op_step ts G R) : t__law_op_step { nx := fun _ G' => WkR R .non G', rt := WkR R } (startT ["row", "first", "second", "number"] ts) G := by
  obtain ⟨o, a, b, rfl, ho, oa, ob, h⟩ := h
  have not : (∀ i j, a = .num i → b = .num j → False) → counted o a b = .stuck "not a number" := by
    intro n
    cases a <;> first | rfl | (cases b <;> first | rfl | exact (n _ _ rfl rfl).elim)
  unfold t__law_op_step
  cases a with
  | num i =>
    cases b with
    | num j =>
      obtain ⟨i0, i1⟩ := oa
      obtain ⟨j0, j1⟩ := ob
      simp only [OPS, List.mem_cons, List.not_mem_nil, or_false] at ho
      rcases ho with rfl | rfl | rfl | rfl
      · simp +decide only [counted] at h
        simp only [Ex.enc]
        walk_at "tl"
        intro q hq
        refine vix_lst gupd_same atI1 ?_
        walk_at "tl"
        by_cases c : 999999 < i + j
        · rw [if_neg (by simp; omega), if_pos (by simpa using c)]; rw [if_pos c] at h; exact wkR_new hq h
        · rw [if_neg (by simp; omega), if_neg (by simpa using c)]; rw [if_neg c] at h; exact wkR_new hq h
      · simp +decide only [counted] at h
        simp only [Ex.enc]
        walk_at "tl"
        intro q hq
        refine vix_lst gupd_same atI0 ?_
        walk_at "tl"
        by_cases c : i - j < 0
        · rw [if_pos (by simpa using c)]; rw [if_pos c] at h; exact wkR_new hq h
        · rw [if_neg (by simpa using c), if_neg (by simp; omega)]; rw [if_neg c] at h; exact wkR_new hq h
      · simp +decide only [counted] at h
        simp only [Ex.enc]
        walk_at "tl"
        intro q hq
        refine vix_lst gupd_same atI1 ?_
        exact wkR_new hq h
      · simp +decide only [counted] at h
        simp only [Ex.enc]
        walk_at "tl"
        intro q hq
        refine vix_lst gupd_same atI0 ?_
        exact wkR_new hq h
    | _ =>
      rw [not (fun _ _ _ e => by cases e)] at h
      simp only [Ex.enc]
      walk_at "tl"
      exact .of h
  | _ =>
    rw [not (fun _ _ e => by cases e)] at h
    simp only [Ex.enc]
    walk_at "tl"
    exact .of h
def t__law_record_step : TTS :=
  (tseq (tifs (tor (tbool (top veq (top vix (tvar 0) (tcon (.int 0))) (tcon (.str "extend")))) (tand (tbool (top vne (top vix (top vix (tvar 0) (tcon (.int 2))) (tcon (.int 0))) (tcon (.str "empty")))) (tbool (top vne (top vix (top vix (tvar 0) (tcon (.int 2))) (tcon (.int 0))) (tcon (.str "extend"))))))
  (tret (ttup (tacons (tcon (.str "stuck")) (tacons (tcon (.str "not a record")) tanil))))
  tnext)
  (tseq (tasg (tlst tanil) (gname 1))
  (tseq (tasg (top vix (tvar 0) (tcon (.int 2))) (gname 2))
  (tseq (twhile (tand (tbool (top veq (top vix (tvar 2) (tcon (.int 0))) (tcon (.str "extend")))) (tbool (top vne (top vix (tvar 2) (tcon (.int 1))) (top vix (tvar 0) (tcon (.int 1))))))
  (tseq (tdrop (tmeth mappend (tvar 1) (tacons (ttup (tacons (top vix (tvar 2) (tcon (.int 1))) (tacons (top vix (tvar 2) (tcon (.int 2))) tanil))) tanil)))
  (tasg (top vix (tvar 2) (tcon (.int 3))) (gname 2))))
  (tseq (tifs (tbool (top veq (top vix (tvar 2) (tcon (.int 0))) (tcon (.str "empty"))))
  (tret (ttup (tacons (tcon (.str "stuck")) (tacons (tcon (.str "no such field")) tanil))))
  tnext)
  (tseq (tifs (tbool (top veq (top vix (tvar 0) (tcon (.int 0))) (tcon (.str "select"))))
  (tret (ttup (tacons (tcon (.str "next")) (tacons (top vix (tvar 2) (tcon (.int 2))) tanil))))
  tnext)
  (tseq (tasg (top vix (tvar 2) (tcon (.int 3))) (gname 3))
  (tseq (tfor (iany (trev (tvar 1))) (gtup 2 (gcons (gname 4) (gcons (gname 5) gnil)))
  (tasg (ttup (tacons (tcon (.str "extend")) (tacons (tvar 4) (tacons (tvar 5) (tacons (tvar 3) tanil))))) (gname 3)))
  (tret (ttup (tacons (tcon (.str "next")) (tacons (tvar 3) tanil))))))))))))

def selE (sel : Bool) (l : Str) (r : Ex) : Ex := if sel then .sel l r else .drp l r
def selT (sel : Bool) (l : Str) (r : T) : T := .tup [.str (selWord sel), .str l, r]
theorem selE_enc (sel : Bool) (l : Str) (r : Ex) : (selE sel l r).enc = selT sel l r.enc := by cases sel <;> rfl
def backP (A : List (Str × Ex)) (w : Ex) : Ex := A.foldr (fun q w => .ext q.1 q.2 w) w
def encP (q : Str × Ex) : T := .tup [.str q.1, q.2.enc]
def sp__law_record_step : TSp := fun ts G R => (∃ k a r, ts = [(Ex.ext k a r).enc] ∧ R (Rs.stuck "not a record").enc G) ∨ ∃ (sel : Bool) (l : Str) (r : Ex), ts = [(selE sel l r).enc] ∧ r.val = true ∧ r.size ≤ sizeLine ∧ R (fieldStep sel l r).enc G
theorem pure__law_record_step (ts : List T) (G : GH) (R : TK) (h : sp__law_record_step ts G R) : t__law_record_step { nx := fun _ G' => WkR R .non G', rt := WkR R } (startT ["row", "ahead", "rest", "left", "label", "value"] ts) G := by
  unfold t__law_record_step
  rcases h with ⟨k, a, r, rfl, h⟩ | ⟨sel, l, r, rfl, hv, hz, h⟩
  · simp only [Ex.enc]
    walk_at "tl"
    exact .of h
  · have ne1 : decide (selWord sel = ("extend" : Str)) = false := by cases sel <;> decide
    rw [selE_enc]
    simp only [selT]
    walk_at "tl"
    simp only [ne1]
    walk_at "tl"
    refine vix_kind (e := r) ?_
    cases hr : r.isRec with
    | false =>
      have h1 : decide (r.kind = "empty") = false := by cases r <;> first | rfl | cases hr
      have h2 : decide (r.kind = "extend") = false := by cases r <;> first | rfl | cases hr
      rw [fieldStep, if_pos hr] at h
      walk_at "tl"
      simp only [h1]
      walk_at "tl"
      refine vix_kind (e := r) ?_
      walk_at "tl"
      simp only [h2]
      walk_at "tl"
      exact .of h
    | true =>
      have h : R (match (if sel then fieldOf l r else less l r) with | some e => Rs.next e | none => .stuck "no such field").enc G := by
        rw [fieldStep, if_neg (by simp [hr])] at h; exact h
      have hk : r.kind = "empty" ∨ r.kind = "extend" := by cases r <;> first | exact .inl rfl | exact .inr rfl | cases hr
      rcases hk with hk | hk
      all_goals
        rw [hk]
        walk_at "tl"
        try (refine vix_kind (e := r) ?_; rw [hk]; walk_at "tl")
        intro q hq
        refine ⟨fun m st G' => ∃ (A : List (Str × Ex)) (c : Ex), st = [some (.tup [.str (selWord sel), .str l, r.enc]), some (.ref q), some c.enc, none, none, none] ∧ G' = gupd G q (.lst (A.map encP)) ∧ m = c.size ∧ A.length + c.size ≤ r.size ∧ c.val = true ∧ c.isRec = true ∧ fieldOf l r = fieldOf l c ∧ less l r = (less l c).map (backP A), ⟨_, [], r, rfl, rfl, rfl, by simp, hv, hr, rfl, by cases less l r <;> rfl⟩, ?_⟩
        rintro m st G' ⟨A, c, rfl, rfl, rfl, hl, cv, cr, hf, hs⟩
        cases c with
        | emp =>
          simp only [Ex.enc]
          walk_at "tl"
          rw [hf, hs] at h
          refine ⟨_, Sub.gupd hq, ?_⟩
          cases sel <;> exact h
        | ext k a t =>
          simp only [Ex.val, Bool.and_eq_true] at cv
          simp only [Ex.size] at hl
          by_cases hk : k = l
          · have e2 : (!decide (k = l)) = false := by simp [hk]
            have f1 : fieldOf l r = some a := by rw [hf, fieldOf, if_pos hk]
            have f2 : less l r = some (backP A t) := by rw [hs, less, if_pos hk]; rfl
            rw [f1, f2] at h
            simp only [Ex.enc]
            walk_at "tl"
            rw [e2]
            walk_at "tl"
            cases sel with
            | true =>
              walk_at "tl"
              exact ⟨_, Sub.gupd hq, h⟩
            | false =>
              walk_at "tl"
              intro p2 hp2
              obtain ⟨h2q, h22⟩ := ne_none hp2
              rw [← List.map_reverse]
              refine for_inv (α := Str × Ex) encP (fun xs st G' => ∃ w : Ex, backP xs.reverse w = backP A t ∧ st = [some (.tup [.str (selWord false), .str l, r.enc]), some (.ref q), some (.tup [.str "extend", .str k, a.enc, t.enc]), some w.enc, none, none] ∧ G' = gupd (gupd G q (.lst (A.map encP))) p2 (.lst (A.reverse.map encP))) ?_ ?_ A.reverse _ _ ⟨t, by rw [List.reverse_reverse], rfl, rfl⟩
              · rintro ⟨k2, a2⟩ xs st G' N hN ⟨w, hw, rfl, rfl⟩
                refine ⟨gupd_same, ?_⟩
                simp only [encP]
                walk_at "tl"
                refine hN _ _ (.mk ⟨.ext k2 a2 w, ?_, rfl, rfl⟩ (.same (.same (.same (.same (.none (.none .nil)))))) .refl)
                rw [← hw]
                simp [backP]
              · rintro st G' ⟨w, hw, rfl, rfl⟩
                refine ⟨gupd_same, ?_⟩
                walk_at "tl"
                have : w = backP A t := hw
                rw [← this] at h
                exact ⟨_, (Sub.gupd hq).trans (Sub.gupd hp2), h⟩
          · have e2 : (!decide (k = l)) = true := by simp [hk]
            simp only [Ex.enc]
            walk_at "tl"
            rw [e2]
            walk_at "tl"
            refine ⟨?_, ?_⟩
            · rw [List.length_map]; have := t.size_pos; have := a.size_pos; omega
            · refine ⟨t.size, by simp only [Ex.size]; omega, .mk ⟨A ++ [(k, a)], t, rfl, by rw [List.map_append]; rfl, rfl, by simp; omega, cv.2.1, cv.2.2, by rw [hf, fieldOf, if_neg hk], ?_⟩ (.same (.same (.same (.none (.none (.none .nil)))))) .refl⟩
              rw [hs, less, if_neg hk, Option.map_map]
              congr 1
              funext w
              simp [backP]
        | _ => cases cr
end TL

namespace TL
open PySem PySem.Spec PyProof.Rows L2
local macro_rules | `(tactic| walk_at "tl") => `(tactic| try simp +decide only [tseq, vint_bl, vneg_int, irevr1_eq, tpl, exists_ptup, vptuple_ref, tmethT, tandV, torV, tnotV, tasg, tifs, tbool, tret, tretN, tdrop, tnext, tcont, tbreak, gname, gtup_tup, gcons_cons, gnil_nil, GO.lst.injEq, GO.dK.injEq, top, tvar, tcon, tun, ttup, tlst, tacons, tanil, tcb, tcall, tife, tand, tor, tnot, tandV, torV, tnotV, tisN, tnotN, T.isNon, ttruth, truth_bl, truth_non, truth_int, truth_tup, truth_fl, tsl, tpart, tnopart, tsortk, tlc, tfor, iany, irev, irange1_eq, irange2_eq, items_tup, items_fl, items_ref, twipe, List.set, izip_eq, tput_eq, vlist_tup, tmeth, isL, mappend_ref, mextend_tup, trev, exists_eq, exists_eq', 
  vix_tup, vix_fl, veq_str, vne_str, veq_int, vne_int, vcmp_int, vadd_int, vaddI_int, vadd_tup, vadd_str, vsub_int, vI_int, vlen_tup, vlen_fl, vlen_str, vtuple_tup, vtuple_ref, vint_int, vsl_tup, cut_from1, atI0, atI1, atI2, atI3, taug,
  startT, List.map_cons, List.map_nil, List.length_cons, List.length_nil, List.cons_append, List.nil_append, List.getElem?_cons_zero, List.getElem?_cons_succ, List.set_cons_zero, List.set_cons_succ, List.replicate, Option.some.injEq, exists_eq_left', exists_eq_left, T.bl.injEq, T.int.injEq, T.str.injEq, T.tup.injEq, T.ref.injEq, if_true, if_false, ite_true, ite_false, true_and, and_true, reduceCtorEq, gupd_same, gupd_gupd, Option.map_some, Option.map_none, Option.isSome_some, Option.isSome_none, Bool.not_true, Bool.not_false, Bool.true_eq_false, Bool.false_eq_true, List.cons.injEq, decide_true, decide_false])
theorem len_dep {x : Str} {v : Ex} : ∀ (e : Ex) (c : Bool), (Ex.putc x v e c).dep ≤ e.dep + v.dep
  | .nam y, c => by have := v.dep_pos; simp only [Ex.putc]; split <;> simp only [Ex.dep] <;> omega
  | .fn y b, c => by have := len_dep (x := x) (v := v) b (c || decide (x ∈ [y])); simp only [Ex.putc, Ex.dep]; omega
  | .rc f y b, c => by have := len_dep (x := x) (v := v) b (c || decide (x ∈ [f, y])); simp only [Ex.putc, Ex.dep]; omega
  | .app f a, c => by have := len_dep (x := x) (v := v) f c; have := len_dep (x := x) (v := v) a c; simp only [Ex.putc, Ex.dep]; omega
  | .lt y a b, c => by have := len_dep (x := x) (v := v) a c; have := len_dep (x := x) (v := v) b (c || decide (x ∈ [y])); simp only [Ex.putc, Ex.dep]; omega
  | .ite i a b, c => by have := len_dep (x := x) (v := v) i c; have := len_dep (x := x) (v := v) a c; have := len_dep (x := x) (v := v) b c; simp only [Ex.putc, Ex.dep]; omega
  | .op o a b, c => by have := len_dep (x := x) (v := v) a c; have := len_dep (x := x) (v := v) b c; simp only [Ex.putc, Ex.dep]; omega
  | .ext l a b, c => by have := len_dep (x := x) (v := v) a c; have := len_dep (x := x) (v := v) b c; simp only [Ex.putc, Ex.dep]; omega
  | .sel l a, c => by have := len_dep (x := x) (v := v) a c; simp only [Ex.putc, Ex.dep]; omega
  | .drp l a, c => by have := len_dep (x := x) (v := v) a c; simp only [Ex.putc, Ex.dep]; omega
  | .num _, c => by simp [Ex.putc, Ex.dep]
  | .tru _, c => by simp [Ex.putc, Ex.dep]
  | .emp, c => by simp [Ex.putc, Ex.dep]
def t__law_own_step_r1 (s__law_substituted : TSp) : TTS :=
  (tret (ttup (tacons (tcon (.str "next")) (tacons (tcall s__law_substituted (tacons (tvar 5) (tacons (top vix (top vix (tvar 0) (tcon (.int 1))) (tcon (.int 2))) (tacons (top vix (tvar 0) (tcon (.int 2))) tanil)))) tanil))))
def t__law_own_step (s__law_substituted : TSp) : TTS :=
  (tseq (tasg (top vix (tvar 0) (tcon (.int 0))) (gname 2))
  (tseq (tifs (tbool (top veq (tvar 2) (tcon (.str "name"))))
  (tseq (tasg (tlc (iany (tvar 1)) (gname 4) (tbool (top veq (top vix (tvar 4) (tcon (.int 0))) (top vix (tvar 0) (tcon (.int 1))))) (top vix (tvar 4) (tcon (.int 1))) [4]) (gname 3))
  (tseq (tifs (tbool (top veqN (tvar 3) (tlst tanil)))
  (tret (ttup (tacons (tcon (.str "stuck")) (tacons (tcon (.str "unbound name")) tanil))))
  tnext)
  (tret (ttup (tacons (tcon (.str "next")) (tacons (top vix (tvar 3) (tcon (.int 0))) tanil))))))
  tnext)
  (tseq (tifs (tand (tbool (top veq (tvar 2) (tcon (.str "call")))) (tbool (top veq (top vix (top vix (tvar 0) (tcon (.int 1))) (tcon (.int 0))) (tcon (.str "fun")))))
  (tret (ttup (tacons (tcon (.str "next")) (tacons (tcall s__law_substituted (tacons (top vix (top vix (tvar 0) (tcon (.int 1))) (tcon (.int 2))) (tacons (top vix (top vix (tvar 0) (tcon (.int 1))) (tcon (.int 1))) (tacons (top vix (tvar 0) (tcon (.int 2))) tanil)))) tanil))))
  tnext)
  (tseq (tifs (tand (tbool (top veq (tvar 2) (tcon (.str "call")))) (tbool (top veq (top vix (top vix (tvar 0) (tcon (.int 1))) (tcon (.int 0))) (tcon (.str "rec")))))
  (tseq (tasg (top vix (top vix (tvar 0) (tcon (.int 1))) (tcon (.int 3))) (gname 5))
  (tseq (tifs (tbool (top vne (top vix (top vix (tvar 0) (tcon (.int 1))) (tcon (.int 1))) (top vix (top vix (tvar 0) (tcon (.int 1))) (tcon (.int 2)))))
  (tasg (tcall s__law_substituted (tacons (tvar 5) (tacons (top vix (top vix (tvar 0) (tcon (.int 1))) (tcon (.int 1))) (tacons (top vix (tvar 0) (tcon (.int 1))) tanil)))) (gname 5))
  tnext)
  (t__law_own_step_r1 s__law_substituted)))
  tnext)
  (tseq (tifs (tbool (top veq (tvar 2) (tcon (.str "call"))))
  (tret (ttup (tacons (tcon (.str "stuck")) (tacons (tcon (.str "not a function")) tanil))))
  tnext)
  (tseq (tifs (tbool (top veq (tvar 2) (tcon (.str "let"))))
  (tret (ttup (tacons (tcon (.str "next")) (tacons (tcall s__law_substituted (tacons (top vix (tvar 0) (tcon (.int 3))) (tacons (top vix (tvar 0) (tcon (.int 1))) (tacons (top vix (tvar 0) (tcon (.int 2))) tanil)))) tanil))))
  tnext)
  (tseq (tifs (tand (tbool (top veq (tvar 2) (tcon (.str "if")))) (tbool (top veq (top vix (top vix (tvar 0) (tcon (.int 1))) (tcon (.int 0))) (tcon (.str "truth")))))
  (tret (ttup (tacons (tcon (.str "next")) (tacons (top vix (tlst (tacons (top vix (tvar 0) (tcon (.int 3))) (tacons (top vix (tvar 0) (tcon (.int 2))) tanil))) (tcb vint (tacons (top vix (top vix (tvar 0) (tcon (.int 1))) (tcon (.int 1))) tanil))) tanil))))
  tnext)
  (tseq (tifs (tbool (top veq (tvar 2) (tcon (.str "if"))))
  (tret (ttup (tacons (tcon (.str "stuck")) (tacons (tcon (.str "not a truth")) tanil))))
  tnext)
  (tseq (tifs (tbool (top veq (tvar 2) (tcon (.str "op"))))
  (tret (tcall sp__law_op_step (tacons (tvar 0) tanil)))
  tnext)
  (tret (tcall sp__law_record_step (tacons (tvar 0) tanil))))))))))))

def hits (bk : Bk) (x : Str) : List Ex := (bk.filter fun p => decide (p.1 = x)).map (·.2)
theorem look_hits (x : Str) : ∀ bk : Bk, lookB bk x = match hits bk x with | [] => .stuck "unbound name" | e :: _ => .next e
  | [] => rfl
  | p :: r => by
    by_cases h : p.1 = x
    · simp [lookB, hits, h]
    · have := look_hits x r
      rw [lookB, if_neg h, this]
      simp [hits, h]
def sp__law_own_step (d : Nat) : TSp := fun ts G R => ∃ (e : Ex) (bk : Bk), ts = [e.enc, encBk bk] ∧ e.ok ∧ e.val = false ∧ (∀ q ∈ e.kids.take e.need, q.val = true) ∧ 2 * e.size ≤ d ∧ bk.length ≤ 10 ∧ e.size ≤ 1000 ∧ R (own bk e).enc G
theorem pure__law_own_step (d : Nat) (ts : List T) (G : GH) (R : TK) (h : sp__law_own_step d ts G R) : t__law_own_step (sp__law_substituted d) { nx := fun _ G' => WkR R .non G', rt := WkR R } (startT ["row", "book", "word", "rows", "pair", "body"] ts) G := by
  obtain ⟨e, bk, rfl, hok, hv, hk, hd, hb, hz, h⟩ := h
  have zz : (2 ^ 24 : Nat) = sizeLine := rfl
  unfold t__law_own_step t__law_own_step_r1
  cases e with
  | nam x =>
    simp only [Ex.enc, encBk]
    walk_at "tl"
    intro D hD
    refine lc_inv (α := Str × Ex) (fun p => .tup [.str p.1, p.2.enc]) (fun ys acc G' => ∃ zs, bk = zs ++ ys ∧ acc = (hits zs x).map Ex.enc ∧ G' = gupd G D (.lst acc)) ?_ ?_ bk [] _ ⟨[], rfl, rfl, rfl⟩
    · rintro ⟨y, v⟩ ys acc G' N hN ⟨zs, hzs, rfl, rfl⟩
      have hlen := congrArg List.length hzs
      rw [List.length_append, List.length_cons] at hlen
      have hfl : (hits zs x).length ≤ zs.length := by unfold hits; rw [List.length_map]; exact List.length_filter_le _ _
      refine ⟨trivial, ?_⟩
      walk_at "tl"
      by_cases hy : y = x
      · rw [if_pos (by simpa using hy)]
        exact ⟨by rw [List.length_map]; omega, hN ((hits zs x).map Ex.enc ++ [v.enc]) _ (.of ⟨zs ++ [(y, v)], by simpa using hzs, by simp [hits, hy], rfl⟩)⟩
      · rw [if_neg (by simpa using hy)]
        exact hN _ _ (.of ⟨zs ++ [(y, v)], by simpa using hzs, by simp [hits, hy], rfl⟩)
    · rintro acc G' ⟨zs, hzs, rfl, rfl⟩
      rw [List.append_nil] at hzs
      subst hzs
      refine ⟨trivial, ?_⟩
      walk_at "tl"
      intro l hl
      obtain ⟨hlD, hl1⟩ := ne_none hl
      have sb := (Sub.gupd hD (o := .lst ((hits bk x).map Ex.enc))).trans (Sub.gupd hl (o := .lst []))
      refine vnil_mk (by rw [gupd_ne (Ne.symm hlD), gupd_same]) gupd_same ⟨_, rfl, ?_⟩
      have hr : own bk (.nam x) = lookB bk x := rfl
      rw [hr, look_hits] at h
      cases hh : hits bk x with
      | nil =>
        rw [hh] at h sb
        walk_at "tl"
        exact ⟨_, sb, h⟩
      | cons u us =>
        rw [hh] at h sb
        walk_at "tl"
        exact vix_lst (by rw [gupd_ne (Ne.symm hlD), gupd_same]) atI0 ⟨_, sb, h⟩
  | app f a =>
    simp only [Ex.size] at hd hz
    have h : R (called f a).enc G := h
    have fd := f.dep_le
    have ad := a.dep_le
    have ap := a.size_pos
    cases f with
    | fn x b =>
      simp only [Ex.enc]
      simp only [Ex.size] at hd hz
      have bd := b.dep_le
      walk_at "tl"
      refine ⟨b, x, a, rfl, by omega, ?_⟩
      walk_at "tl"
      exact .of h
    | rc f x b =>
      simp only [Ex.enc]
      simp only [Ex.size] at hd hz
      have bd := b.dep_le
      walk_at "tl"
      by_cases hf : f = x
      · have e2 : (!decide (f = x)) = false := by simp [hf]
        rw [called, if_pos hf] at h
        rw [e2]
        walk_at "tl"
        refine ⟨b, x, a, rfl, by omega, ?_⟩
        walk_at "tl"
        exact .of h
      · have e2 : (!decide (f = x)) = true := by simp [hf]
        rw [called, if_neg hf] at h
        rw [e2]
        walk_at "tl"
        refine ⟨b, f, .rc f x b, rfl, by omega, ?_⟩
        walk_at "tl"
        refine ⟨_, x, a, rfl, ?_, ?_⟩
        · have := len_dep (x := f) (v := .rc f x b) b false
          simp only [Ex.dep] at this
          omega
        · walk_at "tl"
          exact .of h
    | _ =>
      simp only [Ex.enc]
      walk_at "tl"
      exact .of h
  | lt x a b =>
    simp only [Ex.size] at hd hz
    have bd := b.dep_le
    simp only [Ex.enc]
    walk_at "tl"
    refine ⟨b, x, a, rfl, by omega, ?_⟩
    walk_at "tl"
    exact .of h
  | ite c a b =>
    have h : R (chosen c a b).enc G := h
    cases c with
    | tru v =>
      simp only [Ex.enc]
      walk_at "tl"
      intro q hq
      cases v with
      | true => exact vix_lst gupd_same atI1 (wkR_new hq h)
      | false => exact vix_lst gupd_same atI0 (wkR_new hq h)
    | _ =>
      simp only [Ex.enc]
      walk_at "tl"
      exact .of h
  | op o a b =>
    have h2 : sp__law_op_step [(Ex.op o a b).enc] G (WkR R) := ⟨o, a, b, rfl, hok.1, hok.2.1, hok.2.2, .of h⟩
    simp only [Ex.enc] at h2 ⊢
    walk_at "tl"
    exact h2
  | ext l a r =>
    have h2 : sp__law_record_step [(Ex.ext l a r).enc] G (WkR R) := .inl ⟨l, a, r, rfl, .of h⟩
    simp only [Ex.enc] at h2 ⊢
    walk_at "tl"
    exact h2
  | sel l r =>
    simp only [Ex.size] at hz
    have h2 : sp__law_record_step [(Ex.sel l r).enc] G (WkR R) := .inr ⟨true, l, r, rfl, hk r (by simp [Ex.kids, Ex.need]), by omega, .of h⟩
    simp only [Ex.enc] at h2 ⊢
    walk_at "tl"
    exact h2
  | drp l r =>
    simp only [Ex.size] at hz
    have h2 : sp__law_record_step [(Ex.drp l r).enc] G (WkR R) := .inr ⟨false, l, r, rfl, hk r (by simp [Ex.kids, Ex.need]), by omega, .of h⟩
    simp only [Ex.enc] at h2 ⊢
    walk_at "tl"
    exact h2
  | _ => cases hv
end TL

namespace TL
open PySem PySem.Spec PyProof.Rows L2
local macro_rules | `(tactic| walk_at "tl") => `(tactic| try simp +decide only [tseq, vint_bl, vneg_int, irevr1_eq, tpl, exists_ptup, vptuple_ref, tmethT, tandV, torV, tnotV, tasg, tifs, tbool, tret, tretN, tdrop, tnext, tcont, tbreak, gname, gtup_tup, gcons_cons, gnil_nil, GO.lst.injEq, GO.dK.injEq, top, tvar, tcon, tun, ttup, tlst, tacons, tanil, tcb, tcall, tife, tand, tor, tnot, tandV, torV, tnotV, tisN, tnotN, T.isNon, ttruth, truth_bl, truth_non, truth_int, truth_tup, truth_fl, tsl, tpart, tnopart, tsortk, tlc, tfor, iany, irev, irange1_eq, irange2_eq, items_tup, items_fl, items_ref, twipe, List.set, izip_eq, tput_eq, vlist_tup, tmeth, isL, mappend_ref, mextend_tup, trev, exists_eq, exists_eq', 
  vix_tup, vix_fl, veq_str, vne_str, veq_int, vne_int, vcmp_int, vadd_int, vaddI_int, vadd_tup, vadd_str, vsub_int, vI_int, vlen_tup, vlen_fl, vlen_str, vtuple_tup, vtuple_ref, vint_int, vsl_tup, cut_from1, atI0, atI1, atI2, atI3, taug,
  startT, List.map_cons, List.map_nil, List.length_cons, List.length_nil, List.cons_append, List.nil_append, List.getElem?_cons_zero, List.getElem?_cons_succ, List.set_cons_zero, List.set_cons_succ, List.replicate, Option.some.injEq, exists_eq_left', exists_eq_left, T.bl.injEq, T.int.injEq, T.str.injEq, T.tup.injEq, T.ref.injEq, if_true, if_false, ite_true, ite_false, true_and, and_true, reduceCtorEq, gupd_same, gupd_gupd, Option.map_some, Option.map_none, Option.isSome_some, Option.isSome_none, Bool.not_true, Bool.not_false, Bool.true_eq_false, Bool.false_eq_true, List.cons.injEq, decide_true, decide_false])
theorem Ex.need_le (e : Ex) : e.need ≤ e.kids.length := by cases e <;> simp [Ex.need, Ex.kids]
theorem atI_kid {e k : Ex} {j : Nat} (h : e.kids[j]? = some k) : atI (e.hd ++ e.kids.map Ex.enc) ((e.hd.length + j : Nat) : Int) = some k.enc := by
  refine atI_lt ?_
  rw [List.getElem?_append_right (by omega), Nat.add_sub_cancel_left, List.getElem?_map, h]; rfl
theorem vix_kid {e k : Ex} {j : Nat} {G : GH} {R : TK} (h : e.kids[j]? = some k) (q : R k.enc G) : vix e.enc (.int ((e.hd.length + j : Nat) : Int)) G R := vix1 e.enc_eq (atI_kid h) q
theorem cut_drop {xs : List T} {n : Nat} : cutT xs (some (n : Int)) none = xs.drop n := by
  unfold cutT
  rw [HT.sIx_none, HT.sIx_nat]
  rw [List.take_of_length_le (by rw [List.length_drop]; omega)]
  rcases Nat.le_total n xs.length with h | h
  · rw [Nat.min_eq_left h]
  · rw [Nat.min_eq_right h, List.drop_eq_nil_of_le (Nat.le_refl _), List.drop_eq_nil_of_le h]
theorem setKid (e c : Ex) (j : Nat) (h : j < e.kids.length) : (e.hd ++ e.kids.map Ex.enc).take (e.hd.length + j) ++ [c.enc] ++ (e.hd ++ e.kids.map Ex.enc).drop (e.hd.length + j + 1) = e.hd ++ (e.kids.set j c).map Ex.enc := by
  rw [List.take_append, List.drop_append, List.take_of_length_le (by omega), List.drop_eq_nil_of_le (by omega), List.nil_append, List.append_assoc, List.append_assoc]
  congr 1
  rw [Nat.add_sub_cancel_left, show e.hd.length + j + 1 - e.hd.length = j + 1 by omega, List.map_set, List.set_eq_take_append_cons_drop, if_pos (by rw [List.length_map]; exact h)]
  rfl
def t__law_step_in (s__law_own_step : TSp) (s__law_is_value : TSp) (s__law_step_in : TSp) : TTS :=
  (tseq (tfor (iany (tcall sp__law_needs (tacons (tvar 0) tanil))) (gname 2)
  (tifs (tnot (ttruth (tcall s__law_is_value (tacons (top vix (tvar 0) (tvar 2)) tanil))))
  (tseq (tasg (tcall s__law_step_in (tacons (top vix (tvar 0) (tvar 2)) (tacons (tvar 1) tanil))) (gname 3))
  (tseq (tifs (tbool (top vne (top vix (tvar 3) (tcon (.int 0))) (tcon (.str "next"))))
  (tret (tvar 3))
  tnext)
  (tret (ttup (tacons (tcon (.str "next")) (tacons (top vadd (top vadd (tsl (tvar 0) tnopart (tpart (tvar 2))) (ttup (tacons (top vix (tvar 3) (tcon (.int 1))) tanil))) (tsl (tvar 0) (tpart (top vadd (tvar 2) (tcon (.int 1)))) tnopart)) tanil))))))
  tnext))
  (tret (tcall s__law_own_step (tacons (tvar 0) (tacons (tvar 1) tanil)))))

def sp__law_step_in (d : Nat) : TSp := fun ts G R => ∃ (u t : Ex × Nat) (tr : List ((Ex × Nat) × Nat)) (bk : Bk), ts = [u.1.enc, encBk bk] ∧ Walk u tr t ∧ u.1.ok ∧ 2 * u.1.size ≤ d ∧ u.1.size ≤ 1000 ∧ bk.length ≤ 10 ∧ R ((own bk t.1).plug tr).enc G
theorem pure__law_step_in (d : Nat) (s1 : TSp) (h1 : ∀ k, d = k + 1 → s1 = sp__law_step_in k) (ts : List T) (G : GH) (R : TK) (h : sp__law_step_in d ts G R) : t__law_step_in (sp__law_own_step d) (sp__law_is_value d) s1 { nx := fun _ G' => WkR R .non G', rt := WkR R } (startT ["row", "book", "k", "told"] ts) G := by
  obtain ⟨u, t, tr, bk, rfl, w, hok, hd, hz, hb, h⟩ := h
  have zz : (2 ^ 24 : Nat) = sizeLine := rfl
  have hv := w.head
  have hdl := u.1.dep_le
  have hnl := u.1.need_le
  unfold t__law_step_in
  walk_at "tl"
  refine ⟨u.1, rfl, hv, fun q G0 s0 hq => ?_⟩
  walk_at "tl"
  refine ⟨_, hq, ?_⟩
  have kd : ∀ v ∈ kidsI u, v.1.dep ≤ d + 1 := fun v hv => by
    have := u.1.kid_dep v.1 (by rw [← kidsI_fst]; exact List.mem_map_of_mem hv)
    omega
  have kat : ∀ (j : Nat) (v : Ex × Nat), (kidsI u)[j]? = some v → u.1.kids[j]? = some v.1 := fun j v h => by rw [← kidsI_fst, List.getElem?_map, h]; rfl
  refine for_inv (α := Nat) (fun j => T.int ((u.1.hd.length + j : Nat) : Int)) (fun xs st G' => ∃ i, xs = List.range' i (u.1.need - i) ∧ st = [some u.1.enc, some (encBk bk), none, none] ∧ G' = G0 ∧ (∀ q ∈ (kidsI u).take i, q.1.val = true) ∧ i ≤ u.1.need) ?_ ?_ (List.range u.1.need) _ _ ⟨0, by rw [List.range_eq_range']; simp, rfl, rfl, by simp, Nat.zero_le _⟩
  · rintro j xs st G' N hN ⟨i, hx, rfl, rfl, hi, hin⟩
    refine ⟨hq, ?_⟩
    have hlt : i < u.1.need := by
      rcases Nat.lt_or_ge i u.1.need with h | h
      · exact h
      · rw [Nat.sub_eq_zero_of_le h] at hx; cases hx
    obtain ⟨rfl, rfl⟩ : j = i ∧ xs = List.range' (i + 1) (u.1.need - (i + 1)) := by
      have e : u.1.need - i = (u.1.need - (i + 1)) + 1 := by omega
      rw [e, List.range'_succ] at hx
      injection hx with h1 h2
      exact ⟨h1, h2⟩
    obtain ⟨v, hv1⟩ : ∃ v, (kidsI u)[j]? = some v := ⟨_, List.getElem?_eq_getElem (by rw [kidsI_len]; omega)⟩
    have hvm := List.mem_of_getElem? hv1
    walk_at "tl"
    refine vix_kid (kat j v hv1) ?_
    refine ⟨v.1, rfl, kd v hvm, v.1.val, rfl, ?_⟩
    cases hvv : v.1.val with
    | true =>
      walk_at "tl"
      refine hN _ _ (.mk ⟨j + 1, rfl, rfl, rfl, fun q hq => ?_, by omega⟩ (.same (.same (.none (.none .nil)))) .refl)
      rw [List.take_succ, hv1] at hq
      rcases List.mem_append.mp hq with hq | hq
      · exact hi q hq
      · simp at hq; subst hq; exact hvv
    | false =>
      rcases w.inv with ⟨e1, e2, h2⟩ | ⟨v2, j2, tr2, rfl, h2, h3, h4, h5, W2⟩
      · have := h2 v (List.mem_of_getElem? (by rw [List.getElem?_take, if_pos hlt]; exact hv1))
        rw [hvv] at this; cases this
      · have hjj : j2 = j := by
          rcases Nat.lt_trichotomy j2 j with h | h | h
          · have := hi v2 (List.mem_of_getElem? (i := j2) (by rw [List.getElem?_take, if_pos h]; exact h3))
            rw [h4] at this; cases this
          · exact h
          · have := h5 v (List.mem_of_getElem? (i := j) (by rw [List.getElem?_take, if_pos h]; exact hv1))
            rw [hvv] at this; cases this
        subst hjj
        rw [hv1] at h3
        cases h3
        have hks := kidsI_size hvm
        obtain ⟨k, rfl⟩ : ∃ k, d = k + 1 := ⟨d - 1, by omega⟩
        obtain rfl := h1 k rfl
        walk_at "tl"
        refine vix_kid (kat j2 v hv1) ?_
        refine ⟨v, t, tr2, bk, rfl, W2, kidsI_ok hok hvm, by omega, by omega, hb, ?_⟩
        walk_at "tl"
        cases ho : own bk t.1 with
        | next x =>
          rw [ho] at h
          simp only [Rs.plug, Rs.enc]
          walk_at "tl"
          rw [u.1.enc_eq]
          walk_at "tl"
          have hj3 : j2 < u.1.kids.length := by omega
          rw [show ((u.1.hd.length + j2 : Nat) : Int) + 1 = ((u.1.hd.length + j2 + 1 : Nat) : Int) by omega, cut_take, cut_drop]
          have l1 := u.1.hd_le
          have l2 := u.1.kids_le
          refine ⟨?_, ?_, ?_⟩
          · rw [List.length_take]; omega
          · rw [List.length_append, List.length_take, List.length_drop, List.length_append, List.length_map]; simp only [List.length_cons, List.length_nil]; omega
          · refine ⟨_, s0, ?_⟩
            rw [setKid u.1 _ j2 hj3, ← u.1.withK_enc _ (by rw [List.length_set])]
            exact h
        | _ =>
          rw [ho] at h
          simp only [Rs.plug, Rs.enc]
          walk_at "tl"
          exact ⟨_, s0, h⟩
  · rintro st G' ⟨i, hx, rfl, rfl, hi, hin⟩
    refine ⟨hq, ?_⟩
    have hii : i = u.1.need := by
      rcases Nat.lt_or_ge i u.1.need with h | h
      · have e : u.1.need - i = (u.1.need - (i + 1)) + 1 := by omega
        rw [e, List.range'_succ] at hx; cases hx
      · omega
    subst hii
    rcases w.inv with ⟨rfl, rfl, h2⟩ | ⟨v2, j2, tr2, rfl, h2, h3, h4, h5, W2⟩
    · obtain ⟨tv, tk⟩ := w.tipOk
      walk_at "tl"
      refine ⟨_, bk, rfl, hok, tv, tk, hd, hb, hz, ⟨_, s0, ?_⟩⟩
      cases ho : own bk t.1 <;> (rw [ho] at h; exact h)
    · have := hi v2 (List.mem_of_getElem? (i := j2) (by rw [List.getElem?_take, if_pos h2]; exact h3))
      rw [h4] at this; cases this
def t__law_stepped (s__law_is_value : TSp) (s__law_step_in : TSp) : TTS :=
  (tseq (tifs (ttruth (tcall s__law_is_value (tacons (tvar 0) tanil)))
  (tret (ttup (tacons (tcon (.str "value")) tanil)))
  tnext)
  (tseq (tifs (tbool (top (vcmp fun i j => decide (j < i)) (tcall sp__law_count (tacons (tvar 0) tanil)) (tcon (.int 300))))
  (tret (ttup (tacons (tcon (.str "large")) tanil)))
  tnext)
  (tret (tcall s__law_step_in (tacons (tvar 0) (tacons (tvar 1) tanil))))))

def sp__law_stepped : TSp := fun ts G R => ∃ (e : Ex) (bk : Bk) (r : Rs), ts = [e.enc, encBk bk] ∧ e.ok ∧ e.size ≤ 2 ^ 20 ∧ e.dep ≤ 641 ∧ bk.length ≤ 10 ∧ Stepped bk e r ∧ R r.enc G
theorem pure__law_stepped (ts : List T) (G : GH) (R : TK) (h : sp__law_stepped ts G R) : t__law_stepped (sp__law_is_value 640) (sp__law_step_in 600) { nx := fun _ G' => WkR R .non G', rt := WkR R } (startT ["row", "book"] ts) G := by
  obtain ⟨e, bk, r, rfl, hok, hz, hd, hb, hS, h⟩ := h
  unfold t__law_stepped
  walk_at "tl"
  refine ⟨e, rfl, hd, e.val, rfl, ?_⟩
  unfold Stepped at hS
  cases hv : e.val with
  | true =>
    rw [if_pos hv] at hS
    subst hS
    walk_at "tl"
    exact .of h
  | false =>
    rw [if_neg (by simp [hv])] at hS
    walk_at "tl"
    refine ⟨e, rfl, hz, fun n hn => ?_⟩
    walk_at "tl"
    by_cases h300 : 300 < e.size
    · rw [if_pos h300] at hS
      subst hS
      have e2 : decide ((300 : Int) < (n : Int)) = true := decide_eq_true (by have := hn.mpr h300; omega)
      rw [e2]
      walk_at "tl"
      exact .of h
    · rw [if_neg h300] at hS
      obtain ⟨tr, t, w, rfl⟩ := hS
      have e2 : decide ((300 : Int) < (n : Int)) = false := decide_eq_false (fun z => h300 (hn.mp (by omega)))
      rw [e2]
      walk_at "tl"
      exact ⟨(e, 0), t, tr, bk, rfl, w, hok, by simp only; omega, by simp only; omega, hb, .of h⟩
def t__law_nodes (s__law_nodes : TSp) : TTS :=
  (tseq (tasg (tlst (tacons (tvar 0) tanil)) (gname 1))
  (tseq (tfor (iany (tcall sp__law_children (tacons (tvar 0) tanil))) (gname 2)
  (tasg (top vadd (tvar 1) (tcall s__law_nodes (tacons (tvar 2) tanil))) (gname 1)))
  (tret (tvar 1))))

structure Sb (n e : Ex) : Prop where
  sz : n.size ≤ e.size
  dp : n.dep ≤ e.dep
  ok : e.ok → n.ok
theorem Sb.refl (e : Ex) : Sb e e := ⟨Nat.le_refl _, Nat.le_refl _, id⟩
theorem Sb.kid {n k e : Ex} (h : Sb n k) (hk : k ∈ e.kids) : Sb n e := ⟨Nat.le_trans h.sz (Nat.le_of_lt (e.kid_size k hk)), Nat.le_trans h.dp (Nat.le_of_lt (e.kid_dep k hk)), fun q => h.ok (kid_ok q k hk)⟩
def sp__law_nodes (d : Nat) : TSp := fun ts G R => ∃ e : Ex, ts = [e.enc] ∧ e.dep ≤ d + 1 ∧ e.size ≤ 1000 ∧ ∀ (q : Addr) (L : List Ex), G q = none → L.length ≤ e.size → (∀ n ∈ L, Sb n e) → R (.ref q) (gupd G q (.lst (L.map Ex.enc)))
theorem pure__law_nodes (d : Nat) (s1 : TSp) (h1 : ∀ k, d = k + 1 → s1 = sp__law_nodes k) (ts : List T) (G : GH) (R : TK) (h : sp__law_nodes d ts G R) : t__law_nodes s1 { nx := fun _ G' => WkR R .non G', rt := WkR R } (startT ["row", "found", "child"] ts) G := by
  obtain ⟨e, rfl, hd, hz, h⟩ := h
  have zz : (2 ^ 24 : Nat) = sizeLine := rfl
  have hks := szE_kids e
  unfold t__law_nodes
  walk_at "tl"
  intro q hq
  refine ⟨e, rfl, fun c hc0 => ?_⟩
  obtain ⟨hcq, hc⟩ := ne_none hc0
  walk_at "tl"
  refine for_inv (α := Ex) Ex.enc (fun ys st G' => ∃ (f : Addr) (L zs : List Ex), st = [some e.enc, some (.ref f), none] ∧ f ≠ c ∧ G f = none ∧ e.kids = zs ++ ys ∧ L.length ≤ 1 + szE zs ∧ (∀ n ∈ L, Sb n e) ∧ G' = gupd (gupd G c (.lst (e.kids.map Ex.enc))) f (.lst (L.map Ex.enc))) ?_ ?_ e.kids _ _ ⟨q, [e], [], rfl, Ne.symm hcq, hq, rfl, by simp, fun n hn => by simp at hn; subst hn; exact .refl _, by rw [gupd_comm (Ne.symm hcq)]; rfl⟩
  · rintro k ys st G' N hN ⟨f, L, zs, rfl, hfc, hf, hk, hL, hS, rfl⟩
    have hkm : k ∈ e.kids := by rw [hk]; simp
    have hkd := e.kid_dep k hkm
    have hkz := e.kid_size k hkm
    have kp := k.dep_pos
    have hkl := congrArg szE hk
    rw [szE_app, ← List.singleton_append, szE_app] at hkl
    have hk1 : szE [k] = k.size := by simp [szE]
    obtain ⟨d', rfl⟩ : ∃ d', d = d' + 1 := ⟨d - 1, by omega⟩
    obtain rfl := h1 d' rfl
    refine ⟨by rw [gupd_ne (Ne.symm hfc), gupd_same], ?_⟩
    walk_at "tl"
    refine ⟨k, rfl, by omega, by omega, fun g L2 hg hL2 hS2 => ?_⟩
    obtain ⟨hgf, hg1⟩ := ne_none hg
    obtain ⟨hgc, hg2⟩ := ne_none hg1
    refine ⟨_, _, by rw [gupd_ne (Ne.symm hgf), gupd_same], gupd_same, by rw [List.length_map, List.length_map]; omega, fun m hm => ?_⟩
    obtain ⟨hmg, hm1⟩ := ne_none hm
    obtain ⟨hmf, hm2⟩ := ne_none hm1
    obtain ⟨hmc, hm3⟩ := ne_none hm2
    rw [← List.map_append]
    refine hN _ _ (.mk ⟨m, L ++ L2, zs ++ [k], rfl, hmc, hm3, by rw [hk]; simp, by rw [List.length_append, szE_app]; omega, fun n hn => (List.mem_append.mp hn).elim (hS n) fun h => (hS2 n h).kid hkm, rfl⟩ (.same (.same (.none .nil))) ?_)
    refine Sub.at fun a u ha e => ?_
    have haf : a ≠ f := fun z => by subst z; rw [gupd_ne hfc, hf] at e; cases e
    have hag : a ≠ g := fun z => by subst z; rw [hg1] at e; cases e
    rw [gupd_ne hag, gupd_ne haf]; exact e
  · rintro st G' ⟨f, L, zs, rfl, hfc, hf, hk, hL, hS, rfl⟩
    refine ⟨by rw [gupd_ne (Ne.symm hfc), gupd_same], ?_⟩
    walk_at "tl"
    rw [List.append_nil] at hk
    rw [← hk] at hL
    refine ⟨_, ?_, h f L hf (by omega) hS⟩
    rw [gupd_comm (Ne.symm hfc)]
    exact Sub.gupd (by rw [gupd_ne (Ne.symm hfc)]; exact hc)
end TL

namespace TL
open PySem PySem.Spec PyProof.Rows L2
def occ (x : Str) : Ex → Bool → Nat
  | .nam y, c => if y = x ∧ c = false then 1 else 0
  | .fn y b, c => occ x b (c || decide (x ∈ [y]))
  | .rc f y b, c => occ x b (c || decide (x ∈ [f, y]))
  | .app f a, c => occ x f c + occ x a c
  | .lt y a b, c => occ x a c + occ x b (c || decide (x ∈ [y]))
  | .ite i a b, c => occ x i c + occ x a c + occ x b c
  | .op _ a b, c => occ x a c + occ x b c
  | .ext _ a b, c => occ x a c + occ x b c
  | .sel _ a, c => occ x a c
  | .drp _ a, c => occ x a c
  | _, _ => 0
theorem occ_true (x : Str) : ∀ e : Ex, occ x e true = 0
  | .nam y => by simp [occ]
  | .fn y b => by simp [occ, occ_true x b]
  | .rc f y b => by simp [occ, occ_true x b]
  | .app f a => by simp [occ, occ_true x f, occ_true x a]
  | .lt y a b => by simp [occ, occ_true x a, occ_true x b]
  | .ite i a b => by simp [occ, occ_true x i, occ_true x a, occ_true x b]
  | .op _ a b => by simp [occ, occ_true x a, occ_true x b]
  | .ext _ a b => by simp [occ, occ_true x a, occ_true x b]
  | .sel _ a => by simp [occ, occ_true x a]
  | .drp _ a => by simp [occ, occ_true x a]
  | .num _ => rfl
  | .tru _ => rfl
  | .emp => rfl
theorem size_occ {x : Str} {v : Ex} : ∀ (e : Ex) (c : Bool), (Ex.putc x v e c).size ≤ e.size + occ x e c * v.size
  | .nam y, c => by
    simp only [Ex.putc, occ]; split
    · simp only [Ex.size]; omega
    · simp [Ex.size]
  | .fn y b, c => by have := size_occ (x := x) (v := v) b (c || decide (x ∈ [y])); simp only [Ex.putc, occ, Ex.size]; omega
  | .rc f y b, c => by have := size_occ (x := x) (v := v) b (c || decide (x ∈ [f, y])); simp only [Ex.putc, occ, Ex.size]; omega
  | .app f a, c => by have := size_occ (x := x) (v := v) f c; have := size_occ (x := x) (v := v) a c; simp only [Ex.putc, occ, Ex.size, Nat.add_mul]; omega
  | .lt y f a, c => by have := size_occ (x := x) (v := v) f c; have := size_occ (x := x) (v := v) a (c || decide (x ∈ [y])); simp only [Ex.putc, occ, Ex.size, Nat.add_mul]; omega
  | .ite i f a, c => by have := size_occ (x := x) (v := v) i c; have := size_occ (x := x) (v := v) f c; have := size_occ (x := x) (v := v) a c; simp only [Ex.putc, occ, Ex.size, Nat.add_mul]; omega
  | .op _ f a, c => by have := size_occ (x := x) (v := v) f c; have := size_occ (x := x) (v := v) a c; simp only [Ex.putc, occ, Ex.size, Nat.add_mul]; omega
  | .ext _ f a, c => by have := size_occ (x := x) (v := v) f c; have := size_occ (x := x) (v := v) a c; simp only [Ex.putc, occ, Ex.size, Nat.add_mul]; omega
  | .sel _ a, c => by have := size_occ (x := x) (v := v) a c; simp only [Ex.putc, occ, Ex.size]; omega
  | .drp _ a, c => by have := size_occ (x := x) (v := v) a c; simp only [Ex.putc, occ, Ex.size]; omega
  | .num _, c => by simp [Ex.putc, Ex.size]
  | .tru _, c => by simp [Ex.putc, Ex.size]
  | .emp, c => by simp [Ex.putc, Ex.size]
theorem occ_two {f x : Str} (h : f ≠ x) : ∀ (e : Ex) (c d : Bool), occ f e c + occ x e d ≤ e.size
  | .nam y, c, d => by
    simp only [occ, Ex.size]
    by_cases h1 : y = f
    · have h2 : ¬ y = x := fun z => h (h1.symm.trans z)
      simp only [h2, false_and, if_false]; split <;> omega
    · simp only [h1, false_and, if_false]; split <;> omega
  | .fn y b, c, d => by have := occ_two h b (c || decide (f ∈ [y])) (d || decide (x ∈ [y])); simp only [occ, Ex.size]; omega
  | .rc g y b, c, d => by have := occ_two h b (c || decide (f ∈ [g, y])) (d || decide (x ∈ [g, y])); simp only [occ, Ex.size]; omega
  | .app a b, c, d => by have := occ_two h a c d; have := occ_two h b c d; simp only [occ, Ex.size]; omega
  | .lt y a b, c, d => by have := occ_two h a c d; have := occ_two h b (c || decide (f ∈ [y])) (d || decide (x ∈ [y])); simp only [occ, Ex.size]; omega
  | .ite i a b, c, d => by have := occ_two h i c d; have := occ_two h a c d; have := occ_two h b c d; simp only [occ, Ex.size]; omega
  | .op _ a b, c, d => by have := occ_two h a c d; have := occ_two h b c d; simp only [occ, Ex.size]; omega
  | .ext _ a b, c, d => by have := occ_two h a c d; have := occ_two h b c d; simp only [occ, Ex.size]; omega
  | .sel _ a, c, d => by have := occ_two h a c d; simp only [occ, Ex.size]; omega
  | .drp _ a, c, d => by have := occ_two h a c d; simp only [occ, Ex.size]; omega
  | .num _, c, d => by simp [occ]
  | .tru _, c, d => by simp [occ]
  | .emp, c, d => by simp [occ]
theorem occ_put {f x : Str} {F : Ex} (hF : ∀ c, occ x F c = 0) : ∀ (e : Ex) (c d : Bool), occ x (Ex.putc f F e c) d ≤ occ x e d
  | .nam y, c, d => by
    simp only [Ex.putc]; split
    · rw [hF]; omega
    · exact Nat.le_refl _
  | .fn y b, c, d => by simpa only [Ex.putc, occ] using occ_put hF b _ _
  | .rc g y b, c, d => by simpa only [Ex.putc, occ] using occ_put hF b _ _
  | .app a b, c, d => by simpa only [Ex.putc, occ] using Nat.add_le_add (occ_put hF a _ _) (occ_put hF b _ _)
  | .lt y a b, c, d => by simpa only [Ex.putc, occ] using Nat.add_le_add (occ_put hF a _ _) (occ_put hF b _ _)
  | .ite i a b, c, d => by simpa only [Ex.putc, occ] using Nat.add_le_add (Nat.add_le_add (occ_put hF i _ _) (occ_put hF a _ _)) (occ_put hF b _ _)
  | .op _ a b, c, d => by simpa only [Ex.putc, occ] using Nat.add_le_add (occ_put hF a _ _) (occ_put hF b _ _)
  | .ext _ a b, c, d => by simpa only [Ex.putc, occ] using Nat.add_le_add (occ_put hF a _ _) (occ_put hF b _ _)
  | .sel _ a, c, d => by simpa only [Ex.putc, occ] using occ_put hF a _ _
  | .drp _ a, c, d => by simpa only [Ex.putc, occ] using occ_put hF a _ _
  | .num _, c, d => Nat.le_refl _
  | .tru _, c, d => Nat.le_refl _
  | .emp, c, d => Nat.le_refl _
/-- what comes of an expression of this size: well made, not too large, not too deep -/
structure Sm (x : Ex) (n : Nat) : Prop where
  ok : x.ok
  sz : x.size ≤ 90300
  dp : x.dep ≤ 2 * n ∨ x.dep ≤ 60
structure BkOk (bk : Bk) : Prop where
  len : bk.length ≤ 10
  ok : ∀ p ∈ bk, p.1 ∈ NMS ∧ p.2.ok ∧ p.2.size ≤ 60
theorem sub_sm {x : Str} {a b : Ex} {n : Nat} (ha : a.ok) (hb : b.ok) (hn : n ≤ 300) (h : a.size + b.size ≤ n) : Sm (Ex.putc x a b false) n := by
  refine ⟨put_ok ha b _ hb, ?_, .inl ?_⟩
  · have h1 := mul_size (x := x) (v := a) b false
    have h2 : b.size * a.size ≤ 300 * 300 := Nat.mul_le_mul (by omega) (by omega)
    omega
  · have := len_dep (x := x) (v := a) b false
    have := a.dep_le
    have := b.dep_le
    omega
theorem called_sm {f a x : Ex} (hf : f.ok) (ha : a.ok) (hz : f.size + a.size + 1 ≤ 300) (h : called f a = .next x) : Sm x (f.size + a.size + 1) := by
  cases f with
  | fn y b =>
    simp only [called, Rs.next.injEq] at h
    subst h
    simp only [Ex.size] at hz ⊢
    exact sub_sm ha hf.2 hz (by omega)
  | rc g y b =>
    simp only [called, Rs.next.injEq] at h
    subst h
    simp only [Ex.size] at hz ⊢
    by_cases hg : g = y
    · rw [if_pos hg]
      exact sub_sm ha hf.2.2 hz (by omega)
    · rw [if_neg hg]
      have okP := put_ok (x := g) hf b false hf.2.2
      refine ⟨put_ok ha _ _ okP, ?_, .inl ?_⟩
      · have s1 := size_occ (x := y) (v := a) (Ex.putc g (.rc g y b) b false) false
        have s2 := size_occ (x := g) (v := .rc g y b) b false
        have z0 : ∀ c, occ y (.rc g y b) c = 0 := fun c => by
          have : (c || decide (y ∈ [g, y])) = true := by simp
          rw [occ, this, occ_true]
        have s3 := occ_put (f := g) z0 b false false
        have s4 := occ_two hg b false false
        have s5 : occ y (Ex.putc g (.rc g y b) b false) false * a.size ≤ occ y b false * 300 := Nat.mul_le_mul s3 (by omega)
        have s6 : occ g b false * (Ex.rc g y b).size ≤ occ g b false * 300 := Nat.mul_le_mul (Nat.le_refl _) (by simp only [Ex.size]; omega)
        have s7 : (occ g b false + occ y b false) * 300 ≤ b.size * 300 := Nat.mul_le_mul s4 (Nat.le_refl _)
        rw [Nat.add_mul] at s7
        omega
      · have := len_dep (x := y) (v := a) (Ex.putc g (.rc g y b) b false) false
        have := len_dep (x := g) (v := .rc g y b) b false
        have := a.dep_le
        have := b.dep_le
        simp only [Ex.dep] at *
        omega
  | _ => cases h
theorem fieldOf_sub {l : Str} : ∀ {r x : Ex}, fieldOf l r = some x → Sb x r
  | .ext m a r, x, h => by
    rw [fieldOf] at h
    split at h
    · cases h; exact (Sb.refl _).kid (by simp [Ex.kids])
    · exact (fieldOf_sub h).kid (by simp [Ex.kids])
  | .num _, _, h => by cases h
  | .tru _, _, h => by cases h
  | .nam _, _, h => by cases h
  | .fn _ _, _, h => by cases h
  | .rc _ _ _, _, h => by cases h
  | .app _ _, _, h => by cases h
  | .lt _ _ _, _, h => by cases h
  | .ite _ _ _, _, h => by cases h
  | .op _ _ _, _, h => by cases h
  | .emp, _, h => by cases h
  | .sel _ _, _, h => by cases h
  | .drp _ _, _, h => by cases h
theorem less_sub {l : Str} : ∀ {r x : Ex}, less l r = some x → Sb x r
  | .ext m a r, x, h => by
    rw [less] at h
    split at h
    · cases h; exact (Sb.refl _).kid (by simp [Ex.kids])
    · cases hl : less l r with
      | none => rw [hl] at h; cases h
      | some w =>
        rw [hl] at h; cases h
        have s := less_sub hl
        refine ⟨?_, ?_, fun k => ⟨k.1, k.2.1, s.ok k.2.2⟩⟩
        · have := s.sz; simp only [Ex.size]; omega
        · have := s.dp; simp only [Ex.dep]; omega
  | .num _, _, h => by cases h
  | .tru _, _, h => by cases h
  | .nam _, _, h => by cases h
  | .fn _ _, _, h => by cases h
  | .rc _ _ _, _, h => by cases h
  | .app _ _, _, h => by cases h
  | .lt _ _ _, _, h => by cases h
  | .ite _ _ _, _, h => by cases h
  | .op _ _ _, _, h => by cases h
  | .emp, _, h => by cases h
  | .sel _ _, _, h => by cases h
  | .drp _ _, _, h => by cases h
theorem Sb.sm {x e : Ex} {n : Nat} (h : Sb x e) (ok : e.ok) (hz : e.size ≤ n) (hn : n ≤ 300) : Sm x n := ⟨h.ok ok, by have := h.sz; omega, .inl (by have := h.dp; have := e.dep_le; omega)⟩
theorem lookB_sm {x : Str} {n : Nat} {y : Ex} : ∀ {bk : Bk}, (∀ p ∈ bk, p.1 ∈ NMS ∧ p.2.ok ∧ p.2.size ≤ 60) → lookB bk x = .next y → Sm y n
  | [], _, h => by cases h
  | p :: r, hb, h => by
    rw [lookB] at h
    split at h
    · cases h
      obtain ⟨_, h1, h2⟩ := hb p (by simp)
      exact ⟨h1, by omega, .inr (Nat.le_trans p.2.dep_le h2)⟩
    · exact lookB_sm (fun q hq => hb q (by simp [hq])) h
theorem own_sm {bk : Bk} {e x : Ex} (hb : BkOk bk) (ok : e.ok) (hz : e.size ≤ 300) (h : own bk e = .next x) : Sm x e.size := by
  cases e with
  | nam y => exact lookB_sm hb.ok h
  | app f a => exact called_sm ok.1 ok.2 hz h
  | lt y a b =>
    simp only [own, Rs.next.injEq] at h
    subst h
    simp only [Ex.size] at hz ⊢
    exact sub_sm ok.2.1 ok.2.2 hz (by omega)
  | ite c a b =>
    cases c with
    | tru v =>
      simp only [own, chosen, Rs.next.injEq] at h
      subst h
      refine Sb.sm (e := .ite (.tru v) a b) ?_ ok (Nat.le_refl _) hz
      cases v
      · exact (Sb.refl b).kid (by simp [Ex.kids])
      · exact (Sb.refl a).kid (by simp [Ex.kids])
    | _ => cases h
  | op o a b =>
    have one : ∀ y : Ex, y.ok → y.size = 1 → y.dep = 1 → Sm y (Ex.op o a b).size := fun y k s d => ⟨k, by omega, .inr (by omega)⟩
    cases a with
    | num i =>
      cases b with
      | num j =>
        obtain ⟨ho, ⟨i0, i1⟩, j0, j1⟩ := ok
        simp only [own, counted] at h
        split at h
        · cases h; exact one _ trivial rfl rfl
        · split at h
          · cases h; exact one _ trivial rfl rfl
          · split at h
            · split at h
              · cases h
              · cases h; exact one _ ⟨by omega, by omega⟩ rfl rfl
            · split at h
              · cases h
              · cases h; exact one _ ⟨by omega, by omega⟩ rfl rfl
      | _ => cases h
    | _ => cases h
  | ext l a r => cases h
  | sel l r =>
    have h : fieldStep true l r = .next x := h
    unfold fieldStep at h
    split at h
    · cases h
    · cases hf : fieldOf l r with
      | none => simp [hf] at h
      | some y =>
        simp [hf] at h
        subst h
        exact ((fieldOf_sub hf).kid (e := .sel l r) (by simp [Ex.kids])).sm ok (Nat.le_refl _) hz
  | drp l r =>
    have h : fieldStep false l r = .next x := h
    unfold fieldStep at h
    split at h
    · cases h
    · cases hf : less l r with
      | none => simp [hf] at h
      | some y =>
        simp [hf] at h
        subst h
        exact ((less_sub hf).kid (e := .drp l r) (by simp [Ex.kids])).sm ok (Nat.le_refl _) hz
  | _ => cases h
theorem withK_set {e c : Ex} {j : Nat} (hj : j < e.kids.length) : (e.withK (e.kids.set j c)).size ≤ e.size + c.size ∧ (e.withK (e.kids.set j c)).dep ≤ max e.dep (c.dep + 1) ∧ (e.ok → c.ok → (e.withK (e.kids.set j c)).ok) := by
  cases e <;> simp only [Ex.kids, List.length_cons, List.length_nil] at hj ⊢ <;>
    (match j, hj with
      | 0, h => first | (refine ⟨?_, ?_, fun k1 k2 => ?_⟩ <;> simp only [List.set_cons_zero, List.set_cons_succ, Ex.withK, Ex.size, Ex.dep, Ex.ok] at * <;> first | omega | (simp_all; done)) | omega
      | 1, h => first | (refine ⟨?_, ?_, fun k1 k2 => ?_⟩ <;> simp only [List.set_cons_zero, List.set_cons_succ, Ex.withK, Ex.size, Ex.dep, Ex.ok] at * <;> first | omega | (simp_all; done)) | omega
      | 2, h => first | (refine ⟨?_, ?_, fun k1 k2 => ?_⟩ <;> simp only [List.set_cons_zero, List.set_cons_succ, Ex.withK, Ex.size, Ex.dep, Ex.ok] at * <;> first | omega | (simp_all; done)) | omega
      | n + 3, h => omega)
theorem Walk.plug_ok {u t : Ex × Nat} {tr : List ((Ex × Nat) × Nat)} (w : Walk u tr t) {x : Ex} (hx : x.ok) : u.1.ok → (TL.plug tr x).ok := by
  induction w with
  | tip => intro _; exact hx
  | @down u v t j tr _ h2 h3 _ _ w ih =>
    intro hu
    have hj : j < u.1.kids.length := by
      have := (List.getElem?_eq_some_iff.mp h3).1
      rw [kidsI_len] at this; exact this
    exact (withK_set hj).2.2 hu (ih (kidsI_ok hu (List.mem_of_getElem? h3)))
theorem Walk.plug_dp {u t : Ex × Nat} {tr : List ((Ex × Nat) × Nat)} (w : Walk u tr t) {x : Ex} : (TL.plug tr x).dep ≤ max u.1.dep (tr.length + x.dep) := by
  induction w with
  | tip => simp only [TL.plug, List.length_nil]; omega
  | @down u v t j tr _ h2 h3 _ _ w ih =>
    have hj : j < u.1.kids.length := by
      have := (List.getElem?_eq_some_iff.mp h3).1
      rw [kidsI_len] at this; exact this
    have h1 := (withK_set (c := TL.plug tr x) hj).2.1
    have h4 := u.1.kid_dep v.1 (by rw [← kidsI_fst]; exact List.mem_map_of_mem (List.mem_of_getElem? h3))
    simp only [TL.plug, List.length_cons]
    omega
theorem szE_set {c : Ex} : ∀ {ks : List Ex} {j : Nat} {k : Ex}, ks[j]? = some k → szE (ks.set j c) + k.size = szE ks + c.size
  | [], _, _, h => by cases h
  | y :: r, 0, k, h => by cases h; simp [szE]; omega
  | y :: r, j + 1, k, h => by
    have := szE_set (c := c) (ks := r) (j := j) (k := k) h
    simp [szE] at this ⊢; omega
theorem withK_sz {e : Ex} {ks : List Ex} (h : ks.length = e.kids.length) : (e.withK ks).size = szE ks + 1 := by
  cases e <;> (match ks, h with
    | [], h => first | rfl | (simp [Ex.kids] at h)
    | [a], h => first | (simp [Ex.withK, Ex.size, szE]; done) | (simp [Ex.kids] at h)
    | [a, b], h => first | (simp [Ex.withK, Ex.size, szE]; done) | (simp [Ex.kids] at h)
    | [a, b, c], h => first | (simp [Ex.withK, Ex.size, szE]; omega) | (simp [Ex.kids] at h)
    | _ :: _ :: _ :: _ :: _, h => simp [Ex.kids] at h)
theorem Walk.plug_sz {u t : Ex × Nat} {tr : List ((Ex × Nat) × Nat)} (w : Walk u tr t) {x : Ex} : (TL.plug tr x).size + t.1.size = u.1.size + x.size := by
  induction w with
  | tip => simp only [TL.plug]; omega
  | @down u v t j tr _ h2 h3 _ _ w ih =>
    have hk : u.1.kids[j]? = some v.1 := by rw [← kidsI_fst, List.getElem?_map, h3]; rfl
    have h1 := szE_set (c := TL.plug tr x) hk
    have h4 := szE_kids u.1
    have h5 := withK_sz (e := u.1) (ks := u.1.kids.set j (TL.plug tr x)) (by rw [List.length_set])
    simp only [TL.plug]
    omega
/-- rows that may come up -/
structure Rw (e : Ex) : Prop where
  ok : e.ok
  sz : e.size ≤ 100000
  dp : e.dep ≤ 620
theorem Stepped.rw {bk : Bk} {e x : Ex} (hb : BkOk bk) (hr : Rw e) (h : Stepped bk e (.next x)) : Rw x := by
  unfold Stepped at h
  split at h
  · cases h
  · split at h
    · cases h
    · rename_i h300
      obtain ⟨tr, t, w, h⟩ := h
      cases ho : own bk t.1 with
      | next y =>
        rw [ho] at h
        cases h
        have hs := w.size
        simp only at hs
        have sm := own_sm hb (w.ok hr.ok) (by omega) ho
        have d1 := w.plug_dp (x := y)
        have d2 := e.dep_le
        have s1 := w.plug_sz (x := y)
        have := sm.sz
        have := t.1.size_pos
        refine ⟨w.plug_ok sm.ok hr.ok, by simp only at s1; omega, ?_⟩
        simp only at d1
        rcases sm.dp with h | h <;> omega
      | _ => rw [ho] at h; cases h
end TL

namespace TL
open PySem PySem.Spec PyProof.Rows L2
local macro_rules | `(tactic| walk_at "tl") => `(tactic| try simp +decide only [tseq, vint_bl, vneg_int, irevr1_eq, tpl, exists_ptup, vptuple_ref, tmethT, tandV, torV, tnotV, tasg, tifs, tbool, tret, tretN, tdrop, tnext, tcont, tbreak, gname, gtup_tup, gcons_cons, gnil_nil, GO.lst.injEq, GO.dK.injEq, top, tvar, tcon, tun, ttup, tlst, tacons, tanil, tcb, tcall, tife, tand, tor, tnot, tandV, torV, tnotV, tisN, tnotN, T.isNon, ttruth, truth_bl, truth_non, truth_int, truth_tup, truth_fl, tsl, tpart, tnopart, tsortk, tlc, tfor, iany, irev, irange1_eq, irange2_eq, items_tup, items_fl, items_ref, twipe, List.set, izip_eq, tput_eq, vlist_tup, tmeth, isL, mappend_ref, mextend_tup, trev, exists_eq, exists_eq', 
  vix_tup, vix_fl, veq_str, vne_str, veq_int, vne_int, vcmp_int, vadd_int, vaddI_int, vadd_tup, vadd_str, vsub_int, vI_int, vlen_tup, vlen_fl, vlen_str, vtuple_tup, vtuple_ref, vint_int, vsl_tup, cut_from1, atI0, atI1, atI2, atI3, taug,
  startT, List.map_cons, List.map_nil, List.length_cons, List.length_nil, List.cons_append, List.nil_append, List.getElem?_cons_zero, List.getElem?_cons_succ, List.set_cons_zero, List.set_cons_succ, List.replicate, Option.some.injEq, exists_eq_left', exists_eq_left, T.bl.injEq, T.int.injEq, T.str.injEq, T.tup.injEq, T.ref.injEq, if_true, if_false, ite_true, ite_false, true_and, and_true, reduceCtorEq, gupd_same, gupd_gupd, Option.map_some, Option.map_none, Option.isSome_some, Option.isSome_none, Bool.not_true, Bool.not_false, Bool.true_eq_false, Bool.false_eq_true, List.cons.injEq, decide_true, decide_false])
section
variable {b p s l : Addr} {sc : List (Str × Str)} {n : Int} {G G0 : GH}
/-- a drawn function, with a new budget -/
theorem call_fnA {d : Nat} {R : TK} (X : XA b p s sc G) (E : Exb b G0 G) (hl : G l = none) (h1 : sc.length + 2 * (d + 1) ≤ 60) (h2 : n ≤ d + 3) (h0 : 3 ≤ n)
    (h : ∀ (e : Ex) G', e.ok → (e.size : Int) ≤ 6 * n - 15 → XA b p s sc G' → Exb b G0 G' → R e.enc G') : sp__law_function d [.ref b, .ref s, .ref l] (gupd G l (.lst [.int n])) R := by
  have lb := X.hb.neb hl
  have lp := X.hb.nep hl
  refine ⟨b, p, s, l, sc, n, rfl, ⟨X.hb.new hl, by rw [gupd_free hl (by rw [X.hs]; rfl)]; exact X.hs, gupd_same, lb, lp, X.sb, Ne.symm (fresh_ne hl X.hs), X.sn⟩, h1, h2, fun e n' y i ok cn hy => ?_⟩
  have em : st_ b p l i n' (gupd G l (.lst [.int n])) = gupd (TL.bx b p i G) l (.lst [.int n']) := by unfold st_; rw [bx_swap lb, gupd_gupd]
  have hl2 : TL.bx b p i G l = none := by unfold TL.bx; rw [gupd_ne lb]; exact hl
  rw [em]
  exact h e _ ok (by unfold Con at cn; omega) ((X.bx i).new hl2) ((E.bx i).new hl2)
end
def SCA : List (Str × Str) := [("aa", "fun"), ("bb", "number")]
def SCB : List (Str × Str) := [("bb", "number")]
theorem HB.xa {b p s : Addr} {sc : List (Str × Str)} {G : GH} (H : HB b p G) (hs : G s = none) (hn : ∀ q ∈ sc, q.1 ∈ NMS) : XA b p s sc (gupd G s (.lst (encSc sc))) := ⟨H.new hs, gupd_same, H.neb hs, hn⟩
def t__law_book (s__law_function : TSp) (s__law_expression : TSp) : TTS :=
  (tseq (tasg (tcall s__law_function (tacons (tvar 0) (tacons (tlst (tacons (ttup (tacons (tcon (.str "aa")) (tacons (tcon (.str "fun")) tanil))) (tacons (ttup (tacons (tcon (.str "bb")) (tacons (tcon (.str "number")) tanil))) tanil))) (tacons (tlst (tacons (tcon (.int 6)) tanil)) tanil)))) (gname 1))
  (tseq (tasg (tcall s__law_expression (tacons (tvar 0) (tacons (tlst (tacons (ttup (tacons (tcon (.str "bb")) (tacons (tcon (.str "number")) tanil))) tanil)) (tacons (tcon (.str "number")) (tacons (tlst (tacons (tcon (.int 4)) tanil)) tanil))))) (gname 2))
  (tret (tsl (ttup (tacons (ttup (tacons (tcon (.str "aa")) (tacons (tvar 1) tanil))) (tacons (ttup (tacons (tcon (.str "bb")) (tacons (tvar 2) tanil))) tanil))) (tpart (tcall sp__law_draw (tacons (tvar 0) (tacons (tcon (.int 3)) tanil)))) tnopart))))

def sp__law_book : TSp := fun ts G R => ∃ b p, ts = [.ref b] ∧ HB b p G ∧ ∀ (bk : Bk) (i : Nat), BkOk bk → bk.length ≤ 2 → R (encBk bk) (bx b p i G)
theorem pure__law_book (d : Nat) (hd : 3 ≤ d) (h60 : 2 + 2 * (d + 1) ≤ 60) (ts : List T) (G : GH) (R : TK) (h : sp__law_book ts G R) : t__law_book (sp__law_function d) (sp__law_expression d) { nx := fun _ G' => WkR R .non G', rt := WkR R } (startT ["box", "first", "second"] ts) G := by
  obtain ⟨b, p, rfl, H, h⟩ := h
  unfold t__law_book
  walk_at "tl"
  intro s hs l hl
  have X := H.xa (sc := SCA) hs (by decide)
  have E : Exb b G (gupd G s (.lst (encSc SCA))) := Exb.refl.new hs
  refine call_fnA (n := 6) (sc := SCA) X E hl (by simp [SCA]; omega) (by omega) (by decide) fun e1 G1 ok1 z1 X1 E1 => ?_
  walk_at "tl"
  intro s2 hs2 l2 hl2
  have X2 := X1.hb.xa (sc := SCB) hs2 (by decide)
  have E2 := E1.new (o := .lst (encSc SCB)) hs2
  refine call_exA (n := 4) (sc := SCB) X2 E2 hl2 (by simp [SCB]; omega) (by omega) (by decide) fun e2 G2 ok2 z2 X3 E3 => ?_
  walk_at "tl"
  refine ⟨b, p, 3, rfl, by decide, X3.hb, fun r i r0 r1 => ?_⟩
  have H4 := X3.hb.bx (i := i)
  have E4 := E3.bx (p := p) i
  obtain ⟨k, rfl⟩ : ∃ k : Nat, r = k := ⟨r.toNat, by omega⟩
  refine ⟨_, rfl, ?_⟩
  walk_at "tl"
  rw [cut_drop]
  have em : ([T.tup [T.str "aa", e1.enc], T.tup [T.str "bb", e2.enc]] : List T) = ([("aa", e1), ("bb", e2)] : Bk).map fun p => .tup [.str p.1, p.2.enc] := rfl
  rw [em, ← List.map_drop]
  refine H4.fin E4 fun j => h _ j ⟨by rw [List.length_drop]; simp only [List.length_cons, List.length_nil]; omega, fun q hq => ?_⟩ (by rw [List.length_drop]; simp only [List.length_cons, List.length_nil]; omega)
  have hq2 := List.mem_of_mem_drop hq
  simp only [List.mem_cons, List.not_mem_nil, or_false] at hq2
  rcases hq2 with rfl | rfl
  · exact ⟨(by decide : ("aa" : Str) ∈ NMS), ok1, by simp only; omega⟩
  · exact ⟨(by decide : ("bb" : Str) ∈ NMS), ok2, by simp only; omega⟩
def t__law_great : TTS :=
  (tseq (tasg (tcall sp__law_draw (tacons (tvar 0) (tacons (tcon (.int 5)) tanil))) (gname 1))
  (tseq (tifs (tbool (top veq (tvar 1) (tcon (.int 0))))
  (tseq (tasg (ttup (tacons (tcon (.str "call")) (tacons (ttup (tacons (tcon (.str "name")) (tacons (tcon (.str "f")) tanil))) (tacons (ttup (tacons (tcon (.str "name")) (tacons (tcon (.str "n")) tanil))) tanil)))) (gname 2))
  (tret (ttup (tacons (tcon (.str "call")) (tacons (ttup (tacons (tcon (.str "rec")) (tacons (tcon (.str "f")) (tacons (tcon (.str "n")) (tacons (ttup (tacons (tcon (.str "op")) (tacons (tcon (.str "+")) (tacons (tvar 2) (tacons (tvar 2) tanil))))) tanil))))) (tacons (ttup (tacons (tcon (.str "number")) (tacons (tcon (.int 0)) tanil))) tanil))))))
  tnext)
  (tseq (tasg (ttup (tacons (tcon (.str "name")) (tacons (tcon (.str "n")) tanil))) (gname 3))
  (tseq (tasg (ttup (tacons (tcon (.str "extend")) (tacons (tcon (.str "z")) (tacons (tvar 3) (tacons (ttup (tacons (tcon (.str "extend")) (tacons (tcon (.str "x")) (tacons (tvar 3) (tacons (tvar 3) tanil))))) tanil))))) (gname 4))
  (tseq (tifs (tbool (top veq (tvar 1) (tcon (.int 1))))
  (tret (ttup (tacons (tcon (.str "call")) (tacons (ttup (tacons (tcon (.str "rec")) (tacons (tcon (.str "f")) (tacons (tcon (.str "n")) (tacons (ttup (tacons (tcon (.str "call")) (tacons (ttup (tacons (tcon (.str "name")) (tacons (tcon (.str "f")) tanil))) (tacons (tvar 4) tanil)))) tanil))))) (tacons (ttup (tacons (tcon (.str "empty")) tanil)) tanil)))))
  tnext)
  (tseq (tifs (tbool (top veq (tvar 1) (tcon (.int 2))))
  (tseq (tasg (ttup (tacons (tcon (.str "empty")) tanil)) (gname 5))
  (tseq (tfor (irange1 (tacons (top vadd (tcon (.int 4)) (tcall sp__law_draw (tacons (tvar 0) (tacons (tcon (.int 3)) tanil)))) tanil)) (gname 6)
  (tasg (ttup (tacons (tcon (.str "call")) (tacons (ttup (tacons (tcon (.str "fun")) (tacons (tcon (.str "n")) (tacons (tvar 4) tanil)))) (tacons (tvar 5) tanil)))) (gname 5)))
  (tret (tvar 5))))
  tnext)
  (tseq (tifs (tbool (top veq (tvar 1) (tcon (.int 3))))
  (tret (ttup (tacons (tcon (.str "op")) (tacons (tcon (.str "+")) (tacons (ttup (tacons (tcon (.str "number")) (tacons (top vadd (tcon (.int 999998)) (tcall sp__law_draw (tacons (tvar 0) (tacons (tcon (.int 2)) tanil)))) tanil))) (tacons (ttup (tacons (tcon (.str "number")) (tacons (tcall sp__law_draw (tacons (tvar 0) (tacons (tcon (.int 3)) tanil))) tanil))) tanil))))))
  tnext)
  (tret (ttup (tacons (tcon (.str "op")) (tacons (tcon (.str "-")) (tacons (ttup (tacons (tcon (.str "number")) (tacons (tcall sp__law_draw (tacons (tvar 0) (tacons (tcon (.int 3)) tanil))) tanil))) (tacons (ttup (tacons (tcon (.str "number")) (tacons (tcall sp__law_draw (tacons (tvar 0) (tacons (tcon (.int 3)) tanil))) tanil))) tanil)))))))))))))

def moreE : Ex := .ext "z" (.nam "n") (.ext "x" (.nam "n") (.nam "n"))
def greatE : Nat → Ex
  | 0 => .emp
  | k + 1 => .app (.fn "n" moreE) (greatE k)
theorem more_ok : moreE.ok := ⟨by decide, (by decide : ("n" : Str) ∈ NMS), by decide, (by decide : ("n" : Str) ∈ NMS), (by decide : ("n" : Str) ∈ NMS)⟩
theorem great_ok : ∀ k, (greatE k).ok ∧ (greatE k).size = 7 * k + 1
  | 0 => ⟨trivial, rfl⟩
  | k + 1 => by
    obtain ⟨h1, h2⟩ := great_ok k
    refine ⟨⟨⟨by decide, more_ok⟩, h1⟩, ?_⟩
    simp only [greatE, Ex.size, h2, moreE]; omega
def sp__law_great : TSp := fun ts G R => ∃ b p, ts = [.ref b] ∧ HB b p G ∧ ∀ (e : Ex) (i : Nat), e.ok → e.size ≤ 60 → R e.enc (bx b p i G)
theorem pure__law_great (ts : List T) (G : GH) (R : TK) (h : sp__law_great ts G R) : t__law_great { nx := fun _ G' => WkR R .non G', rt := WkR R } (startT ["box", "kind", "again", "name", "more", "row", "turn"] ts) G := by
  obtain ⟨b, p, rfl, H, h⟩ := h
  have fN : ("f" : Str) ∈ NMS := by decide
  have nN : ("n" : Str) ∈ NMS := by decide
  unfold t__law_great
  walk_at "tl"
  refine ⟨b, p, 5, rfl, by decide, H, fun r i r0 r1 => ?_⟩
  have X1 := H.bx (i := i)
  walk_at "tl"
  by_cases c0 : r = 0
  · subst c0
    walk_at "tl"
    exact .of (h (.app (.rc "f" "n" (.op "+" (.app (.nam "f") (.nam "n")) (.app (.nam "f") (.nam "n")))) (.num 0)) i ⟨⟨fN, nN, by decide, ⟨fN, nN⟩, fN, nN⟩, by decide, by decide⟩ (by decide))
  rw [if_neg (by simpa using c0)]
  walk_at "tl"
  by_cases c1 : r = 1
  · subst c1
    walk_at "tl"
    exact .of (h (.app (.rc "f" "n" (.app (.nam "f") moreE)) .emp) i ⟨⟨fN, nN, fN, more_ok⟩, trivial⟩ (by decide))
  rw [if_neg (by simpa using c1)]
  by_cases c2 : r = 2
  · subst c2
    walk_at "tl"
    refine ⟨b, p, 3, rfl, by decide, X1, fun r2 j r20 r21 => ?_⟩
    obtain ⟨k, rfl⟩ : ∃ k : Nat, r2 = k := ⟨r2.toNat, by omega⟩
    walk_at "tl"
    refine rng1_lit (4 + k) (by omega) (by omega) ?_
    refine for_inv (α := Nat) (fun i => T.int (i : Int)) (fun xs st G' => ∃ m, m + xs.length = 4 + k ∧ st = [some (.ref b), some (.int 2), none, some (Ex.nam "n").enc, some moreE.enc, some (greatE m).enc, none] ∧ G' = bx b p j G) ?_ ?_ (List.range (4 + k)) _ _ ⟨0, by simp, rfl, bx_bx⟩
    · rintro t xs st G' N hN ⟨m, hm, rfl, rfl⟩
      refine ⟨trivial, ?_⟩
      walk_at "tl"
      simp only [List.length_cons] at hm
      exact hN _ _ (.mk ⟨m + 1, by omega, rfl, rfl⟩ (.same (.same (.none (.same (.same (.same (.none .nil))))))) .refl)
    · rintro st G' ⟨m, hm, rfl, rfl⟩
      refine ⟨trivial, ?_⟩
      walk_at "tl"
      obtain ⟨g1, g2⟩ := great_ok m
      simp only [List.length_nil] at hm
      exact .of (h (greatE m) j g1 (by omega))
  rw [if_neg (by simpa using c2)]
  by_cases c3 : r = 3
  · subst c3
    walk_at "tl"
    refine ⟨b, p, 2, rfl, by decide, X1, fun r2 j r20 r21 => ?_⟩
    walk_at "tl"
    refine ⟨b, p, 3, rfl, by decide, X1.bx, fun r3 k r30 r31 => ?_⟩
    rw [bx_bx, bx_bx]
    walk_at "tl"
    exact .of (h (.op "+" (.num (999998 + r2)) (.num r3)) k ⟨by decide, ⟨by omega, by omega⟩, by omega, by omega⟩ (by simp [Ex.size]))
  rw [if_neg (by simpa using c3)]
  walk_at "tl"
  refine ⟨b, p, 3, rfl, by decide, X1, fun r2 j r20 r21 => ?_⟩
  walk_at "tl"
  refine ⟨b, p, 3, rfl, by decide, X1.bx, fun r3 k r30 r31 => ?_⟩
  rw [bx_bx, bx_bx]
  walk_at "tl"
  exact .of (h (.op "-" (.num r2) (.num r3)) k ⟨by decide, ⟨by omega, by omega⟩, by omega, by omega⟩ (by simp [Ex.size]))
def t__law_running (s__law_expression : TSp) (s__law_mixed : TSp) : TTS :=
  (tseq (tasg (tsl (tlst (tacons (ttup (tacons (tcon (.str "aa")) (tacons (tcon (.str "fun")) tanil))) (tacons (ttup (tacons (tcon (.str "bb")) (tacons (tcon (.str "number")) tanil))) tanil))) (tpart (top vsub (tcon (.int 2)) (tcb vlen (tacons (tvar 1) tanil)))) tnopart) (gname 2))
  (tseq (tasg (tcall sp__law_draw (tacons (tvar 0) (tacons (tcon (.int 8)) tanil))) (gname 3))
  (tseq (tifs (tbool (top veq (tvar 3) (tcon (.int 0))))
  (tret (tcall sp__law_great (tacons (tvar 0) tanil)))
  tnext)
  (tseq (tifs (tbool (top (vcmp fun i j => decide (i < j)) (tvar 3) (tcon (.int 4))))
  (tret (tcall s__law_mixed (tacons (tvar 0) (tacons (tvar 2) (tacons (tcon (.int 5)) tanil)))))
  tnext)
  (tret (tcall s__law_expression (tacons (tvar 0) (tacons (tvar 2) (tacons (tcon (.str "any")) (tacons (tlst (tacons (tcon (.int 12)) tanil)) tanil))))))))))

def sp__law_running : TSp := fun ts G R => ∃ b p bk, ts = [.ref b, encBk bk] ∧ HB b p G ∧ bk.length ≤ 2 ∧ ∀ (e : Ex) (i : Nat), e.ok → e.size ≤ 60 → R e.enc (bx b p i G)
theorem pure__law_running (ts : List T) (G : GH) (R : TK) (h : sp__law_running ts G R) : t__law_running (sp__law_expression 9) (sp__law_mixed 9) { nx := fun _ G' => WkR R .non G', rt := WkR R } (startT ["box", "book", "scope", "kind"] ts) G := by
  obtain ⟨b, p, bk, rfl, H, hb, h⟩ := h
  unfold t__law_running
  simp only [encBk]
  walk_at "tl"
  intro l hl
  refine ⟨_, gupd_same, fun s hs0 => ?_⟩
  obtain ⟨hsl, hs⟩ := ne_none hs0
  have ec : cutT [T.tup [T.str "aa", T.str "fun"], T.tup [T.str "bb", T.str "number"]] (some (2 - ((bk.map fun p => T.tup [T.str p.1, p.2.enc]).length : Int))) none = encSc (SCA.drop (2 - bk.length)) := by
    rw [List.length_map, show (2 : Int) - (bk.length : Int) = ((2 - bk.length : Nat) : Int) by omega, cut_drop]
    unfold encSc
    rw [List.map_drop]; rfl
  rw [ec]
  have H1 := H.new (o := .lst [T.tup [T.str "aa", T.str "fun"], T.tup [T.str "bb", T.str "number"]]) hl
  have E1 : Exb b G (gupd G l (.lst [T.tup [T.str "aa", T.str "fun"], T.tup [T.str "bb", T.str "number"]])) := Exb.refl.new hl
  have sA : ∀ q ∈ SCA, q.1 ∈ NMS := by decide
  have X2 := H1.xa (sc := SCA.drop (2 - bk.length)) hs0 fun q hq => sA q (List.mem_of_mem_drop hq)
  have E2 := E1.new (o := .lst (encSc (SCA.drop (2 - bk.length)))) hs0
  have lS : (SCA.drop (2 - bk.length)).length ≤ 2 := by rw [List.length_drop]; simp [SCA]
  refine ⟨b, p, 8, rfl, by decide, X2.hb, fun r i r0 r1 => ?_⟩
  have X3 := X2.bx i
  have E3 := E2.bx (p := p) i
  walk_at "tl"
  by_cases c0 : r = 0
  · rw [if_pos (by simpa using c0)]
    exact ⟨b, p, rfl, X3.hb, fun e j ok sz => (X3.hb.bx).fin (E3.bx j) fun j2 => h e j2 ok sz⟩
  rw [if_neg (by simpa using c0)]
  by_cases c4 : r < 4
  · rw [if_pos (by simpa using c4)]
    exact ⟨b, p, s, _, 5, rfl, X3, by omega, by decide, by decide, by decide, fun e j ok sz => (X3.hb.bx).fin (E3.bx j) fun j2 => h e j2 ok sz⟩
  rw [if_neg (by simpa using c4)]
  intro q hq
  refine call_exA (n := 12) X3 E3 hq (by omega) (by decide) (by decide) fun e G4 ok sz X4 E4 => ?_
  exact X4.hb.fin E4 fun j => h e j ok (by omega)
end TL

namespace TL
open PySem PySem.Spec PyProof.Rows L2
local macro_rules | `(tactic| walk_at "tl") => `(tactic| try simp +decide only [tseq, vint_bl, vneg_int, irevr1_eq, tpl, exists_ptup, vptuple_ref, tmethT, tandV, torV, tnotV, tasg, tifs, tbool, tret, tretN, tdrop, tnext, tcont, tbreak, gname, gtup_tup, gcons_cons, gnil_nil, GO.lst.injEq, GO.dK.injEq, top, tvar, tcon, tun, ttup, tlst, tacons, tanil, tcb, tcall, tife, tand, tor, tnot, tandV, torV, tnotV, tisN, tnotN, T.isNon, ttruth, truth_bl, truth_non, truth_int, truth_tup, truth_fl, tsl, tpart, tnopart, tsortk, tlc, tfor, iany, irev, irange1_eq, irange2_eq, items_tup, items_fl, items_ref, twipe, List.set, izip_eq, tput_eq, vlist_tup, tmeth, isL, mappend_ref, mextend_tup, trev, exists_eq, exists_eq', 
  vix_tup, vix_fl, veq_str, vne_str, veq_int, vne_int, vcmp_int, vadd_int, vaddI_int, vadd_tup, vadd_str, vsub_int, vI_int, vlen_tup, vlen_fl, vlen_str, vtuple_tup, vtuple_ref, vint_int, vsl_tup, cut_from1, atI0, atI1, atI2, atI3, taug,
  startT, List.map_cons, List.map_nil, List.length_cons, List.length_nil, List.cons_append, List.nil_append, List.getElem?_cons_zero, List.getElem?_cons_succ, List.set_cons_zero, List.set_cons_succ, List.replicate, Option.some.injEq, exists_eq_left', exists_eq_left, T.bl.injEq, T.int.injEq, T.str.injEq, T.tup.injEq, T.ref.injEq, if_true, if_false, ite_true, ite_false, true_and, and_true, reduceCtorEq, gupd_same, gupd_gupd, Option.map_some, Option.map_none, Option.isSome_some, Option.isSome_none, Bool.not_true, Bool.not_false, Bool.true_eq_false, Bool.false_eq_true, List.cons.injEq, decide_true, decide_false])
def MSG : List Str := ["unbound name", "not a function", "not a truth", "not a number", "not a record", "no such field"]
theorem len_msg : ∀ x ∈ MSG, (PyData.str x).shown.length ≤ 16 := by decide +kernel
def Rs.dat : Rs → PyData
  | .val => .tuple [.str "value"]
  | .large => .tuple [.str "large"]
  | .over => .tuple [.str "overflow"]
  | .stuck m => .tuple [.str "stuck", .str m]
  | .next e => .tuple [.str "next", e.dat]
theorem Rs.datOk {G : GH} : ∀ r : Rs, Dat G r.enc r.dat
  | .val => dat_tup (.cons (.str _) .nil)
  | .large => dat_tup (.cons (.str _) .nil)
  | .over => dat_tup (.cons (.str _) .nil)
  | .stuck m => dat_tup (.cons (.str _) (.cons (.str _) .nil))
  | .next e => dat_tup (.cons (.str _) (.cons e.datOk .nil))
theorem lookB_msg {x m : Str} : ∀ {bk : Bk}, lookB bk x = .stuck m → m ∈ MSG
  | [], h => by cases h; decide
  | p :: r, h => by
    rw [lookB] at h
    split at h
    · cases h
    · exact lookB_msg h
theorem field_msg {s : Bool} {l m : Str} {r : Ex} (h : fieldStep s l r = .stuck m) : m ∈ MSG := by
  unfold fieldStep at h
  split at h
  · cases h; decide
  · split at h
    · cases h
    · cases h; decide
theorem own_msg {bk : Bk} {e : Ex} {m : Str} (h : own bk e = .stuck m) : m ∈ MSG := by
  cases e with
  | nam y => exact lookB_msg h
  | app f a => cases f <;> first | (cases h; done) | (cases h; decide)
  | lt y a b => cases h
  | ite c a b => cases c <;> first | (cases h; done) | (cases h; decide)
  | op o a b =>
    cases a <;> first | (cases h; decide) | skip
    cases b <;> first | (cases h; decide) | skip
    simp only [own, counted] at h
    split at h
    · cases h
    · split at h
      · cases h
      · split at h <;> split at h <;> cases h
  | ext l a r => cases h; decide
  | sel l r => exact field_msg h
  | drp l r => exact field_msg h
  | _ => cases h
theorem Rs.shw {r : Rs} (h1 : ∀ m, r = .stuck m → m ∈ MSG) (h2 : ∀ e, r = .next e → Rw e) : Shw r.dat := by
  cases r with
  | val => exact ⟨by decide +kernel, by decide +kernel, by decide +kernel⟩
  | large => exact ⟨by decide +kernel, by decide +kernel, by decide +kernel⟩
  | over => exact ⟨by decide +kernel, by decide +kernel, by decide +kernel⟩
  | stuck m =>
    have := h1 m rfl
    exact (by decide +kernel : ∀ m ∈ MSG, (Rs.stuck m).dat.showable = true ∧ (Rs.stuck m).dat.depth ≤ 1200 ∧ (Rs.stuck m).dat.shown.length ≤ sizeLine) m this
  | next e =>
    obtain ⟨ok, sz, dp⟩ := h2 e rfl
    have f := fine_ex e ok
    refine ⟨?_, ?_, ?_⟩
    · show PyData.showable (.tuple [.str "next", e.dat]) = true
      simp only [PyData.showable, PyData.showableAll, f.sh, Bool.and_self, Bool.and_true]
    · show PyData.depth (.tuple [.str "next", e.dat]) ≤ 1200
      simp only [PyData.depth, PyData.depthAll]
      have := f.dp
      omega
    · refine shown_tup ?_
      have h1 : (PyData.str "next").shown.length ≤ 8 := by decide +kernel
      have h2 := shown_ex e ok
      simp only [List.map_cons, List.map_nil, List.sum_cons, List.sum_nil, List.length_cons, List.length_nil]
      unfold sizeLine
      omega
theorem Stepped.shw {bk : Bk} {e : Ex} {r : Rs} (hb : BkOk bk) (hr : Rw e) (h : Stepped bk e r) : Shw r.dat := by
  refine Rs.shw (fun m hm => ?_) (fun x hx => by subst hx; exact h.rw hb hr)
  subst hm
  unfold Stepped at h
  split at h
  · cases h
  · split at h
    · cases h
    · obtain ⟨tr, t, w, h⟩ := h
      cases ho : own bk t.1 with
      | stuck m2 => rw [ho] at h; cases h; exact own_msg ho
      | _ => rw [ho] at h; cases h
def bkDat (bk : Bk) : PyData := .tuple (bk.map fun p => .tuple [.str p.1, p.2.dat])
theorem bk_dat {G : GH} (bk : Bk) : Dat G (encBk bk) (bkDat bk) := by
  refine dat_tup ?_
  induction bk with
  | nil => exact .nil
  | cons p r ih => exact .cons (dat_tup (.cons (.str _) (.cons p.2.datOk .nil))) ih
theorem bk_shw {bk : Bk} (hb : BkOk bk) : Shw (bkDat bk) := by
  have one : ∀ p ∈ bk, Fine (.tuple [.str p.1, p.2.dat]) 2500 62 := fun p hp => by
    obtain ⟨h1, h2, h3⟩ := hb.ok p hp
    exact Fines.tup (k := p.2.dep) (.cons (fine_str p.1 h1) (Nat.zero_le _) (.cons (fine_ex p.2 h2) (Nat.le_refl _) .nil)) (by omega) (by have := p.2.dep_le; omega)
  have all : PyData.weightAll (bk.map fun p => .tuple [.str p.1, p.2.dat]) ≤ 2501 * bk.length := by
    have : ∀ r : Bk, (∀ p ∈ r, p ∈ bk) → PyData.weightAll (r.map fun p => .tuple [.str p.1, p.2.dat]) ≤ 2501 * r.length := by
      intro r
      induction r with
      | nil => intro _; exact Nat.le_refl _
      | cons p r ih =>
        intro h
        have h1 := ih fun q hq => h q (by simp [hq])
        have h2 := (one p (h p (by simp))).wt
        simp only [List.map_cons, PyData.weightAll, List.length_cons]
        omega
    exact this bk fun _ h => h
  have := hb.len
  refine (fine_tup (w := 2501 * bk.length) (k := 62) (fun d hd => ?_) all).shw (by omega) (by omega)
  obtain ⟨p, hp, rfl⟩ := List.mem_map.mp hd
  exact ⟨_, one p hp⟩
theorem vne_self {z : Str} {G : GH} {R : TK} (h : R (.bl false) G) : vne (.str z) (.str z) G R := by rw [vne_str, decide_eq_true rfl]; exact h
theorem same_at {G : GH} {R : TK} {x y : T} {d : PyData} (hx : Dat G x d) (hy : Dat G y d) (sh : Shw d) (h : R (.bl true) G) : sp__law_same [x, y] G R :=
  ⟨x, y, d, d, rfl, hx, sh, hy, sh, by rw [decide_eq_true rfl]; exact h⟩
theorem Rw.small {e : Ex} (ok : e.ok) (h : e.size ≤ 60) : Rw e := ⟨ok, by omega, by have := e.dep_le; omega⟩
theorem shw_bl (c : Bool) : Shw (.bool c) := by cases c <;> exact ⟨by decide +kernel, by decide +kernel, by decide +kernel⟩
end TL

namespace TL
open PySem PySem.Spec PyProof.Rows L2
local macro_rules | `(tactic| walk_at "tl") => `(tactic| try simp +decide only [tseq, vint_bl, vneg_int, irevr1_eq, tpl, exists_ptup, vptuple_ref, tmethT, tandV, torV, tnotV, tasg, tifs, tbool, tret, tretN, tdrop, tnext, tcont, tbreak, gname, gtup_tup, gcons_cons, gnil_nil, GO.lst.injEq, GO.dK.injEq, top, tvar, tcon, tun, ttup, tlst, tacons, tanil, tcb, tcall, tife, tand, tor, tnot, tandV, torV, tnotV, tisN, tnotN, T.isNon, ttruth, truth_bl, truth_non, truth_int, truth_tup, truth_fl, tsl, tpart, tnopart, tsortk, tlc, tfor, iany, irev, irange1_eq, irange2_eq, items_tup, items_fl, items_ref, twipe, List.set, izip_eq, tput_eq, vlist_tup, tmeth, isL, mappend_ref, mextend_tup, trev, exists_eq, exists_eq', 
  vix_tup, vix_fl, veq_str, vne_str, veq_int, vne_int, vcmp_int, vadd_int, vaddI_int, vadd_tup, vadd_str, vsub_int, vI_int, vlen_tup, vlen_fl, vlen_str, vtuple_tup, vtuple_ref, vint_int, vsl_tup, cut_from1, atI0, atI1, atI2, atI3, taug,
  startT, List.map_cons, List.map_nil, List.length_cons, List.length_nil, List.cons_append, List.nil_append, List.getElem?_cons_zero, List.getElem?_cons_succ, List.set_cons_zero, List.set_cons_succ, List.replicate, Option.some.injEq, exists_eq_left', exists_eq_left, T.bl.injEq, T.int.injEq, T.str.injEq, T.tup.injEq, T.ref.injEq, if_true, if_false, ite_true, ite_false, true_and, and_true, reduceCtorEq, gupd_same, gupd_gupd, Option.map_some, Option.map_none, Option.isSome_some, Option.isSome_none, Bool.not_true, Bool.not_false, Bool.true_eq_false, Bool.false_eq_true, List.cons.injEq, decide_true, decide_false])
noncomputable def stepF (bk : Bk) (e : Ex) : Rs := Classical.choose (Stepped.ex bk e)
theorem stepF_ok (bk : Bk) (e : Ex) : Stepped bk e (stepF bk e) := Classical.choose_spec (Stepped.ex bk e)
def Rs.word : Rs → Str
  | .val => "value"
  | .large => "large"
  | .over => "overflow"
  | .stuck _ => "stuck"
  | .next _ => "more"
def Rs.isNext : Rs → Option Ex
  | .next e => some e
  | _ => none
abbrev Rn := Str × Nat × Ex
noncomputable def runF (bk : Bk) : Nat → Ex → Rn
  | 0, e => ((stepF bk e).word, 0, e)
  | n + 1, e => match (stepF bk e).isNext with
    | some y => ((runF bk n y).1, (runF bk n y).2.1 + 1, (runF bk n y).2.2)
    | none => ((stepF bk e).word, 0, e)
def encR (r : Rn) : T := .tup [.str r.1, .int (r.2.1 : Int), r.2.2.enc]
theorem runF_le (bk : Bk) : ∀ (n : Nat) (e : Ex), (runF bk n e).2.1 ≤ n
  | 0, e => Nat.le_refl _
  | n + 1, e => by
    unfold runF
    cases h : (stepF bk e).isNext with
    | none => simp
    | some y => have := runF_le bk n y; simp only; omega
theorem runF_stop {bk : Bk} {e : Ex} (h : (stepF bk e).isNext = none) : ∀ n, runF bk n e = ((stepF bk e).word, 0, e)
  | 0 => rfl
  | n + 1 => by rw [runF, h]
theorem runF_go {bk : Bk} {e y : Ex} (h : (stepF bk e).isNext = some y) (n : Nat) : runF bk (n + 1) e = ((runF bk n y).1, (runF bk n y).2.1 + 1, (runF bk n y).2.2) := by rw [runF, h]
theorem runF_two (bk : Bk) : ∀ (n : Nat) (e : Ex) (m : Nat), n ≤ m → runF bk m e = ((runF bk (m - (runF bk n e).2.1) (runF bk n e).2.2).1, (runF bk n e).2.1 + (runF bk (m - (runF bk n e).2.1) (runF bk n e).2.2).2.1, (runF bk (m - (runF bk n e).2.1) (runF bk n e).2.2).2.2)
  | 0, e, m, _ => by
    have : runF bk 0 e = ((stepF bk e).word, 0, e) := rfl
    rw [this]; simp
  | n + 1, e, m, hm => by
    cases h : (stepF bk e).isNext with
    | none => rw [runF_stop h (n + 1)]; simp
    | some y =>
      obtain ⟨m, rfl⟩ : ∃ k, m = k + 1 := ⟨m - 1, by omega⟩
      have ih := runF_two bk n y m (by omega)
      have hle := runF_le bk n y
      rw [runF_go h, runF_go h, ih]
      simp only [Nat.add_sub_add_right]
      have e2 : m - ((runF bk n y).2.1) = m - (runF bk n y).2.1 := rfl
      generalize runF bk (m - (runF bk n y).2.1) (runF bk n y).2.2 = q
      obtain ⟨a, b, c⟩ := q
      simp only [Prod.mk.injEq, true_and, and_true]
      omega
theorem stepF_rw {bk : Bk} {e y : Ex} (hb : BkOk bk) (hr : Rw e) (h : (stepF bk e).isNext = some y) : Rw y := by
  have s := stepF_ok bk e
  cases hs : stepF bk e with
  | next z =>
    rw [hs] at h s
    cases h
    exact s.rw hb hr
  | _ => rw [hs] at h; cases h
theorem runF_rw {bk : Bk} (hb : BkOk bk) : ∀ (n : Nat) (e : Ex), Rw e → Rw (runF bk n e).2.2
  | 0, e, h => h
  | n + 1, e, h => by
    cases hs : (stepF bk e).isNext with
    | none => rw [runF_stop hs]; exact h
    | some y => rw [runF_go hs]; exact runF_rw hb n y (stepF_rw hb h hs)
def WRD : List Str := ["value", "large", "overflow", "stuck", "more"]
theorem word_in (r : Rs) : r.word ∈ WRD := by cases r <;> simp only [Rs.word] <;> decide
theorem runF_word (bk : Bk) : ∀ (n : Nat) (e : Ex), (runF bk n e).1 ∈ WRD
  | 0, e => word_in _
  | n + 1, e => by
    cases hs : (stepF bk e).isNext with
    | none => rw [runF_stop hs]; exact word_in _
    | some y => rw [runF_go hs]; exact runF_word bk n y
def datR (r : Rn) : PyData := .tuple [.str r.1, .int (r.2.1 : Int), r.2.2.dat]
theorem datR_ok {G : GH} (r : Rn) : Dat G (encR r) (datR r) := dat_tup (.cons (.str _) (.cons (.int _) (.cons r.2.2.datOk .nil)))
theorem shw_R {r : Rn} (hw : r.1 ∈ WRD) (hn : r.2.1 ≤ 1000) (hr : Rw r.2.2) : Shw (datR r) := by
  obtain ⟨ok, sz, dp⟩ := hr
  have f := fine_ex _ ok
  have fi := fine_int (i := (r.2.1 : Int)) (by omega) (by omega)
  refine ⟨?_, ?_, ?_⟩
  · have fs := fi.sh
    simp only [PyData.showable] at fs
    simp only [datR, PyData.showable, PyData.showableAll, f.sh, fs, Bool.and_self, Bool.and_true]
  · simp only [datR, PyData.depth, PyData.depthAll]
    have := f.dp
    omega
  · refine shown_tup ?_
    have h1 : (PyData.str r.1).shown.length ≤ 16 := (by decide +kernel : ∀ x ∈ WRD, (PyData.str x).shown.length ≤ 16) r.1 hw
    have h2 : (PyData.shown (.int (r.2.1 : Int))).length ≤ 13 := PyData.shown_int_le (by omega)
    have h3 := shown_ex _ ok
    simp only [List.map_cons, List.map_nil, List.sum_cons, List.sum_nil, List.length_cons, List.length_nil]
    unfold sizeLine
    omega
def t_run : TTS :=
  (tseq (tasg (tcon (.int 0)) (gname 3))
  (tseq (tasg (tcall sp_step (tacons (tvar 0) (tacons (tvar 1) tanil))) (gname 4))
  (tseq (twhile (tand (tbool (top veq (top vix (tvar 4) (tcon (.int 0))) (tcon (.str "next")))) (tbool (top (vcmp fun i j => decide (i < j)) (tvar 3) (tvar 2))))
  (tseq (tasg (top vix (tvar 4) (tcon (.int 1))) (gname 0))
  (tseq (taug 3 (tcon (.int 1)) vaddI)
  (tasg (tcall sp_step (tacons (tvar 0) (tacons (tvar 1) tanil))) (gname 4)))))
  (tseq (tasg (tife (tbool (top veq (top vix (tvar 4) (tcon (.int 0))) (tcon (.str "next")))) (tcon (.str "more")) (top vix (tvar 4) (tcon (.int 0)))) (gname 5))
  (tret (ttup (tacons (tvar 5) (tacons (tvar 3) (tacons (tvar 0) tanil)))))))))

def sp_run : TSp := fun ts G R => ∃ (e : Ex) (bk : Bk) (n : Nat), ts = [e.enc, encBk bk, .int (n : Int)] ∧ BkOk bk ∧ Rw e ∧ R (encR (runF bk n e)) G
theorem pure_run (ts : List T) (G : GH) (R : TK) (h : sp_run ts G R) : t_run { nx := fun _ G' => WkR R .non G', rt := WkR R } (startT ["expression", "book", "most", "made", "found", "came_to"] ts) G := by
  obtain ⟨e, bk, n, rfl, hb, hr, h⟩ := h
  have zz : (2 ^ 24 : Nat) = sizeLine := rfl
  have call : ∀ (c : Ex) (Q : TK) (G' : GH), Rw c → Q (stepF bk c).enc G' → sp_step [c.enc, encBk bk] G' Q := fun c Q G' hc hq => ⟨c, bk, _, rfl, hc.ok, by have := hc.sz; omega, stepF_ok bk c, hq⟩
  unfold t_run
  walk_at "tl"
  refine call e _ _ hr ?_
  walk_at "tl"
  refine ⟨fun m st G' => ∃ (c : Ex) (k : Nat), st = [some c.enc, some (encBk bk), some (.int (n : Int)), some (.int (k : Int)), some (stepF bk c).enc, none] ∧ G' = G ∧ m = n - k ∧ k ≤ n ∧ Rw c ∧ runF bk n e = ((runF bk (n - k) c).1, k + (runF bk (n - k) c).2.1, (runF bk (n - k) c).2.2), ⟨_, e, 0, rfl, rfl, rfl, Nat.zero_le _, hr, by simp⟩, ?_⟩
  rintro m st G' ⟨c, k, rfl, rfl, rfl, hk, hc, he⟩
  walk_at "tl"
  cases hs : stepF bk c with
  | next y =>
    have hn : (stepF bk c).isNext = some y := by rw [hs]; rfl
    simp only [Rs.enc]
    walk_at "tl"
    by_cases hkn : k < n
    · have e2 : decide ((k : Int) < (n : Int)) = true := decide_eq_true (by omega)
      rw [e2]
      walk_at "tl"
      have hy := stepF_rw hb hc hn
      refine call y _ _ hy ?_
      walk_at "tl"
      refine ⟨n - (k + 1), by omega, .mk ⟨y, k + 1, rfl, rfl, rfl, by omega, hy, ?_⟩ (.same (.same (.same (.same (.same (.none .nil)))))) .refl⟩
      rw [he, show n - k = (n - (k + 1)) + 1 by omega, runF_go hn]
      simp only [Prod.mk.injEq, true_and, and_true]
      omega
    · have e2 : decide ((k : Int) < (n : Int)) = false := decide_eq_false (by omega)
      rw [e2]
      walk_at "tl"
      have : n - k = 0 := by omega
      rw [this] at he
      have h0 : runF bk 0 c = ((stepF bk c).word, 0, c) := rfl
      rw [h0, hs] at he
      rw [he] at h
      exact .of h
  | _ =>
    have hn : (stepF bk c).isNext = none := by rw [hs]; rfl
    rw [runF_stop hn, hs] at he
    rw [he] at h
    simp only [Rs.enc]
    walk_at "tl"
    exact .of h
def t__law_run (s__law_stepped : TSp) : TTS :=
  (tseq (tfor (irange1 (tacons (top vadd (tvar 2) (tcon (.int 1))) tanil)) (gname 3)
  (tseq (tasg (tcall s__law_stepped (tacons (tvar 0) (tacons (tvar 1) tanil))) (gname 4))
  (tseq (tifs (tbool (top vne (top vix (tvar 4) (tcon (.int 0))) (tcon (.str "next"))))
  (tret (ttup (tacons (top vix (tvar 4) (tcon (.int 0))) (tacons (tvar 3) (tacons (tvar 0) tanil)))))
  tnext)
  (tseq (tifs (tbool (top veq (tvar 3) (tvar 2)))
  (tret (ttup (tacons (tcon (.str "more")) (tacons (tvar 3) (tacons (tvar 0) tanil)))))
  tnext)
  (tasg (top vix (tvar 4) (tcon (.int 1))) (gname 0))))))
  (tret (ttup (tacons (tcon (.str "")) (tacons (tcon (.int 0)) (tacons (tvar 0) tanil))))))

def sp__law_run : TSp := fun ts G R => ∃ (e : Ex) (bk : Bk) (n : Nat), ts = [e.enc, encBk bk, .int (n : Int)] ∧ n ≤ 1000 ∧ BkOk bk ∧ Rw e ∧ R (encR (runF bk n e)) G
theorem pure__law_run (ts : List T) (G : GH) (R : TK) (h : sp__law_run ts G R) : t__law_run sp__law_stepped { nx := fun _ G' => WkR R .non G', rt := WkR R } (startT ["row", "book", "most", "made", "told"] ts) G := by
  obtain ⟨e, bk, n, rfl, hn1, hb, hr, h⟩ := h
  have call : ∀ (c : Ex) (Q : TK) (G' : GH), Rw c → Q (stepF bk c).enc G' → sp__law_stepped [c.enc, encBk bk] G' Q := fun c Q G' hc hq => ⟨c, bk, _, rfl, hc.ok, by have := hc.sz; omega, by have := hc.dp; omega, hb.len, stepF_ok bk c, hq⟩
  unfold t__law_run
  walk_at "tl"
  refine rng1_lit (n + 1) (by omega) (by omega) ?_
  refine for_inv (α := Nat) (fun i => T.int (i : Int)) (fun xs st G' => ∃ (c : Ex) (k : Nat), xs = List.range' k (n + 1 - k) ∧ st = [some c.enc, some (encBk bk), some (.int (n : Int)), none, none] ∧ G' = G ∧ k ≤ n ∧ Rw c ∧ runF bk n e = ((runF bk (n - k) c).1, k + (runF bk (n - k) c).2.1, (runF bk (n - k) c).2.2)) ?_ ?_ (List.range (n + 1)) _ _ ⟨e, 0, by rw [List.range_eq_range']; simp, rfl, rfl, Nat.zero_le _, hr, by simp⟩
  · rintro i xs st G' N hN ⟨c, k, hx, rfl, rfl, hk, hc, he⟩
    refine ⟨trivial, ?_⟩
    obtain ⟨rfl, rfl⟩ : i = k ∧ xs = List.range' (k + 1) (n + 1 - (k + 1)) := by
      have e1 : n + 1 - k = (n + 1 - (k + 1)) + 1 := by omega
      rw [e1, List.range'_succ] at hx
      injection hx with h1 h2
      exact ⟨h1, h2⟩
    walk_at "tl"
    refine call c _ _ hc ?_
    walk_at "tl"
    cases hs : stepF bk c with
    | next y =>
      have hnx : (stepF bk c).isNext = some y := by rw [hs]; rfl
      simp only [Rs.enc]
      walk_at "tl"
      by_cases hin : i = n
      · have e2 : decide ((i : Int) = (n : Int)) = true := decide_eq_true (by omega)
        rw [e2]
        walk_at "tl"
        have : n - i = 0 := by omega
        rw [this] at he
        have h0 : runF bk 0 c = ((stepF bk c).word, 0, c) := rfl
        rw [h0, hs] at he
        rw [he] at h
        exact .of h
      · have e2 : decide ((i : Int) = (n : Int)) = false := decide_eq_false (by omega)
        rw [e2]
        walk_at "tl"
        refine hN _ _ (.mk ⟨y, i + 1, rfl, rfl, rfl, by omega, stepF_rw hb hc hnx, ?_⟩ (.same (.same (.same (.none (.none .nil))))) .refl)
        rw [he, show n - i = (n - (i + 1)) + 1 by omega, runF_go hnx]
        simp only [Prod.mk.injEq, true_and, and_true]
        omega
    | _ =>
      have hnx : (stepF bk c).isNext = none := by rw [hs]; rfl
      rw [runF_stop hnx, hs] at he
      rw [he] at h
      simp only [Rs.enc]
      walk_at "tl"
      exact .of h
  · rintro st G' ⟨c, k, hx, rfl, rfl, hk, hc, he⟩
    have e1 : n + 1 - k = (n + 1 - (k + 1)) + 1 := by omega
    rw [e1, List.range'_succ] at hx
    cases hx
def t_law (s__law_book : TSp) (s__law_running : TSp) (s__law_run : TSp) : TTS :=
  (tseq (tasg (tlst (tacons (tcall sp__law_digits (tacons (tvar 0) (tacons (tcon (.int 0)) (tacons (tcon (.int 50)) tanil)))) (tacons (tcon (.int 0)) tanil))) (gname 1))
  (tseq (tfor (irange1 (tacons (tcon (.int 3)) tanil)) (gname 2)
  (tseq (tasg (tcall s__law_book (tacons (tvar 1) tanil)) (gname 3))
  (tseq (tasg (tcall s__law_running (tacons (tvar 1) (tacons (tvar 3) tanil))) (gname 4))
  (tseq (tasg (tcall sp__law_pick (tacons (tvar 1) (tacons (tlst (tacons (tcon (.int 0)) (tacons (tcon (.int 1)) (tacons (tcon (.int 2)) (tacons (tcon (.int 5)) (tacons (tcon (.int 12)) (tacons (tcon (.int 40)) tanil))))))) tanil))) (gname 5))
  (tseq (tasg (tcall s__law_run (tacons (tvar 4) (tacons (tvar 3) (tacons (tvar 5) tanil)))) (gname 6))
  (tseq (tifs (tnot (ttruth (tcall sp__law_same (tacons (tcall sp_run (tacons (tvar 4) (tacons (tvar 3) (tacons (tvar 5) tanil)))) (tacons (tvar 6) tanil)))))
  (tret (tcon (.bl false)))
  tnext)
  (tseq (tasg (tcall sp__law_draw (tacons (tvar 1) (tacons (top vadd (tvar 5) (tcon (.int 1))) tanil))) (gname 7))
  (tseq (tasg (tcall sp_run (tacons (tvar 4) (tacons (tvar 3) (tacons (tvar 7) tanil)))) (gname 8))
  (tseq (tasg (tcall sp_run (tacons (top vix (tvar 8) (tcon (.int 2))) (tacons (tvar 3) (tacons (top vsub (tvar 5) (top vix (tvar 8) (tcon (.int 1)))) tanil)))) (gname 9))
  (tifs (tnot (ttruth (tcall sp__law_same (tacons (ttup (tacons (top vix (tvar 9) (tcon (.int 0))) (tacons (top vadd (top vix (tvar 8) (tcon (.int 1))) (top vix (tvar 9) (tcon (.int 1)))) (tacons (top vix (tvar 9) (tcon (.int 2))) tanil)))) (tacons (tvar 6) tanil)))))
  (tret (tcon (.bl false)))
  tnext))))))))))
  (tret (tcon (.bl true)))))

def sp_law16 : TSp := fun ts G R => ∃ (x : T) (ns : List Int), ts = [x] ∧ Scr G x ns ∧ ∀ G', R (.bl true) G'
theorem pure_law16 (ts : List T) (G : GH) (R : TK) (h : sp_law16 ts G R) : t_law sp__law_book sp__law_running sp__law_run { nx := fun _ G' => WkR R .non G', rt := WkR R } (startT ["script", "box", "turn", "book", "row", "most", "due", "first", "told", "rest"] ts) G := by
  obtain ⟨x, ns, rfl, hx, h⟩ := h
  have zz : (2 ^ 24 : Nat) = sizeLine := rfl
  unfold t_law
  walk_at "tl"
  refine ⟨x, ns, 0, 50, rfl, hx, by decide, by decide, fun p ds hp => ?_⟩
  walk_at "tl"
  intro b hb
  have hbp : p ≠ b := Ne.symm (fresh_ne hb gupd_same)
  walk_at "tl"
  have H : HB b p (gupd (gupd G p (.lst (intsT ds))) b (.lst [.ref p, .int 0])) := ⟨⟨0, gupd_same⟩, ⟨ds, by rw [gupd_ne hbp, gupd_same]⟩, hbp⟩
  refine rng1_lit 3 rfl (by decide) ?_
  refine for_inv (α := Nat) (fun i => T.int (i : Int)) (fun _ st G' => st = [some x, some (.ref b), none, none, none, none, none, none, none, none] ∧ HB b p G') ?_ ?_ (List.range 3) _ _ ⟨rfl, H⟩
  · rintro i0 xs0 st G' N hN ⟨rfl, H⟩
    refine ⟨trivial, ?_⟩
    walk_at "tl"
    refine ⟨b, p, rfl, H, fun bk i1 hbk hb2 => ?_⟩
    have H1 := H.bx (i := i1)
    walk_at "tl"
    refine ⟨b, p, bk, rfl, H1, hb2, fun e0 i2 ok0 sz0 => ?_⟩
    rw [bx_bx]
    have H2 := H.bx (i := i2)
    have hr0 : Rw e0 := .small ok0 sz0
    walk_at "tl"
    intro q hq
    refine ⟨b, p, q, _, rfl, H2.new hq, gupd_same, H2.neb hq, by simp, fun t ht i3 => ?_⟩
    obtain ⟨n, rfl, hn⟩ : ∃ n : Nat, t = .int (n : Int) ∧ n ≤ 40 := by
      simp only [List.mem_cons, List.not_mem_nil, or_false] at ht
      rcases ht with rfl | rfl | rfl | rfl | rfl | rfl
      · exact ⟨0, rfl, by decide⟩
      · exact ⟨1, rfl, by decide⟩
      · exact ⟨2, rfl, by decide⟩
      · exact ⟨5, rfl, by decide⟩
      · exact ⟨12, rfl, by decide⟩
      · exact ⟨40, rfl, by decide⟩
    have H3 := (H2.new (o := .lst [.int 0, .int 1, .int 2, .int 5, .int 12, .int 40]) hq).bx (i := i3)
    walk_at "tl"
    refine ⟨e0, bk, n, rfl, by omega, hbk, hr0, ?_⟩
    have l0 := runF_le bk n e0
    have w0 := runF_word bk n e0
    have r0 := runF_rw hbk n e0 hr0
    walk_at "tl"
    refine ⟨e0, bk, n, rfl, hbk, hr0, ?_⟩
    refine same_at (datR_ok _) (datR_ok _) (shw_R w0 (by omega) r0) ⟨true, rfl, ?_⟩
    walk_at "tl"
    refine ⟨b, p, _, rfl, by omega, H3, fun r i4 hr1 hr2 => ?_⟩
    have H4 := H3.bx (i := i4)
    obtain ⟨m, rfl⟩ : ∃ m : Nat, r = m := ⟨r.toNat, by omega⟩
    have l1 := runF_le bk m e0
    have r1 := runF_rw hbk m e0 hr0
    have two := runF_two bk m e0 n (by omega)
    walk_at "tl"
    refine ⟨e0, bk, m, rfl, hbk, hr0, ?_⟩
    simp only [encR] at *
    walk_at "tl"
    refine ⟨_, bk, n - (runF bk m e0).2.1, by rw [show ((n - (runF bk m e0).2.1 : Nat) : Int) = (n : Int) - ((runF bk m e0).2.1 : Int) by omega], hbk, r1, ?_⟩
    walk_at "tl"
    have e1 : (T.tup [.str (runF bk (n - (runF bk m e0).2.1) (runF bk m e0).2.2).1, .int (((runF bk m e0).2.1 : Int) + ((runF bk (n - (runF bk m e0).2.1) (runF bk m e0).2.2).2.1 : Int)), (runF bk (n - (runF bk m e0).2.1) (runF bk m e0).2.2).2.2.enc]) = encR (runF bk n e0) := by
      rw [two]
      simp only [encR]
      rw [Int.natCast_add]
    simp only [encR]
    walk_at "tl"
    rw [e1]
    refine same_at (datR_ok _) (datR_ok (runF bk n e0)) (shw_R w0 (by omega) r0) ⟨true, rfl, ?_⟩
    walk_at "tl"
    exact hN _ _ (.mk ⟨rfl, H4⟩ (.same (.same (.none (.none (.none (.none (.none (.none (.none (.none .nil)))))))))) .refl)
  · rintro st G' ⟨rfl, X⟩
    refine ⟨trivial, ?_⟩
    walk_at "tl"
    exact .of (h _)
end TL

namespace TL
open PySem PySem.Spec PyProof.Rows L2
local macro_rules | `(tactic| walk_at "len") => `(tactic| (intro ts G R h; repeat' (first | (rw [And.left h]; rfl) | (refine Or.elim h (fun h => ?_) (fun h => ?_)) | (refine Exists.elim h fun _ h => ?_))))
abbrev topS (i : Nat) : Stmt := PySem.Challenge.pw_rowtypes_k16_runs_told.main.body.getD i (.Pass ⟨0, 0, 0, 0⟩)
abbrev st_children : Stmt := topS 2
abbrev N_children : List Str := ["expression"]
abbrev p_children : List Str := ["expression"]
theorem sc_children : FnScope N_children p_children (defScope st_children) := ⟨rfl, rfl, rfl, by decide +kernel, rfl, by decide +kernel, by decide +kernel⟩

abbrev st_with_children : Stmt := topS 3
abbrev N_with_children : List Str := ["node", "parts"]
abbrev p_with_children : List Str := ["node", "parts"]
theorem sc_with_children : FnScope N_with_children p_with_children (defScope st_with_children) := ⟨rfl, rfl, rfl, by decide +kernel, rfl, by decide +kernel, by decide +kernel⟩

abbrev st_nodes : Stmt := topS 4
abbrev N_nodes : List Str := ["expression", "found", "waiting", "node"]
abbrev p_nodes : List Str := ["expression"]
theorem sc_nodes : FnScope N_nodes p_nodes (defScope st_nodes) := ⟨rfl, rfl, rfl, by decide +kernel, rfl, by decide +kernel, by decide +kernel⟩

abbrev st_child_numbers : Stmt := topS 5
abbrev N_child_numbers : List Str := ["expression", "found", "waiting", "parts", "number", "_"]
abbrev p_child_numbers : List Str := ["expression"]
theorem sc_child_numbers : FnScope N_child_numbers p_child_numbers (defScope st_child_numbers) := ⟨rfl, rfl, rfl, by decide +kernel, rfl, by decide +kernel, by decide +kernel⟩

abbrev st_brought_names : Stmt := topS 6
abbrev N_brought_names : List Str := ["node", "kind", "_"]
abbrev p_brought_names : List Str := ["node"]
theorem sc_brought_names : FnScope N_brought_names p_brought_names (defScope st_brought_names) := ⟨rfl, rfl, rfl, by decide +kernel, rfl, by decide +kernel, by decide +kernel⟩

abbrev st__value_marks : Stmt := topS 13
abbrev N__value_marks : List Str := ["parts", "inner", "marks", "part", "number", "field", "record"]
abbrev p__value_marks : List Str := ["parts", "inner"]
theorem sc__value_marks : FnScope N__value_marks p__value_marks (defScope st__value_marks) := ⟨rfl, rfl, rfl, by decide +kernel, rfl, by decide +kernel, by decide +kernel⟩

abbrev st_put_in : Stmt := topS 14
abbrev N_put_in : List Str := ["expression", "name", "given", "built", "node", "covered", "inner", "_"]
abbrev p_put_in : List Str := ["expression", "name", "given"]
theorem sc_put_in : FnScope N_put_in p_put_in (defScope st_put_in) := ⟨rfl, rfl, rfl, by decide +kernel, rfl, by decide +kernel, by decide +kernel⟩

abbrev st__covered_nodes : Stmt := topS 15
abbrev N__covered_nodes : List Str := ["expression", "name", "found", "waiting", "node", "covered", "inner", "child", "names"]
abbrev p__covered_nodes : List Str := ["expression", "name"]
theorem sc__covered_nodes : FnScope N__covered_nodes p__covered_nodes (defScope st__covered_nodes) := ⟨rfl, rfl, rfl, by decide +kernel, rfl, by decide +kernel, by decide +kernel⟩

abbrev st_step : Stmt := topS 16
abbrev N_step : List Str := ["expression", "book", "parts", "inner", "marks", "way", "found", "made", "at"]
abbrev p_step : List Str := ["expression", "book"]
theorem sc_step : FnScope N_step p_step (defScope st_step) := ⟨rfl, rfl, rfl, by decide +kernel, rfl, by decide +kernel, by decide +kernel⟩

abbrev st__way_to_step : Stmt := topS 17
abbrev N__way_to_step : List Str := ["parts", "inner", "marks", "way", "waiting", "needed", "child"]
abbrev p__way_to_step : List Str := ["parts", "inner", "marks"]
theorem sc__way_to_step : FnScope N__way_to_step p__way_to_step (defScope st__way_to_step) := ⟨rfl, rfl, rfl, by decide +kernel, rfl, by decide +kernel, by decide +kernel⟩

abbrev st__with_child : Stmt := topS 18
abbrev N__with_child : List Str := ["node", "at", "child", "inner"]
abbrev p__with_child : List Str := ["node", "at", "child"]
theorem sc__with_child : FnScope N__with_child p__with_child (defScope st__with_child) := ⟨rfl, rfl, rfl, by decide +kernel, rfl, by decide +kernel, by decide +kernel⟩

abbrev st__own_step : Stmt := topS 19
abbrev N__own_step : List Str := ["node", "book", "kind"]
abbrev p__own_step : List Str := ["node", "book"]
theorem sc__own_step : FnScope N__own_step p__own_step (defScope st__own_step) := ⟨rfl, rfl, rfl, by decide +kernel, rfl, by decide +kernel, by decide +kernel⟩

abbrev st__definition : Stmt := topS 20
abbrev N__definition : List Str := ["name", "book", "defined", "expression"]
abbrev p__definition : List Str := ["name", "book"]
theorem sc__definition : FnScope N__definition p__definition (defScope st__definition) := ⟨rfl, rfl, rfl, by decide +kernel, rfl, by decide +kernel, by decide +kernel⟩

abbrev st__called : Stmt := topS 21
abbrev N__called : List Str := ["function", "argument", "body"]
abbrev p__called : List Str := ["function", "argument"]
theorem sc__called : FnScope N__called p__called (defScope st__called) := ⟨rfl, rfl, rfl, by decide +kernel, rfl, by decide +kernel, by decide +kernel⟩

abbrev st__chosen : Stmt := topS 22
abbrev N__chosen : List Str := ["node"]
abbrev p__chosen : List Str := ["node"]
theorem sc__chosen : FnScope N__chosen p__chosen (defScope st__chosen) := ⟨rfl, rfl, rfl, by decide +kernel, rfl, by decide +kernel, by decide +kernel⟩

abbrev st__counted : Stmt := topS 23
abbrev N__counted : List Str := ["sign", "one", "other", "result"]
abbrev p__counted : List Str := ["sign", "one", "other"]
theorem sc__counted : FnScope N__counted p__counted (defScope st__counted) := ⟨rfl, rfl, rfl, by decide +kernel, rfl, by decide +kernel, by decide +kernel⟩

abbrev st__field_step : Stmt := topS 24
abbrev N__field_step : List Str := ["kind", "label", "record", "ahead", "rest", "without", "field"]
abbrev p__field_step : List Str := ["kind", "label", "record"]
theorem sc__field_step : FnScope N__field_step p__field_step (defScope st__field_step) := ⟨rfl, rfl, rfl, by decide +kernel, rfl, by decide +kernel, by decide +kernel⟩

abbrev st_run : Stmt := topS 25
abbrev N_run : List Str := ["expression", "book", "most", "made", "found", "came_to"]
abbrev p_run : List Str := ["expression", "book", "most"]
theorem sc_run : FnScope N_run p_run (defScope st_run) := ⟨rfl, rfl, rfl, by decide +kernel, rfl, by decide +kernel, by decide +kernel⟩

abbrev st__law_cell : Stmt := topS 27
abbrev N__law_cell : List Str := ["script", "k"]
abbrev p__law_cell : List Str := ["script", "k"]
theorem sc__law_cell : FnScope N__law_cell p__law_cell (defScope st__law_cell) := ⟨rfl, rfl, rfl, by decide +kernel, rfl, by decide +kernel, by decide +kernel⟩

abbrev st__law_same : Stmt := topS 28
abbrev N__law_same : List Str := ["actual", "due"]
abbrev p__law_same : List Str := ["actual", "due"]
theorem sc__law_same : FnScope N__law_same p__law_same (defScope st__law_same) := ⟨rfl, rfl, rfl, by decide +kernel, rfl, by decide +kernel, by decide +kernel⟩

abbrev st__law_digits : Stmt := topS 29
abbrev N__law_digits : List Str := ["script", "first", "last", "digits", "k", "cell", "turn", "seed"]
abbrev p__law_digits : List Str := ["script", "first", "last"]
theorem sc__law_digits : FnScope N__law_digits p__law_digits (defScope st__law_digits) := ⟨rfl, rfl, rfl, by decide +kernel, rfl, by decide +kernel, by decide +kernel⟩

abbrev st__law_draw : Stmt := topS 30
abbrev N__law_draw : List Str := ["box", "many", "at"]
abbrev p__law_draw : List Str := ["box", "many"]
theorem sc__law_draw : FnScope N__law_draw p__law_draw (defScope st__law_draw) := ⟨rfl, rfl, rfl, by decide +kernel, rfl, by decide +kernel, by decide +kernel⟩

abbrev st__law_pick : Stmt := topS 31
abbrev N__law_pick : List Str := ["box", "rows"]
abbrev p__law_pick : List Str := ["box", "rows"]
theorem sc__law_pick : FnScope N__law_pick p__law_pick (defScope st__law_pick) := ⟨rfl, rfl, rfl, by decide +kernel, rfl, by decide +kernel, by decide +kernel⟩

abbrev st__law_expression : Stmt := topS 32
abbrev N__law_expression : List Str := ["box", "scope", "kind", "left", "draw", "names", "pair"]
abbrev p__law_expression : List Str := ["box", "scope", "kind", "left"]
theorem sc__law_expression : FnScope N__law_expression p__law_expression (defScope st__law_expression) := ⟨rfl, rfl, rfl, by decide +kernel, rfl, by decide +kernel, by decide +kernel⟩

abbrev st__law_leaf : Stmt := topS 33
abbrev N__law_leaf : List Str := ["box", "kind"]
abbrev p__law_leaf : List Str := ["box", "kind"]
theorem sc__law_leaf : FnScope N__law_leaf p__law_leaf (defScope st__law_leaf) := ⟨rfl, rfl, rfl, by decide +kernel, rfl, by decide +kernel, by decide +kernel⟩

abbrev st__law_let : Stmt := topS 34
abbrev N__law_let : List Str := ["box", "scope", "kind", "left", "name", "inner", "first"]
abbrev p__law_let : List Str := ["box", "scope", "kind", "left"]
theorem sc__law_let : FnScope N__law_let p__law_let (defScope st__law_let) := ⟨rfl, rfl, rfl, by decide +kernel, rfl, by decide +kernel, by decide +kernel⟩

abbrev st__law_function : Stmt := topS 35
abbrev N__law_function : List Str := ["box", "scope", "left", "name", "inner", "kind"]
abbrev p__law_function : List Str := ["box", "scope", "left"]
theorem sc__law_function : FnScope N__law_function p__law_function (defScope st__law_function) := ⟨rfl, rfl, rfl, by decide +kernel, rfl, by decide +kernel, by decide +kernel⟩

abbrev st__law_children : Stmt := topS 36
abbrev N__law_children : List Str := ["row", "part"]
abbrev p__law_children : List Str := ["row"]
theorem sc__law_children : FnScope N__law_children p__law_children (defScope st__law_children) := ⟨rfl, rfl, rfl, by decide +kernel, rfl, by decide +kernel, by decide +kernel⟩

abbrev st__law_is_value : Stmt := topS 37
abbrev N__law_is_value : List Str := ["row"]
abbrev p__law_is_value : List Str := ["row"]
theorem sc__law_is_value : FnScope N__law_is_value p__law_is_value (defScope st__law_is_value) := ⟨rfl, rfl, rfl, by decide +kernel, rfl, by decide +kernel, by decide +kernel⟩

abbrev st__law_substituted : Stmt := topS 38
abbrev N__law_substituted : List Str := ["row", "name", "given", "word", "found", "part"]
abbrev p__law_substituted : List Str := ["row", "name", "given"]
theorem sc__law_substituted : FnScope N__law_substituted p__law_substituted (defScope st__law_substituted) := ⟨rfl, rfl, rfl, by decide +kernel, rfl, by decide +kernel, by decide +kernel⟩

abbrev st__law_count : Stmt := topS 39
abbrev N__law_count : List Str := ["row", "many", "todo", "turn"]
abbrev p__law_count : List Str := ["row"]
theorem sc__law_count : FnScope N__law_count p__law_count (defScope st__law_count) := ⟨rfl, rfl, rfl, by decide +kernel, rfl, by decide +kernel, by decide +kernel⟩

abbrev st__law_needs : Stmt := topS 40
abbrev N__law_needs : List Str := ["row", "word"]
abbrev p__law_needs : List Str := ["row"]
theorem sc__law_needs : FnScope N__law_needs p__law_needs (defScope st__law_needs) := ⟨rfl, rfl, rfl, by decide +kernel, rfl, by decide +kernel, by decide +kernel⟩

abbrev st__law_own_step : Stmt := topS 41
abbrev N__law_own_step : List Str := ["row", "book", "word", "rows", "pair", "body"]
abbrev p__law_own_step : List Str := ["row", "book"]
theorem sc__law_own_step : FnScope N__law_own_step p__law_own_step (defScope st__law_own_step) := ⟨rfl, rfl, rfl, by decide +kernel, rfl, by decide +kernel, by decide +kernel⟩

abbrev st__law_op_step : Stmt := topS 42
abbrev N__law_op_step : List Str := ["row", "first", "second", "number"]
abbrev p__law_op_step : List Str := ["row"]
theorem sc__law_op_step : FnScope N__law_op_step p__law_op_step (defScope st__law_op_step) := ⟨rfl, rfl, rfl, by decide +kernel, rfl, by decide +kernel, by decide +kernel⟩

abbrev st__law_record_step : Stmt := topS 43
abbrev N__law_record_step : List Str := ["row", "ahead", "rest", "left", "label", "value"]
abbrev p__law_record_step : List Str := ["row"]
theorem sc__law_record_step : FnScope N__law_record_step p__law_record_step (defScope st__law_record_step) := ⟨rfl, rfl, rfl, by decide +kernel, rfl, by decide +kernel, by decide +kernel⟩

abbrev st__law_step_in : Stmt := topS 44
abbrev N__law_step_in : List Str := ["row", "book", "k", "told"]
abbrev p__law_step_in : List Str := ["row", "book"]
theorem sc__law_step_in : FnScope N__law_step_in p__law_step_in (defScope st__law_step_in) := ⟨rfl, rfl, rfl, by decide +kernel, rfl, by decide +kernel, by decide +kernel⟩

abbrev st__law_stepped : Stmt := topS 45
abbrev N__law_stepped : List Str := ["row", "book"]
abbrev p__law_stepped : List Str := ["row", "book"]
theorem sc__law_stepped : FnScope N__law_stepped p__law_stepped (defScope st__law_stepped) := ⟨rfl, rfl, rfl, by decide +kernel, rfl, by decide +kernel, by decide +kernel⟩

abbrev st__law_book : Stmt := topS 46
abbrev N__law_book : List Str := ["box", "first", "second"]
abbrev p__law_book : List Str := ["box"]
theorem sc__law_book : FnScope N__law_book p__law_book (defScope st__law_book) := ⟨rfl, rfl, rfl, by decide +kernel, rfl, by decide +kernel, by decide +kernel⟩

abbrev st__law_mixed : Stmt := topS 47
abbrev N__law_mixed : List Str := ["box", "scope", "left", "kind", "one", "other"]
abbrev p__law_mixed : List Str := ["box", "scope", "left"]
theorem sc__law_mixed : FnScope N__law_mixed p__law_mixed (defScope st__law_mixed) := ⟨rfl, rfl, rfl, by decide +kernel, rfl, by decide +kernel, by decide +kernel⟩

abbrev st__law_great : Stmt := topS 48
abbrev N__law_great : List Str := ["box", "kind", "again", "name", "more", "row", "turn"]
abbrev p__law_great : List Str := ["box"]
theorem sc__law_great : FnScope N__law_great p__law_great (defScope st__law_great) := ⟨rfl, rfl, rfl, by decide +kernel, rfl, by decide +kernel, by decide +kernel⟩

abbrev st__law_running : Stmt := topS 49
abbrev N__law_running : List Str := ["box", "book", "scope", "kind"]
abbrev p__law_running : List Str := ["box", "book"]
theorem sc__law_running : FnScope N__law_running p__law_running (defScope st__law_running) := ⟨rfl, rfl, rfl, by decide +kernel, rfl, by decide +kernel, by decide +kernel⟩

abbrev st__law_run : Stmt := topS 50
abbrev N__law_run : List Str := ["row", "book", "most", "made", "told"]
abbrev p__law_run : List Str := ["row", "book", "most"]
theorem sc__law_run : FnScope N__law_run p__law_run (defScope st__law_run) := ⟨rfl, rfl, rfl, by decide +kernel, rfl, by decide +kernel, by decide +kernel⟩

abbrev st_law : Stmt := topS 51
abbrev N_law : List Str := ["script", "box", "turn", "book", "row", "most", "due", "first", "told", "rest"]
abbrev p_law : List Str := ["script"]
theorem sc_law : FnScope N_law p_law (defScope st_law) := ⟨rfl, rfl, rfl, by decide +kernel, rfl, by decide +kernel, by decide +kernel⟩

def faL : List He.Fa := [.int "MOST_NODES" 300, .int "GREATEST_NUMBER" 999999, .glo "FIRST_CHILD", .glo "NEEDED", .glo "SIMPLE_VALUES", .glo "RECORDS", .free "reversed", .free "tuple", .free "list", .free "range", .free "len", .free "repr", .free "int", .free "isinstance", .free "zip", .glo "children", .glo "with_children", .glo "nodes", .glo "child_numbers", .glo "brought_names", .glo "_value_marks", .glo "put_in", .glo "_covered_nodes", .glo "step", .glo "_way_to_step", .glo "_with_child", .glo "_own_step", .glo "_definition", .glo "_called", .glo "_chosen", .glo "_counted", .glo "_field_step", .glo "run", .glo "_law_cell", .glo "_law_same", .glo "_law_digits", .glo "_law_draw", .glo "_law_pick", .glo "_law_expression", .glo "_law_leaf", .glo "_law_let", .glo "_law_function", .glo "_law_children", .glo "_law_is_value", .glo "_law_substituted", .glo "_law_count", .glo "_law_needs", .glo "_law_own_step", .glo "_law_op_step", .glo "_law_record_step", .glo "_law_step_in", .glo "_law_stepped", .glo "_law_book", .glo "_law_mixed", .glo "_law_great", .glo "_law_running", .glo "_law_run", .glo "law"]
def fnL : List He.DefD := [dOf "children" st_children, dOf "with_children" st_with_children, dOf "nodes" st_nodes, dOf "child_numbers" st_child_numbers, dOf "brought_names" st_brought_names, dOf "_value_marks" st__value_marks, dOf "put_in" st_put_in, dOf "_covered_nodes" st__covered_nodes, dOf "step" st_step, dOf "_way_to_step" st__way_to_step, dOf "_with_child" st__with_child, dOf "_own_step" st__own_step, dOf "_definition" st__definition, dOf "_called" st__called, dOf "_chosen" st__chosen, dOf "_counted" st__counted, dOf "_field_step" st__field_step, dOf "run" st_run, dOf "_law_cell" st__law_cell, dOf "_law_same" st__law_same, dOf "_law_digits" st__law_digits, dOf "_law_draw" st__law_draw, dOf "_law_pick" st__law_pick, dOf "_law_expression" st__law_expression, dOf "_law_leaf" st__law_leaf, dOf "_law_let" st__law_let, dOf "_law_function" st__law_function, dOf "_law_children" st__law_children, dOf "_law_is_value" st__law_is_value, dOf "_law_substituted" st__law_substituted, dOf "_law_count" st__law_count, dOf "_law_needs" st__law_needs, dOf "_law_own_step" st__law_own_step, dOf "_law_op_step" st__law_op_step, dOf "_law_record_step" st__law_record_step, dOf "_law_step_in" st__law_step_in, dOf "_law_stepped" st__law_stepped, dOf "_law_book" st__law_book, dOf "_law_mixed" st__law_mixed, dOf "_law_great" st__law_great, dOf "_law_running" st__law_running, dOf "_law_run" st__law_run, dOf "law" st_law]
def FX : Fx := { fa := faL, fn := fnL, tf := [], dk := [("FIRST_CHILD", D_FIRST_CHILD), ("NEEDED", D_NEEDED)], tk := [("SIMPLE_VALUES", L_SIMPLE_VALUES), ("RECORDS", L_RECORDS)] }
section
variable {P : Program} {w : World} {K : PySem.W.Frag} {mg : Str → Option Value} {base : Heap}
theorem tm_children (T : Tx FX w K mg base) (cdv : Value) (A : Around) (outer : List Env) (s : Shared) (H : Hp) (E : XK) (hr : Room 0 (A.deeper (envOfC "children" (defScope st_children) s.heap.objs.size (He.ga K "children") cdv))) (hq : Qt (A.deeper (envOfC "children" (defScope st_children) s.heap.objs.size (He.ga K "children") cdv))) (hcd : cdv = .ref (He.codeOf K ("children", none))) :
    PSs (cxOf CX0 P w K mg base N_children "children" (defScope st_children) (He.ga K "children") cdv A outer s H E).nox (defBody st_children) (LS K (t_children)) :=
  (s_one (s_ret (w_slice (w_var 0 (pv 0)) (o_some (w_kdict (by rfl) (T.gl "FIRST_CHILD") (T.kd 0 rfl) (w_sub1 hr.b (w_var 0 (pv 0)) w_int (fun _ _ => rfl)) (fun _ _ => rfl))) o_none)))

theorem tm_with_children (T : Tx FX w K mg base) (cdv : Value) (A : Around) (outer : List Env) (s : Shared) (H : Hp) (E : XK) (hr : Room 0 (A.deeper (envOfC "with_children" (defScope st_with_children) s.heap.objs.size (He.ga K "with_children") cdv))) (hq : Qt (A.deeper (envOfC "with_children" (defScope st_with_children) s.heap.objs.size (He.ga K "with_children") cdv))) (hcd : cdv = .ref (He.codeOf K ("with_children", none))) :
    PSs (cxOf CX0 P w K mg base N_with_children "with_children" (defScope st_with_children) (He.ga K "with_children") cdv A outer s H E).nox (defBody st_with_children) (LS K (t_with_children)) :=
  (s_one (s_ret (w_add (w_slice (w_var 0 (pv 0)) o_none (o_some (w_kdict (by rfl) (T.gl "FIRST_CHILD") (T.kd 0 rfl) (w_sub1 hr.b (w_var 0 (pv 0)) w_int (fun _ _ => rfl)) (fun _ _ => rfl)))) (w_tuplec (by rfl) (T.fr "tuple") (a_cons (w_var 1 (pv 1)) a_nil)))))

theorem tm_nodes (T : Tx FX w K mg base) (H_children : FnK P w K mg base "children" 1 p_children sp_children) (cdv : Value) (A : Around) (outer : List Env) (s : Shared) (H : Hp) (E : XK) (hr : Room 1 (A.deeper (envOfC "nodes" (defScope st_nodes) s.heap.objs.size (He.ga K "nodes") cdv))) (hq : Qt (A.deeper (envOfC "nodes" (defScope st_nodes) s.heap.objs.size (He.ga K "nodes") cdv))) (hcd : cdv = .ref (He.codeOf K ("nodes", none))) :
    PSs (cxOf CX0 P w K mg base N_nodes "nodes" (defScope st_nodes) (He.ga K "nodes") cdv A outer s H E).nox (defBody st_nodes) (LS K (t_nodes)) :=
  (s_cons (s_set (i := 1) sc_nodes.nd rfl (by first | exact .inl rfl | exact .inr rfl) (w_lst a_nil))
  (s_cons (s_set (i := 2) sc_nodes.nd rfl (by first | exact .inl rfl | exact .inr rfl) (w_lst (a_cons (w_var 0 (pv 0)) a_nil)))
  (s_cons (s_while PassesOwn.never (w_truth (w_var 2 (pv 2)))
  (s_cons (s_set (i := 3) sc_nodes.nd rfl (by first | exact .inl rfl | exact .inr rfl) (w_pop (w_var 2 (pv 2))))
  (s_cons (s_expr (w_append (w_var 1 (pv 1)) (a_cons (w_var 3 (pv 3)) a_nil)))
  (s_one (s_expr (w_extend (w_var 2 (pv 2)) (a_cons (w_revs (w_callF H_children (hr.mono (by decide)) hq rfl (a_cons (w_var 3 (pv 3)) a_nil))) a_nil)))))))
  (s_one (s_ret (w_var 1 (pv 1)))))))

theorem tm_child_numbers (T : Tx FX w K mg base) (H_nodes : FnK P w K mg base "nodes" 2 p_nodes sp_nodes) (H_children : FnK P w K mg base "children" 1 p_children sp_children) (cdv : Value) (A : Around) (outer : List Env) (s : Shared) (H : Hp) (E : XK) (hr : Room 2 (A.deeper (envOfC "child_numbers" (defScope st_child_numbers) s.heap.objs.size (He.ga K "child_numbers") cdv))) (hq : Qt (A.deeper (envOfC "child_numbers" (defScope st_child_numbers) s.heap.objs.size (He.ga K "child_numbers") cdv))) (hcd : cdv = .ref (He.codeOf K ("child_numbers", none))) :
    PSs (cxOf CX0 P w K mg base N_child_numbers "child_numbers" (defScope st_child_numbers) (He.ga K "child_numbers") cdv A outer s H E).nox (defBody st_child_numbers) (LS K (t_child_numbers)) :=
  (s_cons (s_set (i := 1) sc_child_numbers.nd rfl (by first | exact .inl rfl | exact .inr rfl) (w_lst a_nil))
  (s_cons (s_set (i := 2) sc_child_numbers.nd rfl (by first | exact .inl rfl | exact .inr rfl) (w_lst a_nil))
  (s_cons (s_set (i := 3) sc_child_numbers.nd rfl (by first | exact .inl rfl | exact .inr rfl) (w_callF H_nodes (hr.mono (by decide)) hq rfl (a_cons (w_var 0 (pv 0)) a_nil)))
  (s_cons (s_for PassesOwn.never rfl (i_revr1 (by rfl) (T.fr "reversed") (by rfl) (T.fr "range") (w_len (by rfl) (T.fr "len") (a_cons (w_var 3 (pv 3)) a_nil))) (g_name (pg_name (i := 4) sc_child_numbers.nd rfl (by first | exact .inl rfl | exact .inr rfl)))
  (s_cons (s_expr (w_append (w_var 1 (pv 1)) (a_cons (w_ptuple (by rfl) (T.fr "tuple") (a_cons (w_lc (own := [("_", 5)]) rfl sc_child_numbers.nd (i_any (w_callF H_children (hr.mono (by decide)) hq rfl (a_cons (w_sub1 hr.b (w_var 3 (pv 3)) (w_var 4 (pv 4)) (fun _ _ => rfl)) a_nil))) (blkOk_by (N := N_child_numbers) (sc := defScope st_child_numbers) (by decide +kernel)) (fun _ _ _ _ _ => (gw_name (pg_name (i := 5) sc_child_numbers.nd rfl (by first | exact .inl rfl | exact .inr rfl)) (by decide))) (fun _ _ _ _ _ => ts_nil) (fun _ _ _ _ _ => (w_pop (w_var 2 (pv 2))))) a_nil)) a_nil)))
  (s_one (s_expr (w_append (w_var 2 (pv 2)) (a_cons (w_var 4 (pv 4)) a_nil))))))
  (s_one (s_ret (w_revs (w_var 1 (pv 1)))))))))

theorem tm_brought_names (T : Tx FX w K mg base) (H_children : FnK P w K mg base "children" 1 p_children sp_children) (cdv : Value) (A : Around) (outer : List Env) (s : Shared) (H : Hp) (E : XK) (hr : Room 1 (A.deeper (envOfC "brought_names" (defScope st_brought_names) s.heap.objs.size (He.ga K "brought_names") cdv))) (hq : Qt (A.deeper (envOfC "brought_names" (defScope st_brought_names) s.heap.objs.size (He.ga K "brought_names") cdv))) (hcd : cdv = .ref (He.codeOf K ("brought_names", none))) :
    PSs (cxOf CX0 P w K mg base N_brought_names "brought_names" (defScope st_brought_names) (He.ga K "brought_names") cdv A outer s H E).nox (defBody st_brought_names) (LS K (t_brought_names)) :=
  (s_cons (s_set (i := 1) sc_brought_names.nd rfl (by first | exact .inl rfl | exact .inr rfl) (w_sub1 hr.b (w_var 0 (pv 0)) w_int (fun _ _ => rfl)))
  (s_cons (s_if (wt_eq hr.b (w_var 1 (pv 1)) w_str)
  (s_one (s_ret (w_tup (a_cons (w_tup (a_cons (w_sub1 hr.b (w_var 0 (pv 0)) w_int (fun _ _ => rfl)) a_nil)) a_nil))))
  s_nil)
  (s_cons (s_if (wt_eq hr.b (w_var 1 (pv 1)) w_str)
  (s_one (s_ret (w_tup (a_cons (w_tup (a_cons (w_sub1 hr.b (w_var 0 (pv 0)) w_int (fun _ _ => rfl)) (a_cons (w_sub1 hr.b (w_var 0 (pv 0)) w_int (fun _ _ => rfl)) a_nil))) a_nil))))
  s_nil)
  (s_cons (s_if (wt_eq hr.b (w_var 1 (pv 1)) w_str)
  (s_one (s_ret (w_tup (a_cons (w_tup a_nil) (a_cons (w_tup (a_cons (w_sub1 hr.b (w_var 0 (pv 0)) w_int (fun _ _ => rfl)) a_nil)) a_nil)))))
  s_nil)
  (s_one (s_ret (w_tuplec (by rfl) (T.fr "tuple") (a_cons (w_lc (own := [("_", 2)]) rfl sc_brought_names.nd (i_any (w_callF H_children (hr.mono (by decide)) hq rfl (a_cons (w_var 0 (pv 0)) a_nil))) (blkOk_by (N := N_brought_names) (sc := defScope st_brought_names) (by decide +kernel)) (fun _ _ _ _ _ => (gw_name (pg_name (i := 2) sc_brought_names.nd rfl (by first | exact .inl rfl | exact .inr rfl)) (by decide))) (fun _ _ _ _ _ => ts_nil) (fun _ _ _ _ _ => (w_tup a_nil))) a_nil))))))))

theorem tm__value_marks (T : Tx FX w K mg base) (cdv : Value) (A : Around) (outer : List Env) (s : Shared) (H : Hp) (E : XK) (hr : Room 0 (A.deeper (envOfC "_value_marks" (defScope st__value_marks) s.heap.objs.size (He.ga K "_value_marks") cdv))) (hq : Qt (A.deeper (envOfC "_value_marks" (defScope st__value_marks) s.heap.objs.size (He.ga K "_value_marks") cdv))) (hcd : cdv = .ref (He.codeOf K ("_value_marks", none))) :
    PSs (cxOf CX0 P w K mg base N__value_marks "_value_marks" (defScope st__value_marks) (He.ga K "_value_marks") cdv A outer s H E).nox (defBody st__value_marks) (LS K (t__value_marks)) :=
  (s_cons (s_setLc (i := 2) (own := [("part", 3)]) rfl sc__value_marks.nd rfl rfl (sw_true rfl rfl rfl (by decide +kernel)) (i_any (w_var 0 (pv 0))) (blkOk_by (N := N__value_marks) (sc := defScope st__value_marks) (by decide +kernel)) (fun _ _ _ _ _ => (gw_name (pg_name (i := 3) sc__value_marks.nd rfl (by first | exact .inl rfl | exact .inr rfl)) (by decide))) (fun _ _ _ _ _ => ts_nil) (fun _ _ _ _ _ => (w_in hr.b (w_sub1 hr.b (w_var 3 (pv 3)) w_int (fun _ _ => rfl)) (w_gtup (by rfl) (T.gl "SIMPLE_VALUES") (T.tk 0 rfl)) rfl)))
  (s_cons (s_for PassesOwn.never rfl (i_revr1 (by rfl) (T.fr "reversed") (by rfl) (T.fr "range") (w_len (by rfl) (T.fr "len") (a_cons (w_var 0 (pv 0)) a_nil))) (g_name (pg_name (i := 4) sc__value_marks.nd rfl (by first | exact .inl rfl | exact .inr rfl)))
  (s_one (s_if (wt_eq hr.b (w_sub1 hr.b (w_sub1 hr.b (w_var 0 (pv 0)) (w_var 4 (pv 4)) (fun _ _ => rfl)) w_int (fun _ _ => rfl)) w_str)
  (s_cons (s_asg (w_tpl (w_sub1 hr.b (w_var 1 (pv 1)) (w_var 4 (pv 4)) (fun _ _ => rfl))) (g_tup rfl (gs_cons (g_name (pg_name (i := 5) sc__value_marks.nd rfl (by first | exact .inl rfl | exact .inr rfl))) (gs_cons (g_name (pg_name (i := 6) sc__value_marks.nd rfl (by first | exact .inl rfl | exact .inr rfl))) gs_nil))))
  (s_one (s_put hr.b (w_var 2 (pv 2)) (w_var 4 (pv 4)) (w_andV (w_sub1 hr.b (w_var 2 (pv 2)) (w_var 5 (pv 5)) (fun _ _ => rfl)) (w_andV (w_sub1 hr.b (w_var 2 (pv 2)) (w_var 6 (pv 6)) (fun _ _ => rfl)) (w_one (w_in hr.b (w_sub1 hr.b (w_sub1 hr.b (w_var 0 (pv 0)) (w_var 6 (pv 6)) (fun _ _ => rfl)) w_int (fun _ _ => rfl)) (w_gtup (by rfl) (T.gl "RECORDS") (T.tk 1 rfl)) rfl)))))))
  s_nil)))
  (s_one (s_ret (w_var 2 (pv 2))))))

theorem tm_put_in (T : Tx FX w K mg base) (H__covered_nodes : FnK P w K mg base "_covered_nodes" 3 p__covered_nodes sp__covered_nodes) (H_children : FnK P w K mg base "children" 1 p_children sp_children) (H_with_children : FnK P w K mg base "with_children" 1 p_with_children sp_with_children) (cdv : Value) (A : Around) (outer : List Env) (s : Shared) (H : Hp) (E : XK) (hr : Room 3 (A.deeper (envOfC "put_in" (defScope st_put_in) s.heap.objs.size (He.ga K "put_in") cdv))) (hq : Qt (A.deeper (envOfC "put_in" (defScope st_put_in) s.heap.objs.size (He.ga K "put_in") cdv))) (hcd : cdv = .ref (He.codeOf K ("put_in", none))) :
    PSs (cxOf CX0 P w K mg base N_put_in "put_in" (defScope st_put_in) (He.ga K "put_in") cdv A outer s H E).nox (defBody st_put_in) (LS K (t_put_in)) :=
  (s_cons (s_set (i := 3) sc_put_in.nd rfl (by first | exact .inl rfl | exact .inr rfl) (w_lst a_nil))
  (s_cons (s_for PassesOwn.never rfl (i_rev (by rfl) (T.fr "reversed") (w_callF H__covered_nodes (hr.mono (by decide)) hq rfl (a_cons (w_var 0 (pv 0)) (a_cons (w_var 1 (pv 1)) a_nil)))) (g_tup rfl (gs_cons (g_name (pg_name (i := 4) sc_put_in.nd rfl (by first | exact .inl rfl | exact .inr rfl))) (gs_cons (g_name (pg_name (i := 5) sc_put_in.nd rfl (by first | exact .inl rfl | exact .inr rfl))) gs_nil)))
  (s_cons (s_setLc (i := 6) (own := [("_", 7)]) rfl sc_put_in.nd rfl rfl (sw_true rfl rfl rfl (by decide +kernel)) (i_any (w_callF H_children (hr.mono (by decide)) hq rfl (a_cons (w_var 4 (pv 4)) a_nil))) (blkOk_by (N := N_put_in) (sc := defScope st_put_in) (by decide +kernel)) (fun _ _ _ _ _ => (gw_name (pg_name (i := 7) sc_put_in.nd rfl (by first | exact .inl rfl | exact .inr rfl)) (by decide))) (fun _ _ _ _ _ => ts_nil) (fun _ _ _ _ _ => (w_pop (w_var 3 (pv 3)))))
  (s_one (s_if (PW.pt (w_and (wt_eq hr.b (w_sub1 hr.b (w_var 4 (pv 4)) w_int (fun _ _ => rfl)) w_str) (w_and (wt_eq hr.b (w_sub1 hr.b (w_var 4 (pv 4)) w_int (fun _ _ => rfl)) (w_var 1 (pv 1))) (w_and1 (w_not (w_truth (w_var 5 (pv 5))))))))
  (s_one (s_expr (w_append (w_var 3 (pv 3)) (a_cons (w_var 2 (pv 2)) a_nil))))
  (s_one (s_expr (w_append (w_var 3 (pv 3)) (a_cons (w_callF H_with_children (hr.mono (by decide)) hq rfl (a_cons (w_var 4 (pv 4)) (a_cons (w_var 6 (pv 6)) a_nil))) a_nil))))))))
  (s_one (s_ret (w_pop (w_var 3 (pv 3)))))))

theorem tm__covered_nodes (T : Tx FX w K mg base) (H_children : FnK P w K mg base "children" 1 p_children sp_children) (H_brought_names : FnK P w K mg base "brought_names" 2 p_brought_names sp_brought_names) (cdv : Value) (A : Around) (outer : List Env) (s : Shared) (H : Hp) (E : XK) (hr : Room 2 (A.deeper (envOfC "_covered_nodes" (defScope st__covered_nodes) s.heap.objs.size (He.ga K "_covered_nodes") cdv))) (hq : Qt (A.deeper (envOfC "_covered_nodes" (defScope st__covered_nodes) s.heap.objs.size (He.ga K "_covered_nodes") cdv))) (hcd : cdv = .ref (He.codeOf K ("_covered_nodes", none))) :
    PSs (cxOf CX0 P w K mg base N__covered_nodes "_covered_nodes" (defScope st__covered_nodes) (He.ga K "_covered_nodes") cdv A outer s H E).nox (defBody st__covered_nodes) (LS K (t__covered_nodes)) :=
  (s_cons (s_set (i := 2) sc__covered_nodes.nd rfl (by first | exact .inl rfl | exact .inr rfl) (w_lst a_nil))
  (s_cons (s_set (i := 3) sc__covered_nodes.nd rfl (by first | exact .inl rfl | exact .inr rfl) (w_lst (a_cons (w_tup (a_cons (w_var 0 (pv 0)) (a_cons w_bl a_nil))) a_nil)))
  (s_cons (s_while PassesOwn.never (w_truth (w_var 3 (pv 3)))
  (s_cons (s_asg (w_pop (w_var 3 (pv 3))) (g_tup rfl (gs_cons (g_name (pg_name (i := 4) sc__covered_nodes.nd rfl (by first | exact .inl rfl | exact .inr rfl))) (gs_cons (g_name (pg_name (i := 5) sc__covered_nodes.nd rfl (by first | exact .inl rfl | exact .inr rfl))) gs_nil))))
  (s_cons (s_expr (w_append (w_var 2 (pv 2)) (a_cons (w_tup (a_cons (w_var 4 (pv 4)) (a_cons (w_var 5 (pv 5)) a_nil))) a_nil)))
  (s_cons (s_setLc (i := 6) (own := [("child", 7), ("names", 8)]) rfl sc__covered_nodes.nd rfl rfl (sw_true rfl rfl rfl (by decide +kernel)) (i_zip (by rfl) (T.fr "zip") (a_cons (w_callF H_children (hr.mono (by decide)) hq rfl (a_cons (w_var 4 (pv 4)) a_nil)) (a_cons (w_callF H_brought_names (hr.mono (by decide)) hq rfl (a_cons (w_var 4 (pv 4)) a_nil)) a_nil))) (blkOk_by (N := N__covered_nodes) (sc := defScope st__covered_nodes) (by decide +kernel)) (fun _ _ _ _ _ => (gw_tup rfl (gws_cons (gw_name (pg_name (i := 7) sc__covered_nodes.nd rfl (by first | exact .inl rfl | exact .inr rfl)) (by decide)) (gws_cons (gw_name (pg_name (i := 8) sc__covered_nodes.nd rfl (by first | exact .inl rfl | exact .inr rfl)) (by decide)) gws_nil)))) (fun _ _ _ _ _ => ts_nil) (fun _ _ _ _ _ => (w_tup (a_cons (w_var 7 (pv 7)) (a_cons (w_orV (w_var 5 (pv 5)) (w_one (w_in hr.b (w_var 1 (pv 1)) (w_var 8 (pv 8)) rfl))) a_nil)))))
  (s_one (s_expr (w_extend (w_var 3 (pv 3)) (a_cons (w_revs (w_var 6 (pv 6))) a_nil))))))))
  (s_one (s_ret (w_var 2 (pv 2)))))))

theorem tm_step (T : Tx FX w K mg base) (H_nodes : FnK P w K mg base "nodes" 2 p_nodes sp_nodes) (H_child_numbers : FnK P w K mg base "child_numbers" 3 p_child_numbers sp_child_numbers) (H__value_marks : FnK P w K mg base "_value_marks" 1 p__value_marks sp__value_marks) (H__way_to_step : FnK P w K mg base "_way_to_step" 1 p__way_to_step sp__way_to_step) (H__own_step : FnK P w K mg base "_own_step" 6 p__own_step sp__own_step) (H__with_child : FnK P w K mg base "_with_child" 2 p__with_child sp__with_child) (cdv : Value) (A : Around) (outer : List Env) (s : Shared) (H : Hp) (E : XK) (hr : Room 6 (A.deeper (envOfC "step" (defScope st_step) s.heap.objs.size (He.ga K "step") cdv))) (hq : Qt (A.deeper (envOfC "step" (defScope st_step) s.heap.objs.size (He.ga K "step") cdv))) (hcd : cdv = .ref (He.codeOf K ("step", none))) :
    PSs (cxOf CX0 P w K mg base N_step "step" (defScope st_step) (He.ga K "step") cdv A outer s H E).nox (defBody st_step) (LS K (t_step)) :=
  (s_cons (s_set (i := 2) sc_step.nd rfl (by first | exact .inl rfl | exact .inr rfl) (w_callF H_nodes (hr.mono (by decide)) hq rfl (a_cons (w_var 0 (pv 0)) a_nil)))
  (s_cons (s_set (i := 3) sc_step.nd rfl (by first | exact .inl rfl | exact .inr rfl) (w_callF H_child_numbers (hr.mono (by decide)) hq rfl (a_cons (w_var 0 (pv 0)) a_nil)))
  (s_cons (s_set (i := 4) sc_step.nd rfl (by first | exact .inl rfl | exact .inr rfl) (w_callF H__value_marks (hr.mono (by decide)) hq rfl (a_cons (w_var 2 (pv 2)) (a_cons (w_var 3 (pv 3)) a_nil))))
  (s_cons (s_if (w_truth (w_sub1 hr.b (w_var 4 (pv 4)) w_int (fun _ _ => rfl)))
  (s_one (s_ret (w_tup (a_cons w_str a_nil))))
  s_nil)
  (s_cons (s_if (wt_gt (w_len (by rfl) (T.fr "len") (a_cons (w_var 2 (pv 2)) a_nil)) (w_gint (by rfl) (T.int "MOST_NODES" 300)))
  (s_one (s_ret (w_tup (a_cons w_str a_nil))))
  s_nil)
  (s_cons (s_set (i := 5) sc_step.nd rfl (by first | exact .inl rfl | exact .inr rfl) (w_callF H__way_to_step (hr.mono (by decide)) hq rfl (a_cons (w_var 2 (pv 2)) (a_cons (w_var 3 (pv 3)) (a_cons (w_var 4 (pv 4)) a_nil)))))
  (s_cons (s_set (i := 6) sc_step.nd rfl (by first | exact .inl rfl | exact .inr rfl) (w_callF H__own_step (hr.mono (by decide)) hq rfl (a_cons (w_sub1 hr.b (w_var 2 (pv 2)) (w_sub1 hr.b (w_var 5 (pv 5)) (w_neg w_int) (fun _ _ => rfl)) (fun _ _ => rfl)) (a_cons (w_var 1 (pv 1)) a_nil))))
  (s_cons (s_if (wt_ne hr.b (w_sub1 hr.b (w_var 6 (pv 6)) w_int (fun _ _ => rfl)) w_str)
  (s_one (s_ret (w_var 6 (pv 6))))
  s_nil)
  (s_cons (s_set (i := 7) sc_step.nd rfl (by first | exact .inl rfl | exact .inr rfl) (w_sub1 hr.b (w_var 6 (pv 6)) w_int (fun _ _ => rfl)))
  (s_cons (s_for PassesOwn.never rfl (i_revr1 (by rfl) (T.fr "reversed") (by rfl) (T.fr "range") (w_sub (w_len (by rfl) (T.fr "len") (a_cons (w_var 5 (pv 5)) a_nil)) w_int)) (g_name (pg_name (i := 8) sc_step.nd rfl (by first | exact .inl rfl | exact .inr rfl)))
  (s_one (s_set (i := 7) sc_step.nd rfl (by first | exact .inl rfl | exact .inr rfl) (w_callF H__with_child (hr.mono (by decide)) hq rfl (a_cons (w_sub1 hr.b (w_var 2 (pv 2)) (w_sub1 hr.b (w_var 5 (pv 5)) (w_var 8 (pv 8)) (fun _ _ => rfl)) (fun _ _ => rfl)) (a_cons (w_tindex (w_sub1 hr.b (w_var 3 (pv 3)) (w_sub1 hr.b (w_var 5 (pv 5)) (w_var 8 (pv 8)) (fun _ _ => rfl)) (fun _ _ => rfl)) (a_cons (w_sub1 hr.b (w_var 5 (pv 5)) (w_add (w_var 8 (pv 8)) w_int) (fun _ _ => rfl)) a_nil)) (a_cons (w_var 7 (pv 7)) a_nil)))))))
  (s_one (s_ret (w_tup (a_cons w_str (a_cons (w_var 7 (pv 7)) a_nil)))))))))))))))

theorem tm__way_to_step (T : Tx FX w K mg base) (cdv : Value) (A : Around) (outer : List Env) (s : Shared) (H : Hp) (E : XK) (hr : Room 0 (A.deeper (envOfC "_way_to_step" (defScope st__way_to_step) s.heap.objs.size (He.ga K "_way_to_step") cdv))) (hq : Qt (A.deeper (envOfC "_way_to_step" (defScope st__way_to_step) s.heap.objs.size (He.ga K "_way_to_step") cdv))) (hcd : cdv = .ref (He.codeOf K ("_way_to_step", none))) :
    PSs (cxOf CX0 P w K mg base N__way_to_step "_way_to_step" (defScope st__way_to_step) (He.ga K "_way_to_step") cdv A outer s H E).nox (defBody st__way_to_step) (LS K (t__way_to_step)) :=
  (s_cons (s_set (i := 3) sc__way_to_step.nd rfl (by first | exact .inl rfl | exact .inr rfl) (w_lst a_nil))
  (s_cons (s_set (i := 4) sc__way_to_step.nd rfl (by first | exact .inl rfl | exact .inr rfl) (w_lst (a_cons w_int a_nil)))
  (s_cons (s_while PassesOwn.never (w_truth (w_var 4 (pv 4)))
  (s_cons (s_expr (w_append (w_var 3 (pv 3)) (a_cons (w_sub1 hr.b (w_var 4 (pv 4)) w_int (fun _ _ => rfl)) a_nil)))
  (s_cons (s_set (i := 5) sc__way_to_step.nd rfl (by first | exact .inl rfl | exact .inr rfl) (w_slice (w_tpl (w_sub1 hr.b (w_var 1 (pv 1)) (w_sub1 hr.b (w_var 3 (pv 3)) (w_neg w_int) (fun _ _ => rfl)) (fun _ _ => rfl))) o_none (o_some (w_kdict (by rfl) (T.gl "NEEDED") (T.kd 1 rfl) (w_sub1 hr.b (w_sub1 hr.b (w_var 0 (pv 0)) (w_sub1 hr.b (w_var 3 (pv 3)) (w_neg w_int) (fun _ _ => rfl)) (fun _ _ => rfl)) w_int (fun _ _ => rfl)) (fun _ _ => rfl)))))
  (s_one (s_setLc (i := 4) (own := [("child", 6)]) rfl sc__way_to_step.nd rfl rfl (sw_true rfl rfl rfl (by decide +kernel)) (i_any (w_var 5 (pv 5))) (blkOk_by (N := N__way_to_step) (sc := defScope st__way_to_step) (by decide +kernel)) (fun _ _ _ _ _ => (gw_name (pg_name (i := 6) sc__way_to_step.nd rfl (by first | exact .inl rfl | exact .inr rfl)) (by decide))) (fun _ _ _ _ _ => (ts_one (w_not (w_truth (w_sub1 hr.b (w_var 2 (pv 2)) (w_var 6 (pv 6)) (fun _ _ => rfl)))))) (fun _ _ _ _ _ => (w_var 6 (pv 6))))))))
  (s_one (s_ret (w_var 3 (pv 3)))))))

theorem tm__with_child (T : Tx FX w K mg base) (H_with_children : FnK P w K mg base "with_children" 1 p_with_children sp_with_children) (H_children : FnK P w K mg base "children" 1 p_children sp_children) (cdv : Value) (A : Around) (outer : List Env) (s : Shared) (H : Hp) (E : XK) (hr : Room 1 (A.deeper (envOfC "_with_child" (defScope st__with_child) s.heap.objs.size (He.ga K "_with_child") cdv))) (hq : Qt (A.deeper (envOfC "_with_child" (defScope st__with_child) s.heap.objs.size (He.ga K "_with_child") cdv))) (hcd : cdv = .ref (He.codeOf K ("_with_child", none))) :
    PSs (cxOf CX0 P w K mg base N__with_child "_with_child" (defScope st__with_child) (He.ga K "_with_child") cdv A outer s H E).nox (defBody st__with_child) (LS K (t__with_child)) :=
  (s_cons (s_set (i := 3) sc__with_child.nd rfl (by first | exact .inl rfl | exact .inr rfl) (w_listc rfl (by rfl) (T.fr "list") (a_cons (w_callF H_children (hr.mono (by decide)) hq rfl (a_cons (w_var 0 (pv 0)) a_nil)) a_nil)))
  (s_cons (s_put hr.b (w_var 3 (pv 3)) (w_var 1 (pv 1)) (w_var 2 (pv 2)))
  (s_one (s_ret (w_callF H_with_children (hr.mono (by decide)) hq rfl (a_cons (w_var 0 (pv 0)) (a_cons (w_var 3 (pv 3)) a_nil)))))))

theorem tm__own_step (T : Tx FX w K mg base) (H__field_step : FnK P w K mg base "_field_step" 3 p__field_step sp__field_step) (H__definition : FnK P w K mg base "_definition" 1 p__definition sp__definition) (H__called : FnK P w K mg base "_called" 5 p__called sp__called) (H__chosen : FnK P w K mg base "_chosen" 1 p__chosen sp__chosen) (H__counted : FnK P w K mg base "_counted" 1 p__counted sp__counted) (H_put_in : FnK P w K mg base "put_in" 4 p_put_in sp_put_in) (cdv : Value) (A : Around) (outer : List Env) (s : Shared) (H : Hp) (E : XK) (hr : Room 5 (A.deeper (envOfC "_own_step" (defScope st__own_step) s.heap.objs.size (He.ga K "_own_step") cdv))) (hq : Qt (A.deeper (envOfC "_own_step" (defScope st__own_step) s.heap.objs.size (He.ga K "_own_step") cdv))) (hcd : cdv = .ref (He.codeOf K ("_own_step", none))) :
    PSs (cxOf CX0 P w K mg base N__own_step "_own_step" (defScope st__own_step) (He.ga K "_own_step") cdv A outer s H E).nox (defBody st__own_step) (LS K (t__own_step)) :=
  (s_cons (s_set (i := 2) sc__own_step.nd rfl (by first | exact .inl rfl | exact .inr rfl) (w_sub1 hr.b (w_var 0 (pv 0)) w_int (fun _ _ => rfl)))
  (s_cons (s_if (wt_eq hr.b (w_var 2 (pv 2)) w_str)
  (s_one (s_ret (w_callF H__definition (hr.mono (by decide)) hq rfl (a_cons (w_sub1 hr.b (w_var 0 (pv 0)) w_int (fun _ _ => rfl)) (a_cons (w_var 1 (pv 1)) a_nil)))))
  s_nil)
  (s_cons (s_if (wt_eq hr.b (w_var 2 (pv 2)) w_str)
  (s_one (s_ret (w_callF H__called (hr.mono (by decide)) hq rfl (a_cons (w_sub1 hr.b (w_var 0 (pv 0)) w_int (fun _ _ => rfl)) (a_cons (w_sub1 hr.b (w_var 0 (pv 0)) w_int (fun _ _ => rfl)) a_nil)))))
  s_nil)
  (s_cons (s_if (wt_eq hr.b (w_var 2 (pv 2)) w_str)
  (s_one (s_ret (w_tup (a_cons w_str (a_cons (w_callF H_put_in (hr.mono (by decide)) hq rfl (a_cons (w_sub1 hr.b (w_var 0 (pv 0)) w_int (fun _ _ => rfl)) (a_cons (w_sub1 hr.b (w_var 0 (pv 0)) w_int (fun _ _ => rfl)) (a_cons (w_sub1 hr.b (w_var 0 (pv 0)) w_int (fun _ _ => rfl)) a_nil)))) a_nil)))))
  s_nil)
  (s_cons (s_if (wt_eq hr.b (w_var 2 (pv 2)) w_str)
  (s_one (s_ret (w_callF H__chosen (hr.mono (by decide)) hq rfl (a_cons (w_var 0 (pv 0)) a_nil))))
  s_nil)
  (s_cons (s_if (wt_eq hr.b (w_var 2 (pv 2)) w_str)
  (s_one (s_ret (w_callF H__counted (hr.mono (by decide)) hq rfl (a_cons (w_sub1 hr.b (w_var 0 (pv 0)) w_int (fun _ _ => rfl)) (a_cons (w_sub1 hr.b (w_var 0 (pv 0)) w_int (fun _ _ => rfl)) (a_cons (w_sub1 hr.b (w_var 0 (pv 0)) w_int (fun _ _ => rfl)) a_nil))))))
  s_nil)
  (s_cons (s_if (wt_eq hr.b (w_var 2 (pv 2)) w_str)
  (s_one (s_ret (w_tup (a_cons w_str (a_cons w_str a_nil)))))
  s_nil)
  (s_one (s_ret (w_callF H__field_step (hr.mono (by decide)) hq rfl (a_cons (w_var 2 (pv 2)) (a_cons (w_sub1 hr.b (w_var 0 (pv 0)) w_int (fun _ _ => rfl)) (a_cons (w_sub1 hr.b (w_var 0 (pv 0)) w_int (fun _ _ => rfl)) a_nil)))))))))))))

theorem tm__definition (T : Tx FX w K mg base) (cdv : Value) (A : Around) (outer : List Env) (s : Shared) (H : Hp) (E : XK) (hr : Room 0 (A.deeper (envOfC "_definition" (defScope st__definition) s.heap.objs.size (He.ga K "_definition") cdv))) (hq : Qt (A.deeper (envOfC "_definition" (defScope st__definition) s.heap.objs.size (He.ga K "_definition") cdv))) (hcd : cdv = .ref (He.codeOf K ("_definition", none))) :
    PSs (cxOf CX0 P w K mg base N__definition "_definition" (defScope st__definition) (He.ga K "_definition") cdv A outer s H E).nox (defBody st__definition) (LS K (t__definition)) :=
  (s_cons (s_for PassesOwn.never rfl (i_any (w_var 1 (pv 1))) (g_tup rfl (gs_cons (g_name (pg_name (i := 2) sc__definition.nd rfl (by first | exact .inl rfl | exact .inr rfl))) (gs_cons (g_name (pg_name (i := 3) sc__definition.nd rfl (by first | exact .inl rfl | exact .inr rfl))) gs_nil)))
  (s_one (s_if (wt_eq hr.b (w_var 2 (pv 2)) (w_var 0 (pv 0)))
  (s_one (s_ret (w_tup (a_cons w_str (a_cons (w_var 3 (pv 3)) a_nil)))))
  s_nil)))
  (s_one (s_ret (w_tup (a_cons w_str (a_cons w_str a_nil))))))

theorem tm__called (T : Tx FX w K mg base) (H_put_in : FnK P w K mg base "put_in" 4 p_put_in sp_put_in) (cdv : Value) (A : Around) (outer : List Env) (s : Shared) (H : Hp) (E : XK) (hr : Room 4 (A.deeper (envOfC "_called" (defScope st__called) s.heap.objs.size (He.ga K "_called") cdv))) (hq : Qt (A.deeper (envOfC "_called" (defScope st__called) s.heap.objs.size (He.ga K "_called") cdv))) (hcd : cdv = .ref (He.codeOf K ("_called", none))) :
    PSs (cxOf CX0 P w K mg base N__called "_called" (defScope st__called) (He.ga K "_called") cdv A outer s H E).nox (defBody st__called) (LS K (t__called)) :=
  (s_cons (s_if (wt_eq hr.b (w_sub1 hr.b (w_var 0 (pv 0)) w_int (fun _ _ => rfl)) w_str)
  (s_one (s_ret (w_tup (a_cons w_str (a_cons (w_callF H_put_in (hr.mono (by decide)) hq rfl (a_cons (w_sub1 hr.b (w_var 0 (pv 0)) w_int (fun _ _ => rfl)) (a_cons (w_sub1 hr.b (w_var 0 (pv 0)) w_int (fun _ _ => rfl)) (a_cons (w_var 1 (pv 1)) a_nil)))) a_nil)))))
  s_nil)
  (s_cons (s_if (wt_ne hr.b (w_sub1 hr.b (w_var 0 (pv 0)) w_int (fun _ _ => rfl)) w_str)
  (s_one (s_ret (w_tup (a_cons w_str (a_cons w_str a_nil)))))
  s_nil)
  (s_cons (s_set (i := 2) sc__called.nd rfl (by first | exact .inl rfl | exact .inr rfl) (w_sub1 hr.b (w_var 0 (pv 0)) w_int (fun _ _ => rfl)))
  (s_cons (s_if (wt_ne hr.b (w_sub1 hr.b (w_var 0 (pv 0)) w_int (fun _ _ => rfl)) (w_sub1 hr.b (w_var 0 (pv 0)) w_int (fun _ _ => rfl)))
  (s_one (s_set (i := 2) sc__called.nd rfl (by first | exact .inl rfl | exact .inr rfl) (w_callF H_put_in (hr.mono (by decide)) hq rfl (a_cons (w_var 2 (pv 2)) (a_cons (w_sub1 hr.b (w_var 0 (pv 0)) w_int (fun _ _ => rfl)) (a_cons (w_var 0 (pv 0)) a_nil))))))
  s_nil)
  (s_one (s_ret (w_tup (a_cons w_str (a_cons (w_callF H_put_in (hr.mono (by decide)) hq rfl (a_cons (w_var 2 (pv 2)) (a_cons (w_sub1 hr.b (w_var 0 (pv 0)) w_int (fun _ _ => rfl)) (a_cons (w_var 1 (pv 1)) a_nil)))) a_nil)))))))))

theorem tm__chosen (T : Tx FX w K mg base) (cdv : Value) (A : Around) (outer : List Env) (s : Shared) (H : Hp) (E : XK) (hr : Room 0 (A.deeper (envOfC "_chosen" (defScope st__chosen) s.heap.objs.size (He.ga K "_chosen") cdv))) (hq : Qt (A.deeper (envOfC "_chosen" (defScope st__chosen) s.heap.objs.size (He.ga K "_chosen") cdv))) (hcd : cdv = .ref (He.codeOf K ("_chosen", none))) :
    PSs (cxOf CX0 P w K mg base N__chosen "_chosen" (defScope st__chosen) (He.ga K "_chosen") cdv A outer s H E).nox (defBody st__chosen) (LS K (t__chosen)) :=
  (s_cons (s_if (wt_ne hr.b (w_sub1 hr.b (w_sub1 hr.b (w_var 0 (pv 0)) w_int (fun _ _ => rfl)) w_int (fun _ _ => rfl)) w_str)
  (s_one (s_ret (w_tup (a_cons w_str (a_cons w_str a_nil)))))
  s_nil)
  (s_one (s_ret (w_tup (a_cons w_str (a_cons (w_ifExp (w_truth (w_sub1 hr.b (w_sub1 hr.b (w_var 0 (pv 0)) w_int (fun _ _ => rfl)) w_int (fun _ _ => rfl))) (w_sub1 hr.b (w_var 0 (pv 0)) w_int (fun _ _ => rfl)) (w_sub1 hr.b (w_var 0 (pv 0)) w_int (fun _ _ => rfl))) a_nil))))))

theorem tm__counted (T : Tx FX w K mg base) (cdv : Value) (A : Around) (outer : List Env) (s : Shared) (H : Hp) (E : XK) (hr : Room 0 (A.deeper (envOfC "_counted" (defScope st__counted) s.heap.objs.size (He.ga K "_counted") cdv))) (hq : Qt (A.deeper (envOfC "_counted" (defScope st__counted) s.heap.objs.size (He.ga K "_counted") cdv))) (hcd : cdv = .ref (He.codeOf K ("_counted", none))) :
    PSs (cxOf CX0 P w K mg base N__counted "_counted" (defScope st__counted) (He.ga K "_counted") cdv A outer s H E).nox (defBody st__counted) (LS K (t__counted)) :=
  (s_cons (s_if (PW.pt (w_or (wt_ne hr.b (w_sub1 hr.b (w_var 1 (pv 1)) w_int (fun _ _ => rfl)) w_str) (w_or1 (wt_ne hr.b (w_sub1 hr.b (w_var 2 (pv 2)) w_int (fun _ _ => rfl)) w_str))))
  (s_one (s_ret (w_tup (a_cons w_str (a_cons w_str a_nil)))))
  s_nil)
  (s_cons (s_if (wt_eq hr.b (w_var 0 (pv 0)) w_str)
  (s_one (s_ret (w_tup (a_cons w_str (a_cons (w_tup (a_cons w_str (a_cons (w_lt (w_sub1 hr.b (w_var 1 (pv 1)) w_int (fun _ _ => rfl)) (w_sub1 hr.b (w_var 2 (pv 2)) w_int (fun _ _ => rfl))) a_nil))) a_nil)))))
  s_nil)
  (s_cons (s_if (wt_eq hr.b (w_var 0 (pv 0)) w_str)
  (s_one (s_ret (w_tup (a_cons w_str (a_cons (w_tup (a_cons w_str (a_cons (w_eq hr.b (w_sub1 hr.b (w_var 1 (pv 1)) w_int (fun _ _ => rfl)) (w_sub1 hr.b (w_var 2 (pv 2)) w_int (fun _ _ => rfl))) a_nil))) a_nil)))))
  s_nil)
  (s_cons (s_set (i := 3) sc__counted.nd rfl (by first | exact .inl rfl | exact .inr rfl) (w_ifExp (wt_eq hr.b (w_var 0 (pv 0)) w_str) (w_add (w_sub1 hr.b (w_var 1 (pv 1)) w_int (fun _ _ => rfl)) (w_sub1 hr.b (w_var 2 (pv 2)) w_int (fun _ _ => rfl))) (w_sub (w_sub1 hr.b (w_var 1 (pv 1)) w_int (fun _ _ => rfl)) (w_sub1 hr.b (w_var 2 (pv 2)) w_int (fun _ _ => rfl)))))
  (s_cons (s_if (PW.pt (w_or (PW.pt (w_and (wt_eq hr.b (w_var 0 (pv 0)) w_str) (w_and1 (wt_gt (w_var 3 (pv 3)) (w_gint (by rfl) (T.int "GREATEST_NUMBER" 999999)))))) (w_or1 (PW.pt (w_and (wt_eq hr.b (w_var 0 (pv 0)) w_str) (w_and1 (wt_lt (w_var 3 (pv 3)) w_int)))))))
  (s_one (s_ret (w_tup (a_cons w_str a_nil))))
  s_nil)
  (s_one (s_ret (w_tup (a_cons w_str (a_cons (w_tup (a_cons w_str (a_cons (w_var 3 (pv 3)) a_nil))) a_nil))))))))))

theorem tm__field_step (T : Tx FX w K mg base) (H__with_child : FnK P w K mg base "_with_child" 2 p__with_child sp__with_child) (cdv : Value) (A : Around) (outer : List Env) (s : Shared) (H : Hp) (E : XK) (hr : Room 2 (A.deeper (envOfC "_field_step" (defScope st__field_step) s.heap.objs.size (He.ga K "_field_step") cdv))) (hq : Qt (A.deeper (envOfC "_field_step" (defScope st__field_step) s.heap.objs.size (He.ga K "_field_step") cdv))) (hcd : cdv = .ref (He.codeOf K ("_field_step", none))) :
    PSs (cxOf CX0 P w K mg base N__field_step "_field_step" (defScope st__field_step) (He.ga K "_field_step") cdv A outer s H E).nox (defBody st__field_step) (LS K (t__field_step)) :=
  (s_cons (s_if (wt_notin hr.b (w_sub1 hr.b (w_var 2 (pv 2)) w_int (fun _ _ => rfl)) (w_gtup (by rfl) (T.gl "RECORDS") (T.tk 1 rfl)) rfl)
  (s_one (s_ret (w_tup (a_cons w_str (a_cons w_str a_nil)))))
  s_nil)
  (s_cons (s_set (i := 3) sc__field_step.nd rfl (by first | exact .inl rfl | exact .inr rfl) (w_lst a_nil))
  (s_cons (s_set (i := 4) sc__field_step.nd rfl (by first | exact .inl rfl | exact .inr rfl) (w_var 2 (pv 2)))
  (s_cons (s_while PassesOwn.never (PW.pt (w_and (wt_eq hr.b (w_sub1 hr.b (w_var 4 (pv 4)) w_int (fun _ _ => rfl)) w_str) (w_and1 (wt_ne hr.b (w_sub1 hr.b (w_var 4 (pv 4)) w_int (fun _ _ => rfl)) (w_var 1 (pv 1))))))
  (s_cons (s_expr (w_append (w_var 3 (pv 3)) (a_cons (w_var 4 (pv 4)) a_nil)))
  (s_one (s_set (i := 4) sc__field_step.nd rfl (by first | exact .inl rfl | exact .inr rfl) (w_sub1 hr.b (w_var 4 (pv 4)) w_int (fun _ _ => rfl))))))
  (s_cons (s_if (wt_eq hr.b (w_sub1 hr.b (w_var 4 (pv 4)) w_int (fun _ _ => rfl)) w_str)
  (s_one (s_ret (w_tup (a_cons w_str (a_cons w_str a_nil)))))
  s_nil)
  (s_cons (s_if (wt_eq hr.b (w_var 0 (pv 0)) w_str)
  (s_one (s_ret (w_tup (a_cons w_str (a_cons (w_sub1 hr.b (w_var 4 (pv 4)) w_int (fun _ _ => rfl)) a_nil)))))
  s_nil)
  (s_cons (s_set (i := 5) sc__field_step.nd rfl (by first | exact .inl rfl | exact .inr rfl) (w_sub1 hr.b (w_var 4 (pv 4)) w_int (fun _ _ => rfl)))
  (s_cons (s_for PassesOwn.never rfl (i_rev (by rfl) (T.fr "reversed") (w_var 3 (pv 3))) (g_name (pg_name (i := 6) sc__field_step.nd rfl (by first | exact .inl rfl | exact .inr rfl)))
  (s_one (s_set (i := 5) sc__field_step.nd rfl (by first | exact .inl rfl | exact .inr rfl) (w_callF H__with_child (hr.mono (by decide)) hq rfl (a_cons (w_var 6 (pv 6)) (a_cons w_int (a_cons (w_var 5 (pv 5)) a_nil)))))))
  (s_one (s_ret (w_tup (a_cons w_str (a_cons (w_var 5 (pv 5)) a_nil)))))))))))))

theorem tm_run (T : Tx FX w K mg base) (H_step : FnK P w K mg base "step" 7 p_step sp_step) (cdv : Value) (A : Around) (outer : List Env) (s : Shared) (H : Hp) (E : XK) (hr : Room 7 (A.deeper (envOfC "run" (defScope st_run) s.heap.objs.size (He.ga K "run") cdv))) (hq : Qt (A.deeper (envOfC "run" (defScope st_run) s.heap.objs.size (He.ga K "run") cdv))) (hcd : cdv = .ref (He.codeOf K ("run", none))) :
    PSs (cxOf CX0 P w K mg base N_run "run" (defScope st_run) (He.ga K "run") cdv A outer s H E).nox (defBody st_run) (LS K (t_run)) :=
  (s_cons (s_set (i := 3) sc_run.nd rfl (by first | exact .inl rfl | exact .inr rfl) w_int)
  (s_cons (s_set (i := 4) sc_run.nd rfl (by first | exact .inl rfl | exact .inr rfl) (w_callF H_step (hr.mono (by decide)) hq rfl (a_cons (w_var 0 (pv 0)) (a_cons (w_var 1 (pv 1)) a_nil))))
  (s_cons (s_while PassesOwn.never (PW.pt (w_and (wt_eq hr.b (w_sub1 hr.b (w_var 4 (pv 4)) w_int (fun _ _ => rfl)) w_str) (w_and1 (wt_lt (w_var 3 (pv 3)) (w_var 2 (pv 2))))))
  (s_cons (s_set (i := 0) sc_run.nd rfl (by first | exact .inl rfl | exact .inr rfl) (w_sub1 hr.b (w_var 4 (pv 4)) w_int (fun _ _ => rfl)))
  (s_cons (s_augAdd (i := 3) sc_run.nd rfl (by first | exact .inl rfl | exact .inr rfl) w_int)
  (s_one (s_set (i := 4) sc_run.nd rfl (by first | exact .inl rfl | exact .inr rfl) (w_callF H_step (hr.mono (by decide)) hq rfl (a_cons (w_var 0 (pv 0)) (a_cons (w_var 1 (pv 1)) a_nil))))))))
  (s_cons (s_set (i := 5) sc_run.nd rfl (by first | exact .inl rfl | exact .inr rfl) (w_ifExp (wt_eq hr.b (w_sub1 hr.b (w_var 4 (pv 4)) w_int (fun _ _ => rfl)) w_str) w_str (w_sub1 hr.b (w_var 4 (pv 4)) w_int (fun _ _ => rfl))))
  (s_one (s_ret (w_tup (a_cons (w_var 5 (pv 5)) (a_cons (w_var 3 (pv 3)) (a_cons (w_var 0 (pv 0)) a_nil))))))))))

theorem tm__law_cell (T : Tx FX w K mg base) (cdv : Value) (A : Around) (outer : List Env) (s : Shared) (H : Hp) (E : XK) (hr : Room 0 (A.deeper (envOfC "_law_cell" (defScope st__law_cell) s.heap.objs.size (He.ga K "_law_cell") cdv))) (hq : Qt (A.deeper (envOfC "_law_cell" (defScope st__law_cell) s.heap.objs.size (He.ga K "_law_cell") cdv))) (hcd : cdv = .ref (He.codeOf K ("_law_cell", none))) :
    PSs (cxOf CX0 P w K mg base N__law_cell "_law_cell" (defScope st__law_cell) (He.ga K "_law_cell") cdv A outer s H E).nox (defBody st__law_cell) (LS K (t__law_cell)) :=
  (s_cons (s_if (wt_lt (w_var 1 (pv 1)) (w_len (by rfl) (T.fr "len") (a_cons (w_var 0 (pv 0)) a_nil)))
  (s_one (s_ret (w_sub1 hr.b (w_var 0 (pv 0)) (w_var 1 (pv 1)) (fun _ _ => rfl))))
  s_nil)
  (s_one (s_ret w_int)))

theorem tm__law_same (T : Tx FX w K mg base) (cdv : Value) (A : Around) (outer : List Env) (s : Shared) (H : Hp) (E : XK) (hr : Room 0 (A.deeper (envOfC "_law_same" (defScope st__law_same) s.heap.objs.size (He.ga K "_law_same") cdv))) (hq : Qt (A.deeper (envOfC "_law_same" (defScope st__law_same) s.heap.objs.size (He.ga K "_law_same") cdv))) (hcd : cdv = .ref (He.codeOf K ("_law_same", none))) :
    PSs (cxOf CX0 P w K mg base N__law_same "_law_same" (defScope st__law_same) (He.ga K "_law_same") cdv A outer s H E).nox (defBody st__law_same) (LS K (t__law_same)) :=
  (s_one (s_ret (w_eq hr.b (w_repr hr hq (by rfl) (T.fr "repr") (a_cons (w_var 0 (pv 0)) a_nil)) (w_repr hr hq (by rfl) (T.fr "repr") (a_cons (w_var 1 (pv 1)) a_nil)))))

theorem tm__law_digits (T : Tx FX w K mg base) (H__law_cell : FnK P w K mg base "_law_cell" 1 p__law_cell sp__law_cell) (cdv : Value) (A : Around) (outer : List Env) (s : Shared) (H : Hp) (E : XK) (hr : Room 1 (A.deeper (envOfC "_law_digits" (defScope st__law_digits) s.heap.objs.size (He.ga K "_law_digits") cdv))) (hq : Qt (A.deeper (envOfC "_law_digits" (defScope st__law_digits) s.heap.objs.size (He.ga K "_law_digits") cdv))) (hcd : cdv = .ref (He.codeOf K ("_law_digits", none))) :
    PSs (cxOf CX0 P w K mg base N__law_digits "_law_digits" (defScope st__law_digits) (He.ga K "_law_digits") cdv A outer s H E).nox (defBody st__law_digits) (LS K (t__law_digits)) :=
  (s_cons (s_set (i := 3) sc__law_digits.nd rfl (by first | exact .inl rfl | exact .inr rfl) (w_lst a_nil))
  (s_cons (s_for PassesOwn.never rfl (i_range2 (by rfl) (T.fr "range") (a_cons (w_var 1 (pv 1)) (a_cons (w_var 2 (pv 2)) a_nil))) (g_name (pg_name (i := 4) sc__law_digits.nd rfl (by first | exact .inl rfl | exact .inr rfl)))
  (s_cons (s_set (i := 5) sc__law_digits.nd rfl (by first | exact .inl rfl | exact .inr rfl) (w_callF H__law_cell (hr.mono (by decide)) hq rfl (a_cons (w_var 0 (pv 0)) (a_cons (w_var 4 (pv 4)) a_nil))))
  (s_cons (s_if (wt_lt (w_var 5 (pv 5)) w_int)
  (s_one (s_set (i := 5) sc__law_digits.nd rfl (by first | exact .inl rfl | exact .inr rfl) (w_sub w_int (w_mul w_int (w_var 5 (pv 5))))))
  s_nil)
  (s_one (s_if (wt_ge (w_var 5 (pv 5)) (w_pow w_int w_int))
  (s_one (s_for PassesOwn.never rfl (i_range1 (by rfl) (T.fr "range") (a_cons w_int a_nil)) (g_name (pg_name (i := 6) sc__law_digits.nd rfl (by first | exact .inl rfl | exact .inr rfl)))
  (s_one (s_if (wt_gt (w_var 5 (pv 5)) w_int)
  (s_cons (s_expr (w_append (w_var 3 (pv 3)) (a_cons (w_mod (w_intc (by rfl) (T.fr "int") (a_cons (w_var 5 (pv 5)) a_nil)) w_int) a_nil)))
  (s_one (s_set (i := 5) sc__law_digits.nd rfl (by first | exact .inl rfl | exact .inr rfl) (w_fdiv (w_var 5 (pv 5)) w_int))))
  s_nil))))
  (s_cons (s_set (i := 7) sc__law_digits.nd rfl (by first | exact .inl rfl | exact .inr rfl) (w_mod (w_intc (by rfl) (T.fr "int") (a_cons (w_add (w_add (w_mul (w_var 5 (pv 5)) w_int) (w_mul (w_var 4 (pv 4)) w_int)) w_int) a_nil)) w_int))
  (s_one (s_for PassesOwn.never rfl (i_range1 (by rfl) (T.fr "range") (a_cons w_int a_nil)) (g_name (pg_name (i := 6) sc__law_digits.nd rfl (by first | exact .inl rfl | exact .inr rfl)))
  (s_cons (s_set (i := 7) sc__law_digits.nd rfl (by first | exact .inl rfl | exact .inr rfl) (w_mod (w_intc (by rfl) (T.fr "int") (a_cons (w_add (w_add (w_mul (w_var 7 (pv 7)) w_int) (w_mul w_int (w_var 6 (pv 6)))) w_int) a_nil)) w_int))
  (s_one (s_expr (w_append (w_var 3 (pv 3)) (a_cons (w_mod (w_intc (by rfl) (T.fr "int") (a_cons (w_fdiv (w_var 7 (pv 7)) w_int) a_nil)) w_int) a_nil)))))))))))))
  (s_one (s_ret (w_var 3 (pv 3))))))

theorem tm__law_draw (T : Tx FX w K mg base) (cdv : Value) (A : Around) (outer : List Env) (s : Shared) (H : Hp) (E : XK) (hr : Room 0 (A.deeper (envOfC "_law_draw" (defScope st__law_draw) s.heap.objs.size (He.ga K "_law_draw") cdv))) (hq : Qt (A.deeper (envOfC "_law_draw" (defScope st__law_draw) s.heap.objs.size (He.ga K "_law_draw") cdv))) (hcd : cdv = .ref (He.codeOf K ("_law_draw", none))) :
    PSs (cxOf CX0 P w K mg base N__law_draw "_law_draw" (defScope st__law_draw) (He.ga K "_law_draw") cdv A outer s H E).nox (defBody st__law_draw) (LS K (t__law_draw)) :=
  (s_cons (s_set (i := 2) sc__law_draw.nd rfl (by first | exact .inl rfl | exact .inr rfl) (w_sub1 hr.b (w_var 0 (pv 0)) w_int (fun _ _ => rfl)))
  (s_cons (s_put hr.b (w_var 0 (pv 0)) w_int (w_add (w_var 2 (pv 2)) w_int))
  (s_cons (s_if (wt_lt (w_var 2 (pv 2)) (w_len (by rfl) (T.fr "len") (a_cons (w_sub1 hr.b (w_var 0 (pv 0)) w_int (fun _ _ => rfl)) a_nil)))
  (s_one (s_ret (w_mod (w_intc (by rfl) (T.fr "int") (a_cons (w_sub1 hr.b (w_sub1 hr.b (w_var 0 (pv 0)) w_int (fun _ _ => rfl)) (w_var 2 (pv 2)) (fun _ _ => rfl)) a_nil)) (w_var 1 (pv 1)))))
  s_nil)
  (s_one (s_ret (w_mod (w_intc (by rfl) (T.fr "int") (a_cons (w_add (w_mul (w_var 2 (pv 2)) w_int) w_int) a_nil)) (w_var 1 (pv 1))))))))

theorem tm__law_pick (T : Tx FX w K mg base) (H__law_draw : FnK P w K mg base "_law_draw" 1 p__law_draw sp__law_draw) (cdv : Value) (A : Around) (outer : List Env) (s : Shared) (H : Hp) (E : XK) (hr : Room 1 (A.deeper (envOfC "_law_pick" (defScope st__law_pick) s.heap.objs.size (He.ga K "_law_pick") cdv))) (hq : Qt (A.deeper (envOfC "_law_pick" (defScope st__law_pick) s.heap.objs.size (He.ga K "_law_pick") cdv))) (hcd : cdv = .ref (He.codeOf K ("_law_pick", none))) :
    PSs (cxOf CX0 P w K mg base N__law_pick "_law_pick" (defScope st__law_pick) (He.ga K "_law_pick") cdv A outer s H E).nox (defBody st__law_pick) (LS K (t__law_pick)) :=
  (s_one (s_ret (w_sub1 hr.b (w_var 1 (pv 1)) (w_mod (w_intc (by rfl) (T.fr "int") (a_cons (w_callF H__law_draw (hr.mono (by decide)) hq rfl (a_cons (w_var 0 (pv 0)) (a_cons w_int a_nil))) a_nil)) (w_len (by rfl) (T.fr "len") (a_cons (w_var 1 (pv 1)) a_nil))) (fun _ _ => rfl))))

theorem tm__law_expression (T : Tx FX w K mg base) {k : Nat} {k__law_draw : Nat} (l__law_draw : k__law_draw ≤ k) (H__law_draw : FnK P w K mg base "_law_draw" k__law_draw p__law_draw sp__law_draw) {k__law_leaf : Nat} (l__law_leaf : k__law_leaf ≤ k) (H__law_leaf : FnK P w K mg base "_law_leaf" k__law_leaf p__law_leaf sp__law_leaf) {s__law_let : TSp} {k__law_let : Nat} (l__law_let : k__law_let ≤ k) (H__law_let : FnK P w K mg base "_law_let" k__law_let p__law_let s__law_let) {s__law_function : TSp} {k__law_function : Nat} (l__law_function : k__law_function ≤ k) (H__law_function : FnK P w K mg base "_law_function" k__law_function p__law_function s__law_function) {k__law_pick : Nat} (l__law_pick : k__law_pick ≤ k) (H__law_pick : FnK P w K mg base "_law_pick" k__law_pick p__law_pick sp__law_pick) {s__law_expression : TSp} {k__law_expression : Nat} (l__law_expression : k__law_expression ≤ k) (H__law_expression : FnK P w K mg base "_law_expression" k__law_expression p__law_expression s__law_expression) (cdv : Value) (A : Around) (outer : List Env) (s : Shared) (H : Hp) (E : XK) (hr : Room k (A.deeper (envOfC "_law_expression" (defScope st__law_expression) s.heap.objs.size (He.ga K "_law_expression") cdv))) (hq : Qt (A.deeper (envOfC "_law_expression" (defScope st__law_expression) s.heap.objs.size (He.ga K "_law_expression") cdv))) (hcd : cdv = .ref (He.codeOf K ("_law_expression", none))) :
    PSs (cxOf CX0 P w K mg base N__law_expression "_law_expression" (defScope st__law_expression) (He.ga K "_law_expression") cdv A outer s H E).nox (defBody st__law_expression) (LS K (t__law_expression s__law_let s__law_function s__law_expression)) :=
  (s_cons (s_put hr.b (w_var 3 (pv 3)) w_int (w_sub (w_sub1 hr.b (w_var 3 (pv 3)) w_int (fun _ _ => rfl)) w_int))
  (s_cons (s_set (i := 4) sc__law_expression.nd rfl (by first | exact .inl rfl | exact .inr rfl) (w_callF H__law_draw (hr.mono l__law_draw) hq rfl (a_cons (w_var 0 (pv 0)) (a_cons w_int a_nil))))
  (s_cons (s_if (wt_eq hr.b (w_var 2 (pv 2)) w_str)
  (s_one (s_set (i := 2) sc__law_expression.nd rfl (by first | exact .inl rfl | exact .inr rfl) (w_sub1 hr.b (w_lst (a_cons w_str (a_cons w_str (a_cons w_str (a_cons w_str a_nil))))) (w_callF H__law_draw (hr.mono l__law_draw) hq rfl (a_cons (w_var 0 (pv 0)) (a_cons w_int a_nil))) (fun _ _ => rfl))))
  s_nil)
  (s_cons (s_if (PW.pt (w_and (wt_gt (w_len (by rfl) (T.fr "len") (a_cons (w_var 1 (pv 1)) a_nil)) w_int) (w_and1 (PW.pt (w_or (wt_lt (w_var 4 (pv 4)) w_int) (w_or1 (PW.pt (w_and (wt_lt (w_sub1 hr.b (w_var 3 (pv 3)) w_int (fun _ _ => rfl)) w_int) (w_and1 (wt_lt (w_var 4 (pv 4)) w_int))))))))))
  (s_cons (s_setLc (i := 5) (own := [("pair", 6)]) rfl sc__law_expression.nd rfl rfl (sw_true rfl rfl rfl (by decide +kernel)) (i_any (w_var 1 (pv 1))) (blkOk_by (N := N__law_expression) (sc := defScope st__law_expression) (by decide +kernel)) (fun _ _ _ _ _ => (gw_name (pg_name (i := 6) sc__law_expression.nd rfl (by first | exact .inl rfl | exact .inr rfl)) (by decide))) (fun _ _ _ _ _ => (ts_one (wt_eq hr.b (w_sub1 hr.b (w_var 6 (pv 6)) w_int (fun _ _ => rfl)) (w_var 2 (pv 2))))) (fun _ _ _ _ _ => (w_sub1 hr.b (w_var 6 (pv 6)) w_int (fun _ _ => rfl))))
  (s_cons (s_if (PW.pt (w_and (wt_gt (w_len (by rfl) (T.fr "len") (a_cons (w_var 5 (pv 5)) a_nil)) w_int) (w_and1 (wt_gt (w_var 4 (pv 4)) w_int))))
  (s_one (s_ret (w_tup (a_cons w_str (a_cons (w_callF H__law_pick (hr.mono l__law_pick) hq rfl (a_cons (w_var 0 (pv 0)) (a_cons (w_var 5 (pv 5)) a_nil))) a_nil)))))
  s_nil)
  (s_one (s_if (wt_eq hr.b (w_var 4 (pv 4)) w_int)
  (s_one (s_ret (w_tup (a_cons w_str (a_cons (w_callF H__law_pick (hr.mono l__law_pick) hq rfl (a_cons (w_var 0 (pv 0)) (a_cons (w_add (w_lc (own := [("pair", 6)]) rfl sc__law_expression.nd (i_any (w_var 1 (pv 1))) (blkOk_by (N := N__law_expression) (sc := defScope st__law_expression) (by decide +kernel)) (fun _ _ _ _ _ => (gw_name (pg_name (i := 6) sc__law_expression.nd rfl (by first | exact .inl rfl | exact .inr rfl)) (by decide))) (fun _ _ _ _ _ => ts_nil) (fun _ _ _ _ _ => (w_sub1 hr.b (w_var 6 (pv 6)) w_int (fun _ _ => rfl)))) (w_lst (a_cons w_str a_nil))) a_nil))) a_nil)))))
  s_nil))))
  s_nil)
  (s_cons (s_if (wt_lt (w_sub1 hr.b (w_var 3 (pv 3)) w_int (fun _ _ => rfl)) w_int)
  (s_one (s_ret (w_callF H__law_leaf (hr.mono l__law_leaf) hq rfl (a_cons (w_var 0 (pv 0)) (a_cons (w_var 2 (pv 2)) a_nil)))))
  s_nil)
  (s_cons (s_if (wt_eq hr.b (w_var 4 (pv 4)) w_int)
  (s_one (s_ret (w_callF H__law_let (hr.mono l__law_let) hq rfl (a_cons (w_var 0 (pv 0)) (a_cons (w_var 1 (pv 1)) (a_cons (w_var 2 (pv 2)) (a_cons (w_var 3 (pv 3)) a_nil)))))))
  s_nil)
  (s_cons (s_if (wt_eq hr.b (w_var 4 (pv 4)) w_int)
  (s_one (s_ret (w_tup (a_cons w_str (a_cons (w_callF H__law_expression (hr.mono l__law_expression) hq rfl (a_cons (w_var 0 (pv 0)) (a_cons (w_var 1 (pv 1)) (a_cons w_str (a_cons (w_var 3 (pv 3)) a_nil))))) (a_cons (w_callF H__law_expression (hr.mono l__law_expression) hq rfl (a_cons (w_var 0 (pv 0)) (a_cons (w_var 1 (pv 1)) (a_cons (w_var 2 (pv 2)) (a_cons (w_var 3 (pv 3)) a_nil))))) (a_cons (w_callF H__law_expression (hr.mono l__law_expression) hq rfl (a_cons (w_var 0 (pv 0)) (a_cons (w_var 1 (pv 1)) (a_cons (w_var 2 (pv 2)) (a_cons (w_var 3 (pv 3)) a_nil))))) a_nil)))))))
  s_nil)
  (s_cons (s_if (wt_eq hr.b (w_var 4 (pv 4)) w_int)
  (s_one (s_ret (w_tup (a_cons w_str (a_cons (w_callF H__law_pick (hr.mono l__law_pick) hq rfl (a_cons (w_var 0 (pv 0)) (a_cons (w_lst (a_cons w_str (a_cons w_str a_nil))) a_nil))) (a_cons (w_callF H__law_expression (hr.mono l__law_expression) hq rfl (a_cons (w_var 0 (pv 0)) (a_cons (w_var 1 (pv 1)) (a_cons w_str (a_cons (w_var 3 (pv 3)) a_nil))))) a_nil))))))
  s_nil)
  (s_cons (s_if (wt_eq hr.b (w_var 4 (pv 4)) w_int)
  (s_one (s_ret (w_tup (a_cons w_str (a_cons (w_callF H__law_expression (hr.mono l__law_expression) hq rfl (a_cons (w_var 0 (pv 0)) (a_cons (w_var 1 (pv 1)) (a_cons w_str (a_cons (w_var 3 (pv 3)) a_nil))))) (a_cons (w_callF H__law_expression (hr.mono l__law_expression) hq rfl (a_cons (w_var 0 (pv 0)) (a_cons (w_var 1 (pv 1)) (a_cons w_str (a_cons (w_var 3 (pv 3)) a_nil))))) a_nil))))))
  s_nil)
  (s_cons (s_if (wt_eq hr.b (w_var 2 (pv 2)) w_str)
  (s_one (s_ret (w_tup (a_cons w_str (a_cons (w_sub1 hr.b w_str (w_callF H__law_draw (hr.mono l__law_draw) hq rfl (a_cons (w_var 0 (pv 0)) (a_cons w_int a_nil))) (fun _ _ => rfl)) (a_cons (w_callF H__law_expression (hr.mono l__law_expression) hq rfl (a_cons (w_var 0 (pv 0)) (a_cons (w_var 1 (pv 1)) (a_cons w_str (a_cons (w_var 3 (pv 3)) a_nil))))) (a_cons (w_callF H__law_expression (hr.mono l__law_expression) hq rfl (a_cons (w_var 0 (pv 0)) (a_cons (w_var 1 (pv 1)) (a_cons w_str (a_cons (w_var 3 (pv 3)) a_nil))))) a_nil)))))))
  s_nil)
  (s_cons (s_if (wt_eq hr.b (w_var 2 (pv 2)) w_str)
  (s_one (s_ret (w_tup (a_cons w_str (a_cons (w_sub1 hr.b (w_lst (a_cons w_str (a_cons w_str a_nil))) (w_callF H__law_draw (hr.mono l__law_draw) hq rfl (a_cons (w_var 0 (pv 0)) (a_cons w_int a_nil))) (fun _ _ => rfl)) (a_cons (w_callF H__law_expression (hr.mono l__law_expression) hq rfl (a_cons (w_var 0 (pv 0)) (a_cons (w_var 1 (pv 1)) (a_cons w_str (a_cons (w_var 3 (pv 3)) a_nil))))) (a_cons (w_callF H__law_expression (hr.mono l__law_expression) hq rfl (a_cons (w_var 0 (pv 0)) (a_cons (w_var 1 (pv 1)) (a_cons w_str (a_cons (w_var 3 (pv 3)) a_nil))))) a_nil)))))))
  s_nil)
  (s_cons (s_if (wt_eq hr.b (w_var 2 (pv 2)) w_str)
  (s_one (s_ret (w_callF H__law_function (hr.mono l__law_function) hq rfl (a_cons (w_var 0 (pv 0)) (a_cons (w_var 1 (pv 1)) (a_cons (w_var 3 (pv 3)) a_nil))))))
  s_nil)
  (s_cons (s_if (wt_lt (w_var 4 (pv 4)) w_int)
  (s_one (s_ret (w_tup (a_cons w_str (a_cons (w_callF H__law_pick (hr.mono l__law_pick) hq rfl (a_cons (w_var 0 (pv 0)) (a_cons (w_lst (a_cons w_str (a_cons w_str a_nil))) a_nil))) (a_cons (w_callF H__law_expression (hr.mono l__law_expression) hq rfl (a_cons (w_var 0 (pv 0)) (a_cons (w_var 1 (pv 1)) (a_cons w_str (a_cons (w_var 3 (pv 3)) a_nil))))) a_nil))))))
  s_nil)
  (s_one (s_ret (w_tup (a_cons w_str (a_cons (w_callF H__law_pick (hr.mono l__law_pick) hq rfl (a_cons (w_var 0 (pv 0)) (a_cons (w_lst (a_cons w_str (a_cons w_str (a_cons w_str a_nil)))) a_nil))) (a_cons (w_callF H__law_expression (hr.mono l__law_expression) hq rfl (a_cons (w_var 0 (pv 0)) (a_cons (w_var 1 (pv 1)) (a_cons w_str (a_cons (w_var 3 (pv 3)) a_nil))))) (a_cons (w_callF H__law_expression (hr.mono l__law_expression) hq rfl (a_cons (w_var 0 (pv 0)) (a_cons (w_var 1 (pv 1)) (a_cons w_str (a_cons (w_var 3 (pv 3)) a_nil))))) a_nil))))))))))))))))))))

theorem tm__law_leaf (T : Tx FX w K mg base) (H__law_draw : FnK P w K mg base "_law_draw" 1 p__law_draw sp__law_draw) (cdv : Value) (A : Around) (outer : List Env) (s : Shared) (H : Hp) (E : XK) (hr : Room 1 (A.deeper (envOfC "_law_leaf" (defScope st__law_leaf) s.heap.objs.size (He.ga K "_law_leaf") cdv))) (hq : Qt (A.deeper (envOfC "_law_leaf" (defScope st__law_leaf) s.heap.objs.size (He.ga K "_law_leaf") cdv))) (hcd : cdv = .ref (He.codeOf K ("_law_leaf", none))) :
    PSs (cxOf CX0 P w K mg base N__law_leaf "_law_leaf" (defScope st__law_leaf) (He.ga K "_law_leaf") cdv A outer s H E).nox (defBody st__law_leaf) (LS K (t__law_leaf)) :=
  (s_cons (s_if (wt_eq hr.b (w_var 1 (pv 1)) w_str)
  (s_one (s_ret (w_tup (a_cons w_str (a_cons (w_sub1 hr.b (w_lst (a_cons (w_callF H__law_draw (hr.mono (by decide)) hq rfl (a_cons (w_var 0 (pv 0)) (a_cons w_int a_nil))) (a_cons w_int (a_cons w_int a_nil)))) (w_callF H__law_draw (hr.mono (by decide)) hq rfl (a_cons (w_var 0 (pv 0)) (a_cons w_int a_nil))) (fun _ _ => rfl)) a_nil)))))
  s_nil)
  (s_cons (s_if (wt_eq hr.b (w_var 1 (pv 1)) w_str)
  (s_one (s_ret (w_tup (a_cons w_str (a_cons (w_eq hr.b (w_callF H__law_draw (hr.mono (by decide)) hq rfl (a_cons (w_var 0 (pv 0)) (a_cons w_int a_nil))) w_int) a_nil)))))
  s_nil)
  (s_cons (s_if (wt_eq hr.b (w_var 1 (pv 1)) w_str)
  (s_one (s_ret (w_tup (a_cons w_str (a_cons w_str (a_cons (w_tup (a_cons w_str (a_cons w_str a_nil))) a_nil))))))
  s_nil)
  (s_one (s_ret (w_tup (a_cons w_str a_nil)))))))

theorem tm__law_let (T : Tx FX w K mg base) {k : Nat} {s__law_expression : TSp} {k__law_expression : Nat} (l__law_expression : k__law_expression ≤ k) (H__law_expression : FnK P w K mg base "_law_expression" k__law_expression p__law_expression s__law_expression) {k__law_draw : Nat} (l__law_draw : k__law_draw ≤ k) (H__law_draw : FnK P w K mg base "_law_draw" k__law_draw p__law_draw sp__law_draw) (cdv : Value) (A : Around) (outer : List Env) (s : Shared) (H : Hp) (E : XK) (hr : Room k (A.deeper (envOfC "_law_let" (defScope st__law_let) s.heap.objs.size (He.ga K "_law_let") cdv))) (hq : Qt (A.deeper (envOfC "_law_let" (defScope st__law_let) s.heap.objs.size (He.ga K "_law_let") cdv))) (hcd : cdv = .ref (He.codeOf K ("_law_let", none))) :
    PSs (cxOf CX0 P w K mg base N__law_let "_law_let" (defScope st__law_let) (He.ga K "_law_let") cdv A outer s H E).nox (defBody st__law_let) (LS K (t__law_let s__law_expression)) :=
  (s_cons (s_set (i := 4) sc__law_let.nd rfl (by first | exact .inl rfl | exact .inr rfl) (w_sub1 hr.b (w_lst (a_cons w_str (a_cons w_str (a_cons w_str a_nil)))) (w_callF H__law_draw (hr.mono l__law_draw) hq rfl (a_cons (w_var 0 (pv 0)) (a_cons w_int a_nil))) (fun _ _ => rfl)))
  (s_cons (s_set (i := 5) sc__law_let.nd rfl (by first | exact .inl rfl | exact .inr rfl) (w_sub1 hr.b (w_lst (a_cons w_str (a_cons w_str (a_cons w_str (a_cons w_str a_nil))))) (w_callF H__law_draw (hr.mono l__law_draw) hq rfl (a_cons (w_var 0 (pv 0)) (a_cons w_int a_nil))) (fun _ _ => rfl)))
  (s_cons (s_set (i := 6) sc__law_let.nd rfl (by first | exact .inl rfl | exact .inr rfl) (w_callF H__law_expression (hr.mono l__law_expression) hq rfl (a_cons (w_var 0 (pv 0)) (a_cons (w_var 1 (pv 1)) (a_cons (w_var 5 (pv 5)) (a_cons (w_var 3 (pv 3)) a_nil))))))
  (s_one (s_ret (w_tup (a_cons w_str (a_cons (w_var 4 (pv 4)) (a_cons (w_var 6 (pv 6)) (a_cons (w_callF H__law_expression (hr.mono l__law_expression) hq rfl (a_cons (w_var 0 (pv 0)) (a_cons (w_add (w_var 1 (pv 1)) (w_lst (a_cons (w_tup (a_cons (w_var 4 (pv 4)) (a_cons (w_var 5 (pv 5)) a_nil))) a_nil))) (a_cons (w_var 2 (pv 2)) (a_cons (w_var 3 (pv 3)) a_nil))))) a_nil))))))))))

theorem tm__law_function (T : Tx FX w K mg base) {k : Nat} {k__law_draw : Nat} (l__law_draw : k__law_draw ≤ k) (H__law_draw : FnK P w K mg base "_law_draw" k__law_draw p__law_draw sp__law_draw) {s__law_expression : TSp} {k__law_expression : Nat} (l__law_expression : k__law_expression ≤ k) (H__law_expression : FnK P w K mg base "_law_expression" k__law_expression p__law_expression s__law_expression) (cdv : Value) (A : Around) (outer : List Env) (s : Shared) (H : Hp) (E : XK) (hr : Room k (A.deeper (envOfC "_law_function" (defScope st__law_function) s.heap.objs.size (He.ga K "_law_function") cdv))) (hq : Qt (A.deeper (envOfC "_law_function" (defScope st__law_function) s.heap.objs.size (He.ga K "_law_function") cdv))) (hcd : cdv = .ref (He.codeOf K ("_law_function", none))) :
    PSs (cxOf CX0 P w K mg base N__law_function "_law_function" (defScope st__law_function) (He.ga K "_law_function") cdv A outer s H E).nox (defBody st__law_function) (LS K (t__law_function s__law_expression)) :=
  (s_cons (s_set (i := 3) sc__law_function.nd rfl (by first | exact .inl rfl | exact .inr rfl) (w_sub1 hr.b (w_lst (a_cons w_str (a_cons w_str (a_cons w_str a_nil)))) (w_callF H__law_draw (hr.mono l__law_draw) hq rfl (a_cons (w_var 0 (pv 0)) (a_cons w_int a_nil))) (fun _ _ => rfl)))
  (s_cons (s_set (i := 4) sc__law_function.nd rfl (by first | exact .inl rfl | exact .inr rfl) (w_sub1 hr.b (w_lst (a_cons w_str (a_cons w_str (a_cons w_str (a_cons w_str a_nil))))) (w_callF H__law_draw (hr.mono l__law_draw) hq rfl (a_cons (w_var 0 (pv 0)) (a_cons w_int a_nil))) (fun _ _ => rfl)))
  (s_cons (s_set (i := 5) sc__law_function.nd rfl (by first | exact .inl rfl | exact .inr rfl) (w_sub1 hr.b (w_lst (a_cons w_str (a_cons w_str (a_cons w_str (a_cons w_str a_nil))))) (w_callF H__law_draw (hr.mono l__law_draw) hq rfl (a_cons (w_var 0 (pv 0)) (a_cons w_int a_nil))) (fun _ _ => rfl)))
  (s_cons (s_if (wt_eq hr.b (w_callF H__law_draw (hr.mono l__law_draw) hq rfl (a_cons (w_var 0 (pv 0)) (a_cons w_int a_nil))) w_int)
  (s_one (s_ret (w_tup (a_cons w_str (a_cons w_str (a_cons (w_var 3 (pv 3)) (a_cons (w_callF H__law_expression (hr.mono l__law_expression) hq rfl (a_cons (w_var 0 (pv 0)) (a_cons (w_add (w_var 1 (pv 1)) (w_lst (a_cons (w_tup (a_cons w_str (a_cons w_str a_nil))) (a_cons (w_tup (a_cons (w_var 3 (pv 3)) (a_cons (w_var 4 (pv 4)) a_nil))) a_nil)))) (a_cons (w_var 5 (pv 5)) (a_cons (w_var 2 (pv 2)) a_nil))))) a_nil)))))))
  s_nil)
  (s_one (s_ret (w_tup (a_cons w_str (a_cons (w_var 3 (pv 3)) (a_cons (w_callF H__law_expression (hr.mono l__law_expression) hq rfl (a_cons (w_var 0 (pv 0)) (a_cons (w_add (w_var 1 (pv 1)) (w_lst (a_cons (w_tup (a_cons (w_var 3 (pv 3)) (a_cons (w_var 4 (pv 4)) a_nil))) a_nil))) (a_cons (w_var 5 (pv 5)) (a_cons (w_var 2 (pv 2)) a_nil))))) a_nil))))))))))

theorem tm__law_children (T : Tx FX w K mg base) (cdv : Value) (A : Around) (outer : List Env) (s : Shared) (H : Hp) (E : XK) (hr : Room 0 (A.deeper (envOfC "_law_children" (defScope st__law_children) s.heap.objs.size (He.ga K "_law_children") cdv))) (hq : Qt (A.deeper (envOfC "_law_children" (defScope st__law_children) s.heap.objs.size (He.ga K "_law_children") cdv))) (hcd : cdv = .ref (He.codeOf K ("_law_children", none))) :
    PSs (cxOf CX0 P w K mg base N__law_children "_law_children" (defScope st__law_children) (He.ga K "_law_children") cdv A outer s H E).nox (defBody st__law_children) (LS K (t__law_children)) :=
  (s_one (s_ret (w_lc (own := [("part", 1)]) rfl sc__law_children.nd (i_any (w_slice (w_var 0 (pv 0)) (o_some w_int) o_none)) (blkOk_by (N := N__law_children) (sc := defScope st__law_children) (by decide +kernel)) (fun _ _ _ _ _ => (gw_name (pg_name (i := 1) sc__law_children.nd rfl (by first | exact .inl rfl | exact .inr rfl)) (by decide))) (fun _ _ _ _ _ => (ts_one (w_truth (w_istup (by rfl) (T.fr "isinstance") (a_cons (w_var 1 (pv 1)) (a_cons (w_bty (by rfl) (T.fr "tuple") (by decide +kernel)) a_nil)))))) (fun _ _ _ _ _ => (w_var 1 (pv 1))))))

theorem tm__law_is_value (T : Tx FX w K mg base) {k : Nat} {s__law_is_value : TSp} {k__law_is_value : Nat} (l__law_is_value : k__law_is_value ≤ k) (H__law_is_value : FnK P w K mg base "_law_is_value" k__law_is_value p__law_is_value s__law_is_value) (cdv : Value) (A : Around) (outer : List Env) (s : Shared) (H : Hp) (E : XK) (hr : Room k (A.deeper (envOfC "_law_is_value" (defScope st__law_is_value) s.heap.objs.size (He.ga K "_law_is_value") cdv))) (hq : Qt (A.deeper (envOfC "_law_is_value" (defScope st__law_is_value) s.heap.objs.size (He.ga K "_law_is_value") cdv))) (hcd : cdv = .ref (He.codeOf K ("_law_is_value", none))) :
    PSs (cxOf CX0 P w K mg base N__law_is_value "_law_is_value" (defScope st__law_is_value) (He.ga K "_law_is_value") cdv A outer s H E).nox (defBody st__law_is_value) (LS K (t__law_is_value s__law_is_value)) :=
  (s_cons (s_while PassesOwn.never (PW.pt (w_and (wt_eq hr.b (w_sub1 hr.b (w_var 0 (pv 0)) w_int (fun _ _ => rfl)) w_str) (w_and1 (w_truth (w_callF H__law_is_value (hr.mono l__law_is_value) hq rfl (a_cons (w_sub1 hr.b (w_var 0 (pv 0)) w_int (fun _ _ => rfl)) a_nil))))))
  (s_cons (s_set (i := 0) sc__law_is_value.nd rfl (by first | exact .inl rfl | exact .inr rfl) (w_sub1 hr.b (w_var 0 (pv 0)) w_int (fun _ _ => rfl)))
  (s_one (s_if (PW.pt (w_and (wt_ne hr.b (w_sub1 hr.b (w_var 0 (pv 0)) w_int (fun _ _ => rfl)) w_str) (w_and1 (wt_ne hr.b (w_sub1 hr.b (w_var 0 (pv 0)) w_int (fun _ _ => rfl)) w_str))))
  (s_one (s_ret w_bl))
  s_nil))))
  (s_one (s_ret (w_in hr.b (w_sub1 hr.b (w_var 0 (pv 0)) w_int (fun _ _ => rfl)) (w_tup (a_cons w_str (a_cons w_str (a_cons w_str (a_cons w_str (a_cons w_str a_nil)))))) rfl))))

theorem tm__law_substituted (T : Tx FX w K mg base) {k : Nat} {s__law_substituted : TSp} {k__law_substituted : Nat} (l__law_substituted : k__law_substituted ≤ k) (H__law_substituted : FnK P w K mg base "_law_substituted" k__law_substituted p__law_substituted s__law_substituted) (cdv : Value) (A : Around) (outer : List Env) (s : Shared) (H : Hp) (E : XK) (hr : Room k (A.deeper (envOfC "_law_substituted" (defScope st__law_substituted) s.heap.objs.size (He.ga K "_law_substituted") cdv))) (hq : Qt (A.deeper (envOfC "_law_substituted" (defScope st__law_substituted) s.heap.objs.size (He.ga K "_law_substituted") cdv))) (hcd : cdv = .ref (He.codeOf K ("_law_substituted", none))) :
    PSs (cxOf CX0 P w K mg base N__law_substituted "_law_substituted" (defScope st__law_substituted) (He.ga K "_law_substituted") cdv A outer s H E).nox (defBody st__law_substituted) (LS K (t__law_substituted s__law_substituted)) :=
  (s_cons (s_set (i := 3) sc__law_substituted.nd rfl (by first | exact .inl rfl | exact .inr rfl) (w_sub1 hr.b (w_var 0 (pv 0)) w_int (fun _ _ => rfl)))
  (s_cons (s_if (wt_eq hr.b (w_var 3 (pv 3)) w_str)
  (s_one (s_ret (w_sub1 hr.b (w_lst (a_cons (w_var 0 (pv 0)) (a_cons (w_var 2 (pv 2)) a_nil))) (w_intc (by rfl) (T.fr "int") (a_cons (w_eq hr.b (w_sub1 hr.b (w_var 0 (pv 0)) w_int (fun _ _ => rfl)) (w_var 1 (pv 1))) a_nil)) (fun _ _ => rfl))))
  s_nil)
  (s_cons (s_if (PW.pt (w_or (PW.pt (w_and (wt_eq hr.b (w_var 3 (pv 3)) w_str) (w_and1 (wt_eq hr.b (w_sub1 hr.b (w_var 0 (pv 0)) w_int (fun _ _ => rfl)) (w_var 1 (pv 1)))))) (w_or1 (PW.pt (w_and (wt_eq hr.b (w_var 3 (pv 3)) w_str) (w_and1 (wt_in hr.b (w_var 1 (pv 1)) (w_slice (w_var 0 (pv 0)) (o_some w_int) (o_some w_int)) rfl)))))))
  (s_one (s_ret (w_var 0 (pv 0))))
  s_nil)
  (s_cons (s_if (PW.pt (w_and (wt_eq hr.b (w_var 3 (pv 3)) w_str) (w_and1 (wt_eq hr.b (w_sub1 hr.b (w_var 0 (pv 0)) w_int (fun _ _ => rfl)) (w_var 1 (pv 1))))))
  (s_one (s_ret (w_tup (a_cons w_str (a_cons (w_var 1 (pv 1)) (a_cons (w_callF H__law_substituted (hr.mono l__law_substituted) hq rfl (a_cons (w_sub1 hr.b (w_var 0 (pv 0)) w_int (fun _ _ => rfl)) (a_cons (w_var 1 (pv 1)) (a_cons (w_var 2 (pv 2)) a_nil)))) (a_cons (w_sub1 hr.b (w_var 0 (pv 0)) w_int (fun _ _ => rfl)) a_nil)))))))
  s_nil)
  (s_cons (s_set (i := 4) sc__law_substituted.nd rfl (by first | exact .inl rfl | exact .inr rfl) (w_tup a_nil))
  (s_cons (s_for PassesOwn.never rfl (i_any (w_var 0 (pv 0))) (g_name (pg_name (i := 5) sc__law_substituted.nd rfl (by first | exact .inl rfl | exact .inr rfl)))
  (s_cons (s_if (w_truth (w_istup (by rfl) (T.fr "isinstance") (a_cons (w_var 5 (pv 5)) (a_cons (w_bty (by rfl) (T.fr "tuple") (by decide +kernel)) a_nil))))
  (s_one (s_set (i := 5) sc__law_substituted.nd rfl (by first | exact .inl rfl | exact .inr rfl) (w_callF H__law_substituted (hr.mono l__law_substituted) hq rfl (a_cons (w_var 5 (pv 5)) (a_cons (w_var 1 (pv 1)) (a_cons (w_var 2 (pv 2)) a_nil))))))
  s_nil)
  (s_one (s_set (i := 4) sc__law_substituted.nd rfl (by first | exact .inl rfl | exact .inr rfl) (w_add (w_var 4 (pv 4)) (w_tup (a_cons (w_var 5 (pv 5)) a_nil)))))))
  (s_one (s_ret (w_var 4 (pv 4))))))))))

theorem tm__law_count (T : Tx FX w K mg base) (H__law_children : FnK P w K mg base "_law_children" 1 p__law_children sp__law_children) (cdv : Value) (A : Around) (outer : List Env) (s : Shared) (H : Hp) (E : XK) (hr : Room 1 (A.deeper (envOfC "_law_count" (defScope st__law_count) s.heap.objs.size (He.ga K "_law_count") cdv))) (hq : Qt (A.deeper (envOfC "_law_count" (defScope st__law_count) s.heap.objs.size (He.ga K "_law_count") cdv))) (hcd : cdv = .ref (He.codeOf K ("_law_count", none))) :
    PSs (cxOf CX0 P w K mg base N__law_count "_law_count" (defScope st__law_count) (He.ga K "_law_count") cdv A outer s H E).nox (defBody st__law_count) (LS K (t__law_count)) :=
  (s_cons (s_set (i := 1) sc__law_count.nd rfl (by first | exact .inl rfl | exact .inr rfl) w_int)
  (s_cons (s_set (i := 2) sc__law_count.nd rfl (by first | exact .inl rfl | exact .inr rfl) (w_lst (a_cons (w_var 0 (pv 0)) a_nil)))
  (s_cons (s_for PassesOwn.never rfl (i_range1 (by rfl) (T.fr "range") (a_cons w_int a_nil)) (g_name (pg_name (i := 3) sc__law_count.nd rfl (by first | exact .inl rfl | exact .inr rfl)))
  (s_one (s_if (wt_neN hr.b (w_var 2 (pv 2)) (w_lst a_nil))
  (s_cons (s_set (i := 1) sc__law_count.nd rfl (by first | exact .inl rfl | exact .inr rfl) (w_add (w_var 1 (pv 1)) w_int))
  (s_one (s_set (i := 2) sc__law_count.nd rfl (by first | exact .inl rfl | exact .inr rfl) (w_add (w_var 2 (pv 2)) (w_callF H__law_children (hr.mono (by decide)) hq rfl (a_cons (w_pop (w_var 2 (pv 2))) a_nil))))))
  s_nil)))
  (s_one (s_ret (w_var 1 (pv 1)))))))

theorem tm__law_needs (T : Tx FX w K mg base) (cdv : Value) (A : Around) (outer : List Env) (s : Shared) (H : Hp) (E : XK) (hr : Room 0 (A.deeper (envOfC "_law_needs" (defScope st__law_needs) s.heap.objs.size (He.ga K "_law_needs") cdv))) (hq : Qt (A.deeper (envOfC "_law_needs" (defScope st__law_needs) s.heap.objs.size (He.ga K "_law_needs") cdv))) (hcd : cdv = .ref (He.codeOf K ("_law_needs", none))) :
    PSs (cxOf CX0 P w K mg base N__law_needs "_law_needs" (defScope st__law_needs) (He.ga K "_law_needs") cdv A outer s H E).nox (defBody st__law_needs) (LS K (t__law_needs)) :=
  (s_cons (s_set (i := 1) sc__law_needs.nd rfl (by first | exact .inl rfl | exact .inr rfl) (w_sub1 hr.b (w_var 0 (pv 0)) w_int (fun _ _ => rfl)))
  (s_cons (s_if (wt_in hr.b (w_var 1 (pv 1)) (w_tup (a_cons w_str (a_cons w_str a_nil))) rfl)
  (s_one (s_ret (w_lst (a_cons w_int (a_cons w_int a_nil)))))
  s_nil)
  (s_cons (s_if (wt_in hr.b (w_var 1 (pv 1)) (w_tup (a_cons w_str (a_cons w_str (a_cons w_str a_nil)))) rfl)
  (s_one (s_ret (w_lst (a_cons w_int a_nil))))
  s_nil)
  (s_one (s_ret (w_sub1 hr.b (w_lst (a_cons (w_lst a_nil) (a_cons (w_lst (a_cons w_int a_nil)) (a_cons (w_lst (a_cons w_int (a_cons w_int a_nil))) a_nil)))) (w_add (w_intc (by rfl) (T.fr "int") (a_cons (w_eq hr.b (w_var 1 (pv 1)) w_str) a_nil)) (w_mul w_int (w_intc (by rfl) (T.fr "int") (a_cons (w_eq hr.b (w_var 1 (pv 1)) w_str) a_nil)))) (fun _ _ => rfl)))))))

theorem tm__law_own_step (T : Tx FX w K mg base) {k : Nat} {k__law_record_step : Nat} (l__law_record_step : k__law_record_step ≤ k) (H__law_record_step : FnK P w K mg base "_law_record_step" k__law_record_step p__law_record_step sp__law_record_step) {k__law_op_step : Nat} (l__law_op_step : k__law_op_step ≤ k) (H__law_op_step : FnK P w K mg base "_law_op_step" k__law_op_step p__law_op_step sp__law_op_step) {s__law_substituted : TSp} {k__law_substituted : Nat} (l__law_substituted : k__law_substituted ≤ k) (H__law_substituted : FnK P w K mg base "_law_substituted" k__law_substituted p__law_substituted s__law_substituted) (cdv : Value) (A : Around) (outer : List Env) (s : Shared) (H : Hp) (E : XK) (hr : Room k (A.deeper (envOfC "_law_own_step" (defScope st__law_own_step) s.heap.objs.size (He.ga K "_law_own_step") cdv))) (hq : Qt (A.deeper (envOfC "_law_own_step" (defScope st__law_own_step) s.heap.objs.size (He.ga K "_law_own_step") cdv))) (hcd : cdv = .ref (He.codeOf K ("_law_own_step", none))) :
    PSs (cxOf CX0 P w K mg base N__law_own_step "_law_own_step" (defScope st__law_own_step) (He.ga K "_law_own_step") cdv A outer s H E).nox (defBody st__law_own_step) (LS K (t__law_own_step s__law_substituted)) :=
  (s_cons (s_set (i := 2) sc__law_own_step.nd rfl (by first | exact .inl rfl | exact .inr rfl) (w_sub1 hr.b (w_var 0 (pv 0)) w_int (fun _ _ => rfl)))
  (s_cons (s_if (wt_eq hr.b (w_var 2 (pv 2)) w_str)
  (s_cons (s_setLc (i := 3) (own := [("pair", 4)]) rfl sc__law_own_step.nd rfl rfl (sw_true rfl rfl rfl (by decide +kernel)) (i_any (w_var 1 (pv 1))) (blkOk_by (N := N__law_own_step) (sc := defScope st__law_own_step) (by decide +kernel)) (fun _ _ _ _ _ => (gw_name (pg_name (i := 4) sc__law_own_step.nd rfl (by first | exact .inl rfl | exact .inr rfl)) (by decide))) (fun _ _ _ _ _ => (ts_one (wt_eq hr.b (w_sub1 hr.b (w_var 4 (pv 4)) w_int (fun _ _ => rfl)) (w_sub1 hr.b (w_var 0 (pv 0)) w_int (fun _ _ => rfl))))) (fun _ _ _ _ _ => (w_sub1 hr.b (w_var 4 (pv 4)) w_int (fun _ _ => rfl))))
  (s_cons (s_if (wt_eqN hr.b (w_var 3 (pv 3)) (w_lst a_nil))
  (s_one (s_ret (w_tup (a_cons w_str (a_cons w_str a_nil)))))
  s_nil)
  (s_one (s_ret (w_tup (a_cons w_str (a_cons (w_sub1 hr.b (w_var 3 (pv 3)) w_int (fun _ _ => rfl)) a_nil)))))))
  s_nil)
  (s_cons (s_if (PW.pt (w_and (wt_eq hr.b (w_var 2 (pv 2)) w_str) (w_and1 (wt_eq hr.b (w_sub1 hr.b (w_sub1 hr.b (w_var 0 (pv 0)) w_int (fun _ _ => rfl)) w_int (fun _ _ => rfl)) w_str))))
  (s_one (s_ret (w_tup (a_cons w_str (a_cons (w_callF H__law_substituted (hr.mono l__law_substituted) hq rfl (a_cons (w_sub1 hr.b (w_sub1 hr.b (w_var 0 (pv 0)) w_int (fun _ _ => rfl)) w_int (fun _ _ => rfl)) (a_cons (w_sub1 hr.b (w_sub1 hr.b (w_var 0 (pv 0)) w_int (fun _ _ => rfl)) w_int (fun _ _ => rfl)) (a_cons (w_sub1 hr.b (w_var 0 (pv 0)) w_int (fun _ _ => rfl)) a_nil)))) a_nil)))))
  s_nil)
  (s_cons (s_if (PW.pt (w_and (wt_eq hr.b (w_var 2 (pv 2)) w_str) (w_and1 (wt_eq hr.b (w_sub1 hr.b (w_sub1 hr.b (w_var 0 (pv 0)) w_int (fun _ _ => rfl)) w_int (fun _ _ => rfl)) w_str))))
  (s_cons (s_set (i := 5) sc__law_own_step.nd rfl (by first | exact .inl rfl | exact .inr rfl) (w_sub1 hr.b (w_sub1 hr.b (w_var 0 (pv 0)) w_int (fun _ _ => rfl)) w_int (fun _ _ => rfl)))
  (s_cons (s_if (wt_ne hr.b (w_sub1 hr.b (w_sub1 hr.b (w_var 0 (pv 0)) w_int (fun _ _ => rfl)) w_int (fun _ _ => rfl)) (w_sub1 hr.b (w_sub1 hr.b (w_var 0 (pv 0)) w_int (fun _ _ => rfl)) w_int (fun _ _ => rfl)))
  (s_one (s_set (i := 5) sc__law_own_step.nd rfl (by first | exact .inl rfl | exact .inr rfl) (w_callF H__law_substituted (hr.mono l__law_substituted) hq rfl (a_cons (w_var 5 (pv 5)) (a_cons (w_sub1 hr.b (w_sub1 hr.b (w_var 0 (pv 0)) w_int (fun _ _ => rfl)) w_int (fun _ _ => rfl)) (a_cons (w_sub1 hr.b (w_var 0 (pv 0)) w_int (fun _ _ => rfl)) a_nil))))))
  s_nil)
  (s_one (s_ret (w_tup (a_cons w_str (a_cons (w_callF H__law_substituted (hr.mono l__law_substituted) hq rfl (a_cons (w_var 5 (pv 5)) (a_cons (w_sub1 hr.b (w_sub1 hr.b (w_var 0 (pv 0)) w_int (fun _ _ => rfl)) w_int (fun _ _ => rfl)) (a_cons (w_sub1 hr.b (w_var 0 (pv 0)) w_int (fun _ _ => rfl)) a_nil)))) a_nil)))))))
  s_nil)
  (s_cons (s_if (wt_eq hr.b (w_var 2 (pv 2)) w_str)
  (s_one (s_ret (w_tup (a_cons w_str (a_cons w_str a_nil)))))
  s_nil)
  (s_cons (s_if (wt_eq hr.b (w_var 2 (pv 2)) w_str)
  (s_one (s_ret (w_tup (a_cons w_str (a_cons (w_callF H__law_substituted (hr.mono l__law_substituted) hq rfl (a_cons (w_sub1 hr.b (w_var 0 (pv 0)) w_int (fun _ _ => rfl)) (a_cons (w_sub1 hr.b (w_var 0 (pv 0)) w_int (fun _ _ => rfl)) (a_cons (w_sub1 hr.b (w_var 0 (pv 0)) w_int (fun _ _ => rfl)) a_nil)))) a_nil)))))
  s_nil)
  (s_cons (s_if (PW.pt (w_and (wt_eq hr.b (w_var 2 (pv 2)) w_str) (w_and1 (wt_eq hr.b (w_sub1 hr.b (w_sub1 hr.b (w_var 0 (pv 0)) w_int (fun _ _ => rfl)) w_int (fun _ _ => rfl)) w_str))))
  (s_one (s_ret (w_tup (a_cons w_str (a_cons (w_sub1 hr.b (w_lst (a_cons (w_sub1 hr.b (w_var 0 (pv 0)) w_int (fun _ _ => rfl)) (a_cons (w_sub1 hr.b (w_var 0 (pv 0)) w_int (fun _ _ => rfl)) a_nil))) (w_intc (by rfl) (T.fr "int") (a_cons (w_sub1 hr.b (w_sub1 hr.b (w_var 0 (pv 0)) w_int (fun _ _ => rfl)) w_int (fun _ _ => rfl)) a_nil)) (fun _ _ => rfl)) a_nil)))))
  s_nil)
  (s_cons (s_if (wt_eq hr.b (w_var 2 (pv 2)) w_str)
  (s_one (s_ret (w_tup (a_cons w_str (a_cons w_str a_nil)))))
  s_nil)
  (s_cons (s_if (wt_eq hr.b (w_var 2 (pv 2)) w_str)
  (s_one (s_ret (w_callF H__law_op_step (hr.mono l__law_op_step) hq rfl (a_cons (w_var 0 (pv 0)) a_nil))))
  s_nil)
  (s_one (s_ret (w_callF H__law_record_step (hr.mono l__law_record_step) hq rfl (a_cons (w_var 0 (pv 0)) a_nil)))))))))))))

theorem tm__law_op_step (T : Tx FX w K mg base) (cdv : Value) (A : Around) (outer : List Env) (s : Shared) (H : Hp) (E : XK) (hr : Room 0 (A.deeper (envOfC "_law_op_step" (defScope st__law_op_step) s.heap.objs.size (He.ga K "_law_op_step") cdv))) (hq : Qt (A.deeper (envOfC "_law_op_step" (defScope st__law_op_step) s.heap.objs.size (He.ga K "_law_op_step") cdv))) (hcd : cdv = .ref (He.codeOf K ("_law_op_step", none))) :
    PSs (cxOf CX0 P w K mg base N__law_op_step "_law_op_step" (defScope st__law_op_step) (He.ga K "_law_op_step") cdv A outer s H E).nox (defBody st__law_op_step) (LS K (t__law_op_step)) :=
  (s_cons (s_if (PW.pt (w_or (wt_ne hr.b (w_sub1 hr.b (w_sub1 hr.b (w_var 0 (pv 0)) w_int (fun _ _ => rfl)) w_int (fun _ _ => rfl)) w_str) (w_or1 (wt_ne hr.b (w_sub1 hr.b (w_sub1 hr.b (w_var 0 (pv 0)) w_int (fun _ _ => rfl)) w_int (fun _ _ => rfl)) w_str))))
  (s_one (s_ret (w_tup (a_cons w_str (a_cons w_str a_nil)))))
  s_nil)
  (s_cons (s_set (i := 1) sc__law_op_step.nd rfl (by first | exact .inl rfl | exact .inr rfl) (w_sub1 hr.b (w_sub1 hr.b (w_var 0 (pv 0)) w_int (fun _ _ => rfl)) w_int (fun _ _ => rfl)))
  (s_cons (s_set (i := 2) sc__law_op_step.nd rfl (by first | exact .inl rfl | exact .inr rfl) (w_sub1 hr.b (w_sub1 hr.b (w_var 0 (pv 0)) w_int (fun _ _ => rfl)) w_int (fun _ _ => rfl)))
  (s_cons (s_if (PW.pt (w_or (wt_eq hr.b (w_sub1 hr.b (w_var 0 (pv 0)) w_int (fun _ _ => rfl)) w_str) (w_or1 (wt_eq hr.b (w_sub1 hr.b (w_var 0 (pv 0)) w_int (fun _ _ => rfl)) w_str))))
  (s_one (s_ret (w_tup (a_cons w_str (a_cons (w_tup (a_cons w_str (a_cons (w_sub1 hr.b (w_lst (a_cons (w_eq hr.b (w_var 1 (pv 1)) (w_var 2 (pv 2))) (a_cons (w_lt (w_var 1 (pv 1)) (w_var 2 (pv 2))) a_nil))) (w_intc (by rfl) (T.fr "int") (a_cons (w_eq hr.b (w_sub1 hr.b (w_var 0 (pv 0)) w_int (fun _ _ => rfl)) w_str) a_nil)) (fun _ _ => rfl)) a_nil))) a_nil)))))
  s_nil)
  (s_cons (s_set (i := 3) sc__law_op_step.nd rfl (by first | exact .inl rfl | exact .inr rfl) (w_sub1 hr.b (w_lst (a_cons (w_sub (w_var 1 (pv 1)) (w_var 2 (pv 2))) (a_cons (w_add (w_var 1 (pv 1)) (w_var 2 (pv 2))) a_nil))) (w_intc (by rfl) (T.fr "int") (a_cons (w_eq hr.b (w_sub1 hr.b (w_var 0 (pv 0)) w_int (fun _ _ => rfl)) w_str) a_nil)) (fun _ _ => rfl)))
  (s_cons (s_if (PW.pt (w_or (wt_lt (w_var 3 (pv 3)) w_int) (w_or1 (wt_gt (w_var 3 (pv 3)) w_int))))
  (s_one (s_ret (w_tup (a_cons w_str a_nil))))
  s_nil)
  (s_one (s_ret (w_tup (a_cons w_str (a_cons (w_tup (a_cons w_str (a_cons (w_var 3 (pv 3)) a_nil))) a_nil)))))))))))

theorem tm__law_record_step (T : Tx FX w K mg base) (cdv : Value) (A : Around) (outer : List Env) (s : Shared) (H : Hp) (E : XK) (hr : Room 0 (A.deeper (envOfC "_law_record_step" (defScope st__law_record_step) s.heap.objs.size (He.ga K "_law_record_step") cdv))) (hq : Qt (A.deeper (envOfC "_law_record_step" (defScope st__law_record_step) s.heap.objs.size (He.ga K "_law_record_step") cdv))) (hcd : cdv = .ref (He.codeOf K ("_law_record_step", none))) :
    PSs (cxOf CX0 P w K mg base N__law_record_step "_law_record_step" (defScope st__law_record_step) (He.ga K "_law_record_step") cdv A outer s H E).nox (defBody st__law_record_step) (LS K (t__law_record_step)) :=
  (s_cons (s_if (PW.pt (w_or (wt_eq hr.b (w_sub1 hr.b (w_var 0 (pv 0)) w_int (fun _ _ => rfl)) w_str) (w_or1 (PW.pt (w_and (wt_ne hr.b (w_sub1 hr.b (w_sub1 hr.b (w_var 0 (pv 0)) w_int (fun _ _ => rfl)) w_int (fun _ _ => rfl)) w_str) (w_and1 (wt_ne hr.b (w_sub1 hr.b (w_sub1 hr.b (w_var 0 (pv 0)) w_int (fun _ _ => rfl)) w_int (fun _ _ => rfl)) w_str)))))))
  (s_one (s_ret (w_tup (a_cons w_str (a_cons w_str a_nil)))))
  s_nil)
  (s_cons (s_set (i := 1) sc__law_record_step.nd rfl (by first | exact .inl rfl | exact .inr rfl) (w_lst a_nil))
  (s_cons (s_set (i := 2) sc__law_record_step.nd rfl (by first | exact .inl rfl | exact .inr rfl) (w_sub1 hr.b (w_var 0 (pv 0)) w_int (fun _ _ => rfl)))
  (s_cons (s_while PassesOwn.never (PW.pt (w_and (wt_eq hr.b (w_sub1 hr.b (w_var 2 (pv 2)) w_int (fun _ _ => rfl)) w_str) (w_and1 (wt_ne hr.b (w_sub1 hr.b (w_var 2 (pv 2)) w_int (fun _ _ => rfl)) (w_sub1 hr.b (w_var 0 (pv 0)) w_int (fun _ _ => rfl))))))
  (s_cons (s_expr (w_append (w_var 1 (pv 1)) (a_cons (w_tup (a_cons (w_sub1 hr.b (w_var 2 (pv 2)) w_int (fun _ _ => rfl)) (a_cons (w_sub1 hr.b (w_var 2 (pv 2)) w_int (fun _ _ => rfl)) a_nil))) a_nil)))
  (s_one (s_set (i := 2) sc__law_record_step.nd rfl (by first | exact .inl rfl | exact .inr rfl) (w_sub1 hr.b (w_var 2 (pv 2)) w_int (fun _ _ => rfl))))))
  (s_cons (s_if (wt_eq hr.b (w_sub1 hr.b (w_var 2 (pv 2)) w_int (fun _ _ => rfl)) w_str)
  (s_one (s_ret (w_tup (a_cons w_str (a_cons w_str a_nil)))))
  s_nil)
  (s_cons (s_if (wt_eq hr.b (w_sub1 hr.b (w_var 0 (pv 0)) w_int (fun _ _ => rfl)) w_str)
  (s_one (s_ret (w_tup (a_cons w_str (a_cons (w_sub1 hr.b (w_var 2 (pv 2)) w_int (fun _ _ => rfl)) a_nil)))))
  s_nil)
  (s_cons (s_set (i := 3) sc__law_record_step.nd rfl (by first | exact .inl rfl | exact .inr rfl) (w_sub1 hr.b (w_var 2 (pv 2)) w_int (fun _ _ => rfl)))
  (s_cons (s_for PassesOwn.never rfl (i_any (w_revs (w_var 1 (pv 1)))) (g_tup rfl (gs_cons (g_name (pg_name (i := 4) sc__law_record_step.nd rfl (by first | exact .inl rfl | exact .inr rfl))) (gs_cons (g_name (pg_name (i := 5) sc__law_record_step.nd rfl (by first | exact .inl rfl | exact .inr rfl))) gs_nil)))
  (s_one (s_set (i := 3) sc__law_record_step.nd rfl (by first | exact .inl rfl | exact .inr rfl) (w_tup (a_cons w_str (a_cons (w_var 4 (pv 4)) (a_cons (w_var 5 (pv 5)) (a_cons (w_var 3 (pv 3)) a_nil))))))))
  (s_one (s_ret (w_tup (a_cons w_str (a_cons (w_var 3 (pv 3)) a_nil)))))))))))))

theorem tm__law_step_in (T : Tx FX w K mg base) {k : Nat} {k__law_needs : Nat} (l__law_needs : k__law_needs ≤ k) (H__law_needs : FnK P w K mg base "_law_needs" k__law_needs p__law_needs sp__law_needs) {s__law_own_step : TSp} {k__law_own_step : Nat} (l__law_own_step : k__law_own_step ≤ k) (H__law_own_step : FnK P w K mg base "_law_own_step" k__law_own_step p__law_own_step s__law_own_step) {s__law_is_value : TSp} {k__law_is_value : Nat} (l__law_is_value : k__law_is_value ≤ k) (H__law_is_value : FnK P w K mg base "_law_is_value" k__law_is_value p__law_is_value s__law_is_value) {s__law_step_in : TSp} {k__law_step_in : Nat} (l__law_step_in : k__law_step_in ≤ k) (H__law_step_in : FnK P w K mg base "_law_step_in" k__law_step_in p__law_step_in s__law_step_in) (cdv : Value) (A : Around) (outer : List Env) (s : Shared) (H : Hp) (E : XK) (hr : Room k (A.deeper (envOfC "_law_step_in" (defScope st__law_step_in) s.heap.objs.size (He.ga K "_law_step_in") cdv))) (hq : Qt (A.deeper (envOfC "_law_step_in" (defScope st__law_step_in) s.heap.objs.size (He.ga K "_law_step_in") cdv))) (hcd : cdv = .ref (He.codeOf K ("_law_step_in", none))) :
    PSs (cxOf CX0 P w K mg base N__law_step_in "_law_step_in" (defScope st__law_step_in) (He.ga K "_law_step_in") cdv A outer s H E).nox (defBody st__law_step_in) (LS K (t__law_step_in s__law_own_step s__law_is_value s__law_step_in)) :=
  (s_cons (s_for PassesOwn.never rfl (i_any (w_callF H__law_needs (hr.mono l__law_needs) hq rfl (a_cons (w_var 0 (pv 0)) a_nil))) (g_name (pg_name (i := 2) sc__law_step_in.nd rfl (by first | exact .inl rfl | exact .inr rfl)))
  (s_one (s_if (w_not (w_truth (w_callF H__law_is_value (hr.mono l__law_is_value) hq rfl (a_cons (w_sub1 hr.b (w_var 0 (pv 0)) (w_var 2 (pv 2)) (fun _ _ => rfl)) a_nil))))
  (s_cons (s_set (i := 3) sc__law_step_in.nd rfl (by first | exact .inl rfl | exact .inr rfl) (w_callF H__law_step_in (hr.mono l__law_step_in) hq rfl (a_cons (w_sub1 hr.b (w_var 0 (pv 0)) (w_var 2 (pv 2)) (fun _ _ => rfl)) (a_cons (w_var 1 (pv 1)) a_nil))))
  (s_cons (s_if (wt_ne hr.b (w_sub1 hr.b (w_var 3 (pv 3)) w_int (fun _ _ => rfl)) w_str)
  (s_one (s_ret (w_var 3 (pv 3))))
  s_nil)
  (s_one (s_ret (w_tup (a_cons w_str (a_cons (w_add (w_add (w_slice (w_var 0 (pv 0)) o_none (o_some (w_var 2 (pv 2)))) (w_tup (a_cons (w_sub1 hr.b (w_var 3 (pv 3)) w_int (fun _ _ => rfl)) a_nil))) (w_slice (w_var 0 (pv 0)) (o_some (w_add (w_var 2 (pv 2)) w_int)) o_none)) a_nil)))))))
  s_nil)))
  (s_one (s_ret (w_callF H__law_own_step (hr.mono l__law_own_step) hq rfl (a_cons (w_var 0 (pv 0)) (a_cons (w_var 1 (pv 1)) a_nil))))))

theorem tm__law_stepped (T : Tx FX w K mg base) {k : Nat} {s__law_is_value : TSp} {k__law_is_value : Nat} (l__law_is_value : k__law_is_value ≤ k) (H__law_is_value : FnK P w K mg base "_law_is_value" k__law_is_value p__law_is_value s__law_is_value) {s__law_step_in : TSp} {k__law_step_in : Nat} (l__law_step_in : k__law_step_in ≤ k) (H__law_step_in : FnK P w K mg base "_law_step_in" k__law_step_in p__law_step_in s__law_step_in) {k__law_count : Nat} (l__law_count : k__law_count ≤ k) (H__law_count : FnK P w K mg base "_law_count" k__law_count p__law_count sp__law_count) (cdv : Value) (A : Around) (outer : List Env) (s : Shared) (H : Hp) (E : XK) (hr : Room k (A.deeper (envOfC "_law_stepped" (defScope st__law_stepped) s.heap.objs.size (He.ga K "_law_stepped") cdv))) (hq : Qt (A.deeper (envOfC "_law_stepped" (defScope st__law_stepped) s.heap.objs.size (He.ga K "_law_stepped") cdv))) (hcd : cdv = .ref (He.codeOf K ("_law_stepped", none))) :
    PSs (cxOf CX0 P w K mg base N__law_stepped "_law_stepped" (defScope st__law_stepped) (He.ga K "_law_stepped") cdv A outer s H E).nox (defBody st__law_stepped) (LS K (t__law_stepped s__law_is_value s__law_step_in)) :=
  (s_cons (s_if (w_truth (w_callF H__law_is_value (hr.mono l__law_is_value) hq rfl (a_cons (w_var 0 (pv 0)) a_nil)))
  (s_one (s_ret (w_tup (a_cons w_str a_nil))))
  s_nil)
  (s_cons (s_if (wt_gt (w_callF H__law_count (hr.mono l__law_count) hq rfl (a_cons (w_var 0 (pv 0)) a_nil)) w_int)
  (s_one (s_ret (w_tup (a_cons w_str a_nil))))
  s_nil)
  (s_one (s_ret (w_callF H__law_step_in (hr.mono l__law_step_in) hq rfl (a_cons (w_var 0 (pv 0)) (a_cons (w_var 1 (pv 1)) a_nil)))))))

theorem tm__law_book (T : Tx FX w K mg base) {k : Nat} {s__law_function : TSp} {k__law_function : Nat} (l__law_function : k__law_function ≤ k) (H__law_function : FnK P w K mg base "_law_function" k__law_function p__law_function s__law_function) {s__law_expression : TSp} {k__law_expression : Nat} (l__law_expression : k__law_expression ≤ k) (H__law_expression : FnK P w K mg base "_law_expression" k__law_expression p__law_expression s__law_expression) {k__law_draw : Nat} (l__law_draw : k__law_draw ≤ k) (H__law_draw : FnK P w K mg base "_law_draw" k__law_draw p__law_draw sp__law_draw) (cdv : Value) (A : Around) (outer : List Env) (s : Shared) (H : Hp) (E : XK) (hr : Room k (A.deeper (envOfC "_law_book" (defScope st__law_book) s.heap.objs.size (He.ga K "_law_book") cdv))) (hq : Qt (A.deeper (envOfC "_law_book" (defScope st__law_book) s.heap.objs.size (He.ga K "_law_book") cdv))) (hcd : cdv = .ref (He.codeOf K ("_law_book", none))) :
    PSs (cxOf CX0 P w K mg base N__law_book "_law_book" (defScope st__law_book) (He.ga K "_law_book") cdv A outer s H E).nox (defBody st__law_book) (LS K (t__law_book s__law_function s__law_expression)) :=
  (s_cons (s_set (i := 1) sc__law_book.nd rfl (by first | exact .inl rfl | exact .inr rfl) (w_callF H__law_function (hr.mono l__law_function) hq rfl (a_cons (w_var 0 (pv 0)) (a_cons (w_lst (a_cons (w_tup (a_cons w_str (a_cons w_str a_nil))) (a_cons (w_tup (a_cons w_str (a_cons w_str a_nil))) a_nil))) (a_cons (w_lst (a_cons w_int a_nil)) a_nil)))))
  (s_cons (s_set (i := 2) sc__law_book.nd rfl (by first | exact .inl rfl | exact .inr rfl) (w_callF H__law_expression (hr.mono l__law_expression) hq rfl (a_cons (w_var 0 (pv 0)) (a_cons (w_lst (a_cons (w_tup (a_cons w_str (a_cons w_str a_nil))) a_nil)) (a_cons w_str (a_cons (w_lst (a_cons w_int a_nil)) a_nil))))))
  (s_one (s_ret (w_slice (w_tup (a_cons (w_tup (a_cons w_str (a_cons (w_var 1 (pv 1)) a_nil))) (a_cons (w_tup (a_cons w_str (a_cons (w_var 2 (pv 2)) a_nil))) a_nil))) (o_some (w_callF H__law_draw (hr.mono l__law_draw) hq rfl (a_cons (w_var 0 (pv 0)) (a_cons w_int a_nil)))) o_none)))))

theorem tm__law_mixed (T : Tx FX w K mg base) {k : Nat} {k__law_draw : Nat} (l__law_draw : k__law_draw ≤ k) (H__law_draw : FnK P w K mg base "_law_draw" k__law_draw p__law_draw sp__law_draw) {s__law_expression : TSp} {k__law_expression : Nat} (l__law_expression : k__law_expression ≤ k) (H__law_expression : FnK P w K mg base "_law_expression" k__law_expression p__law_expression s__law_expression) {k__law_pick : Nat} (l__law_pick : k__law_pick ≤ k) (H__law_pick : FnK P w K mg base "_law_pick" k__law_pick p__law_pick sp__law_pick) {k__law_leaf : Nat} (l__law_leaf : k__law_leaf ≤ k) (H__law_leaf : FnK P w K mg base "_law_leaf" k__law_leaf p__law_leaf sp__law_leaf) (cdv : Value) (A : Around) (outer : List Env) (s : Shared) (H : Hp) (E : XK) (hr : Room k (A.deeper (envOfC "_law_mixed" (defScope st__law_mixed) s.heap.objs.size (He.ga K "_law_mixed") cdv))) (hq : Qt (A.deeper (envOfC "_law_mixed" (defScope st__law_mixed) s.heap.objs.size (He.ga K "_law_mixed") cdv))) (hcd : cdv = .ref (He.codeOf K ("_law_mixed", none))) :
    PSs (cxOf CX0 P w K mg base N__law_mixed "_law_mixed" (defScope st__law_mixed) (He.ga K "_law_mixed") cdv A outer s H E).nox (defBody st__law_mixed) (LS K (t__law_mixed s__law_expression)) :=
  (s_cons (s_set (i := 3) sc__law_mixed.nd rfl (by first | exact .inl rfl | exact .inr rfl) (w_callF H__law_draw (hr.mono l__law_draw) hq rfl (a_cons (w_var 0 (pv 0)) (a_cons w_int a_nil))))
  (s_cons (s_set (i := 4) sc__law_mixed.nd rfl (by first | exact .inl rfl | exact .inr rfl) (w_callF H__law_expression (hr.mono l__law_expression) hq rfl (a_cons (w_var 0 (pv 0)) (a_cons (w_var 1 (pv 1)) (a_cons w_str (a_cons (w_lst (a_cons (w_var 2 (pv 2)) a_nil)) a_nil))))))
  (s_cons (s_set (i := 5) sc__law_mixed.nd rfl (by first | exact .inl rfl | exact .inr rfl) (w_callF H__law_expression (hr.mono l__law_expression) hq rfl (a_cons (w_var 0 (pv 0)) (a_cons (w_var 1 (pv 1)) (a_cons w_str (a_cons (w_lst (a_cons (w_var 2 (pv 2)) a_nil)) a_nil))))))
  (s_cons (s_if (wt_eq hr.b (w_var 3 (pv 3)) w_int)
  (s_one (s_ret (w_tup (a_cons w_str (a_cons (w_callF H__law_pick (hr.mono l__law_pick) hq rfl (a_cons (w_var 0 (pv 0)) (a_cons (w_lst (a_cons w_str (a_cons w_str (a_cons w_str (a_cons w_str a_nil))))) a_nil))) (a_cons (w_var 4 (pv 4)) (a_cons (w_var 5 (pv 5)) a_nil)))))))
  s_nil)
  (s_cons (s_if (wt_eq hr.b (w_var 3 (pv 3)) w_int)
  (s_one (s_ret (w_tup (a_cons w_str (a_cons (w_var 4 (pv 4)) (a_cons (w_var 5 (pv 5)) a_nil))))))
  s_nil)
  (s_cons (s_if (wt_eq hr.b (w_var 3 (pv 3)) w_int)
  (s_one (s_ret (w_tup (a_cons w_str (a_cons (w_var 4 (pv 4)) (a_cons (w_var 5 (pv 5)) (a_cons (w_callF H__law_leaf (hr.mono l__law_leaf) hq rfl (a_cons (w_var 0 (pv 0)) (a_cons w_str a_nil))) a_nil)))))))
  s_nil)
  (s_cons (s_if (wt_eq hr.b (w_var 3 (pv 3)) w_int)
  (s_one (s_ret (w_tup (a_cons w_str (a_cons (w_callF H__law_pick (hr.mono l__law_pick) hq rfl (a_cons (w_var 0 (pv 0)) (a_cons (w_lst (a_cons w_str (a_cons w_str a_nil))) a_nil))) (a_cons (w_var 4 (pv 4)) (a_cons (w_var 5 (pv 5)) a_nil)))))))
  s_nil)
  (s_cons (s_if (wt_eq hr.b (w_var 3 (pv 3)) w_int)
  (s_one (s_ret (w_tup (a_cons (w_sub1 hr.b (w_lst (a_cons w_str (a_cons w_str a_nil))) (w_callF H__law_draw (hr.mono l__law_draw) hq rfl (a_cons (w_var 0 (pv 0)) (a_cons w_int a_nil))) (fun _ _ => rfl)) (a_cons (w_callF H__law_pick (hr.mono l__law_pick) hq rfl (a_cons (w_var 0 (pv 0)) (a_cons (w_lst (a_cons w_str (a_cons w_str (a_cons w_str a_nil)))) a_nil))) (a_cons (w_var 4 (pv 4)) a_nil))))))
  s_nil)
  (s_one (s_ret (w_tup (a_cons w_str (a_cons w_str (a_cons (w_var 4 (pv 4)) (a_cons (w_tup (a_cons w_str (a_cons (w_tup (a_cons w_str (a_cons w_str (a_cons (w_var 5 (pv 5)) a_nil)))) (a_cons (w_tup (a_cons w_str (a_cons w_str a_nil))) a_nil)))) a_nil)))))))))))))))

theorem tm__law_great (T : Tx FX w K mg base) (H__law_draw : FnK P w K mg base "_law_draw" 1 p__law_draw sp__law_draw) (cdv : Value) (A : Around) (outer : List Env) (s : Shared) (H : Hp) (E : XK) (hr : Room 1 (A.deeper (envOfC "_law_great" (defScope st__law_great) s.heap.objs.size (He.ga K "_law_great") cdv))) (hq : Qt (A.deeper (envOfC "_law_great" (defScope st__law_great) s.heap.objs.size (He.ga K "_law_great") cdv))) (hcd : cdv = .ref (He.codeOf K ("_law_great", none))) :
    PSs (cxOf CX0 P w K mg base N__law_great "_law_great" (defScope st__law_great) (He.ga K "_law_great") cdv A outer s H E).nox (defBody st__law_great) (LS K (t__law_great)) :=
  (s_cons (s_set (i := 1) sc__law_great.nd rfl (by first | exact .inl rfl | exact .inr rfl) (w_callF H__law_draw (hr.mono (by decide)) hq rfl (a_cons (w_var 0 (pv 0)) (a_cons w_int a_nil))))
  (s_cons (s_if (wt_eq hr.b (w_var 1 (pv 1)) w_int)
  (s_cons (s_set (i := 2) sc__law_great.nd rfl (by first | exact .inl rfl | exact .inr rfl) (w_tup (a_cons w_str (a_cons (w_tup (a_cons w_str (a_cons w_str a_nil))) (a_cons (w_tup (a_cons w_str (a_cons w_str a_nil))) a_nil)))))
  (s_one (s_ret (w_tup (a_cons w_str (a_cons (w_tup (a_cons w_str (a_cons w_str (a_cons w_str (a_cons (w_tup (a_cons w_str (a_cons w_str (a_cons (w_var 2 (pv 2)) (a_cons (w_var 2 (pv 2)) a_nil))))) a_nil))))) (a_cons (w_tup (a_cons w_str (a_cons w_int a_nil))) a_nil)))))))
  s_nil)
  (s_cons (s_set (i := 3) sc__law_great.nd rfl (by first | exact .inl rfl | exact .inr rfl) (w_tup (a_cons w_str (a_cons w_str a_nil))))
  (s_cons (s_set (i := 4) sc__law_great.nd rfl (by first | exact .inl rfl | exact .inr rfl) (w_tup (a_cons w_str (a_cons w_str (a_cons (w_var 3 (pv 3)) (a_cons (w_tup (a_cons w_str (a_cons w_str (a_cons (w_var 3 (pv 3)) (a_cons (w_var 3 (pv 3)) a_nil))))) a_nil))))))
  (s_cons (s_if (wt_eq hr.b (w_var 1 (pv 1)) w_int)
  (s_one (s_ret (w_tup (a_cons w_str (a_cons (w_tup (a_cons w_str (a_cons w_str (a_cons w_str (a_cons (w_tup (a_cons w_str (a_cons (w_tup (a_cons w_str (a_cons w_str a_nil))) (a_cons (w_var 4 (pv 4)) a_nil)))) a_nil))))) (a_cons (w_tup (a_cons w_str a_nil)) a_nil))))))
  s_nil)
  (s_cons (s_if (wt_eq hr.b (w_var 1 (pv 1)) w_int)
  (s_cons (s_set (i := 5) sc__law_great.nd rfl (by first | exact .inl rfl | exact .inr rfl) (w_tup (a_cons w_str a_nil)))
  (s_cons (s_for PassesOwn.never rfl (i_range1 (by rfl) (T.fr "range") (a_cons (w_add w_int (w_callF H__law_draw (hr.mono (by decide)) hq rfl (a_cons (w_var 0 (pv 0)) (a_cons w_int a_nil)))) a_nil)) (g_name (pg_name (i := 6) sc__law_great.nd rfl (by first | exact .inl rfl | exact .inr rfl)))
  (s_one (s_set (i := 5) sc__law_great.nd rfl (by first | exact .inl rfl | exact .inr rfl) (w_tup (a_cons w_str (a_cons (w_tup (a_cons w_str (a_cons w_str (a_cons (w_var 4 (pv 4)) a_nil)))) (a_cons (w_var 5 (pv 5)) a_nil)))))))
  (s_one (s_ret (w_var 5 (pv 5))))))
  s_nil)
  (s_cons (s_if (wt_eq hr.b (w_var 1 (pv 1)) w_int)
  (s_one (s_ret (w_tup (a_cons w_str (a_cons w_str (a_cons (w_tup (a_cons w_str (a_cons (w_add w_int (w_callF H__law_draw (hr.mono (by decide)) hq rfl (a_cons (w_var 0 (pv 0)) (a_cons w_int a_nil)))) a_nil))) (a_cons (w_tup (a_cons w_str (a_cons (w_callF H__law_draw (hr.mono (by decide)) hq rfl (a_cons (w_var 0 (pv 0)) (a_cons w_int a_nil))) a_nil))) a_nil)))))))
  s_nil)
  (s_one (s_ret (w_tup (a_cons w_str (a_cons w_str (a_cons (w_tup (a_cons w_str (a_cons (w_callF H__law_draw (hr.mono (by decide)) hq rfl (a_cons (w_var 0 (pv 0)) (a_cons w_int a_nil))) a_nil))) (a_cons (w_tup (a_cons w_str (a_cons (w_callF H__law_draw (hr.mono (by decide)) hq rfl (a_cons (w_var 0 (pv 0)) (a_cons w_int a_nil))) a_nil))) a_nil))))))))))))))

theorem tm__law_running (T : Tx FX w K mg base) {k : Nat} {k__law_draw : Nat} (l__law_draw : k__law_draw ≤ k) (H__law_draw : FnK P w K mg base "_law_draw" k__law_draw p__law_draw sp__law_draw) {s__law_expression : TSp} {k__law_expression : Nat} (l__law_expression : k__law_expression ≤ k) (H__law_expression : FnK P w K mg base "_law_expression" k__law_expression p__law_expression s__law_expression) {k__law_great : Nat} (l__law_great : k__law_great ≤ k) (H__law_great : FnK P w K mg base "_law_great" k__law_great p__law_great sp__law_great) {s__law_mixed : TSp} {k__law_mixed : Nat} (l__law_mixed : k__law_mixed ≤ k) (H__law_mixed : FnK P w K mg base "_law_mixed" k__law_mixed p__law_mixed s__law_mixed) (cdv : Value) (A : Around) (outer : List Env) (s : Shared) (H : Hp) (E : XK) (hr : Room k (A.deeper (envOfC "_law_running" (defScope st__law_running) s.heap.objs.size (He.ga K "_law_running") cdv))) (hq : Qt (A.deeper (envOfC "_law_running" (defScope st__law_running) s.heap.objs.size (He.ga K "_law_running") cdv))) (hcd : cdv = .ref (He.codeOf K ("_law_running", none))) :
    PSs (cxOf CX0 P w K mg base N__law_running "_law_running" (defScope st__law_running) (He.ga K "_law_running") cdv A outer s H E).nox (defBody st__law_running) (LS K (t__law_running s__law_expression s__law_mixed)) :=
  (s_cons (s_set (i := 2) sc__law_running.nd rfl (by first | exact .inl rfl | exact .inr rfl) (w_slice (w_lst (a_cons (w_tup (a_cons w_str (a_cons w_str a_nil))) (a_cons (w_tup (a_cons w_str (a_cons w_str a_nil))) a_nil))) (o_some (w_sub w_int (w_len (by rfl) (T.fr "len") (a_cons (w_var 1 (pv 1)) a_nil)))) o_none))
  (s_cons (s_set (i := 3) sc__law_running.nd rfl (by first | exact .inl rfl | exact .inr rfl) (w_callF H__law_draw (hr.mono l__law_draw) hq rfl (a_cons (w_var 0 (pv 0)) (a_cons w_int a_nil))))
  (s_cons (s_if (wt_eq hr.b (w_var 3 (pv 3)) w_int)
  (s_one (s_ret (w_callF H__law_great (hr.mono l__law_great) hq rfl (a_cons (w_var 0 (pv 0)) a_nil))))
  s_nil)
  (s_cons (s_if (wt_lt (w_var 3 (pv 3)) w_int)
  (s_one (s_ret (w_callF H__law_mixed (hr.mono l__law_mixed) hq rfl (a_cons (w_var 0 (pv 0)) (a_cons (w_var 2 (pv 2)) (a_cons w_int a_nil))))))
  s_nil)
  (s_one (s_ret (w_callF H__law_expression (hr.mono l__law_expression) hq rfl (a_cons (w_var 0 (pv 0)) (a_cons (w_var 2 (pv 2)) (a_cons w_str (a_cons (w_lst (a_cons w_int a_nil)) a_nil)))))))))))

theorem tm__law_run (T : Tx FX w K mg base) {k : Nat} {s__law_stepped : TSp} {k__law_stepped : Nat} (l__law_stepped : k__law_stepped ≤ k) (H__law_stepped : FnK P w K mg base "_law_stepped" k__law_stepped p__law_stepped s__law_stepped) (cdv : Value) (A : Around) (outer : List Env) (s : Shared) (H : Hp) (E : XK) (hr : Room k (A.deeper (envOfC "_law_run" (defScope st__law_run) s.heap.objs.size (He.ga K "_law_run") cdv))) (hq : Qt (A.deeper (envOfC "_law_run" (defScope st__law_run) s.heap.objs.size (He.ga K "_law_run") cdv))) (hcd : cdv = .ref (He.codeOf K ("_law_run", none))) :
    PSs (cxOf CX0 P w K mg base N__law_run "_law_run" (defScope st__law_run) (He.ga K "_law_run") cdv A outer s H E).nox (defBody st__law_run) (LS K (t__law_run s__law_stepped)) :=
  (s_cons (s_for PassesOwn.never rfl (i_range1 (by rfl) (T.fr "range") (a_cons (w_add (w_var 2 (pv 2)) w_int) a_nil)) (g_name (pg_name (i := 3) sc__law_run.nd rfl (by first | exact .inl rfl | exact .inr rfl)))
  (s_cons (s_set (i := 4) sc__law_run.nd rfl (by first | exact .inl rfl | exact .inr rfl) (w_callF H__law_stepped (hr.mono l__law_stepped) hq rfl (a_cons (w_var 0 (pv 0)) (a_cons (w_var 1 (pv 1)) a_nil))))
  (s_cons (s_if (wt_ne hr.b (w_sub1 hr.b (w_var 4 (pv 4)) w_int (fun _ _ => rfl)) w_str)
  (s_one (s_ret (w_tup (a_cons (w_sub1 hr.b (w_var 4 (pv 4)) w_int (fun _ _ => rfl)) (a_cons (w_var 3 (pv 3)) (a_cons (w_var 0 (pv 0)) a_nil))))))
  s_nil)
  (s_cons (s_if (wt_eq hr.b (w_var 3 (pv 3)) (w_var 2 (pv 2)))
  (s_one (s_ret (w_tup (a_cons w_str (a_cons (w_var 3 (pv 3)) (a_cons (w_var 0 (pv 0)) a_nil))))))
  s_nil)
  (s_one (s_set (i := 0) sc__law_run.nd rfl (by first | exact .inl rfl | exact .inr rfl) (w_sub1 hr.b (w_var 4 (pv 4)) w_int (fun _ _ => rfl))))))))
  (s_one (s_ret (w_tup (a_cons w_str (a_cons w_int (a_cons (w_var 0 (pv 0)) a_nil)))))))

theorem tm_law (T : Tx FX w K mg base) {k : Nat} {k__law_digits : Nat} (l__law_digits : k__law_digits ≤ k) (H__law_digits : FnK P w K mg base "_law_digits" k__law_digits p__law_digits sp__law_digits) {s__law_book : TSp} {k__law_book : Nat} (l__law_book : k__law_book ≤ k) (H__law_book : FnK P w K mg base "_law_book" k__law_book p__law_book s__law_book) {s__law_running : TSp} {k__law_running : Nat} (l__law_running : k__law_running ≤ k) (H__law_running : FnK P w K mg base "_law_running" k__law_running p__law_running s__law_running) {k__law_pick : Nat} (l__law_pick : k__law_pick ≤ k) (H__law_pick : FnK P w K mg base "_law_pick" k__law_pick p__law_pick sp__law_pick) {s__law_run : TSp} {k__law_run : Nat} (l__law_run : k__law_run ≤ k) (H__law_run : FnK P w K mg base "_law_run" k__law_run p__law_run s__law_run) {k__law_draw : Nat} (l__law_draw : k__law_draw ≤ k) (H__law_draw : FnK P w K mg base "_law_draw" k__law_draw p__law_draw sp__law_draw) {k_run : Nat} (l_run : k_run ≤ k) (H_run : FnK P w K mg base "run" k_run p_run sp_run) {k__law_same : Nat} (l__law_same : k__law_same ≤ k) (H__law_same : FnK P w K mg base "_law_same" k__law_same p__law_same sp__law_same) (cdv : Value) (A : Around) (outer : List Env) (s : Shared) (H : Hp) (E : XK) (hr : Room k (A.deeper (envOfC "law" (defScope st_law) s.heap.objs.size (He.ga K "law") cdv))) (hq : Qt (A.deeper (envOfC "law" (defScope st_law) s.heap.objs.size (He.ga K "law") cdv))) (hcd : cdv = .ref (He.codeOf K ("law", none))) :
    PSs (cxOf CX0 P w K mg base N_law "law" (defScope st_law) (He.ga K "law") cdv A outer s H E).nox (defBody st_law) (LS K (t_law s__law_book s__law_running s__law_run)) :=
  (s_cons (s_set (i := 1) sc_law.nd rfl (by first | exact .inl rfl | exact .inr rfl) (w_lst (a_cons (w_callF H__law_digits (hr.mono l__law_digits) hq rfl (a_cons (w_var 0 (pv 0)) (a_cons w_int (a_cons w_int a_nil)))) (a_cons w_int a_nil))))
  (s_cons (s_for PassesOwn.never rfl (i_range1 (by rfl) (T.fr "range") (a_cons w_int a_nil)) (g_name (pg_name (i := 2) sc_law.nd rfl (by first | exact .inl rfl | exact .inr rfl)))
  (s_cons (s_set (i := 3) sc_law.nd rfl (by first | exact .inl rfl | exact .inr rfl) (w_callF H__law_book (hr.mono l__law_book) hq rfl (a_cons (w_var 1 (pv 1)) a_nil)))
  (s_cons (s_set (i := 4) sc_law.nd rfl (by first | exact .inl rfl | exact .inr rfl) (w_callF H__law_running (hr.mono l__law_running) hq rfl (a_cons (w_var 1 (pv 1)) (a_cons (w_var 3 (pv 3)) a_nil))))
  (s_cons (s_set (i := 5) sc_law.nd rfl (by first | exact .inl rfl | exact .inr rfl) (w_callF H__law_pick (hr.mono l__law_pick) hq rfl (a_cons (w_var 1 (pv 1)) (a_cons (w_lst (a_cons w_int (a_cons w_int (a_cons w_int (a_cons w_int (a_cons w_int (a_cons w_int a_nil))))))) a_nil))))
  (s_cons (s_set (i := 6) sc_law.nd rfl (by first | exact .inl rfl | exact .inr rfl) (w_callF H__law_run (hr.mono l__law_run) hq rfl (a_cons (w_var 4 (pv 4)) (a_cons (w_var 3 (pv 3)) (a_cons (w_var 5 (pv 5)) a_nil)))))
  (s_cons (s_if (w_not (w_truth (w_callF H__law_same (hr.mono l__law_same) hq rfl (a_cons (w_callF H_run (hr.mono l_run) hq rfl (a_cons (w_var 4 (pv 4)) (a_cons (w_var 3 (pv 3)) (a_cons (w_var 5 (pv 5)) a_nil)))) (a_cons (w_var 6 (pv 6)) a_nil)))))
  (s_one (s_ret w_bl))
  s_nil)
  (s_cons (s_set (i := 7) sc_law.nd rfl (by first | exact .inl rfl | exact .inr rfl) (w_callF H__law_draw (hr.mono l__law_draw) hq rfl (a_cons (w_var 1 (pv 1)) (a_cons (w_add (w_var 5 (pv 5)) w_int) a_nil))))
  (s_cons (s_set (i := 8) sc_law.nd rfl (by first | exact .inl rfl | exact .inr rfl) (w_callF H_run (hr.mono l_run) hq rfl (a_cons (w_var 4 (pv 4)) (a_cons (w_var 3 (pv 3)) (a_cons (w_var 7 (pv 7)) a_nil)))))
  (s_cons (s_set (i := 9) sc_law.nd rfl (by first | exact .inl rfl | exact .inr rfl) (w_callF H_run (hr.mono l_run) hq rfl (a_cons (w_sub1 hr.b (w_var 8 (pv 8)) w_int (fun _ _ => rfl)) (a_cons (w_var 3 (pv 3)) (a_cons (w_sub (w_var 5 (pv 5)) (w_sub1 hr.b (w_var 8 (pv 8)) w_int (fun _ _ => rfl))) a_nil)))))
  (s_one (s_if (w_not (w_truth (w_callF H__law_same (hr.mono l__law_same) hq rfl (a_cons (w_tup (a_cons (w_sub1 hr.b (w_var 9 (pv 9)) w_int (fun _ _ => rfl)) (a_cons (w_add (w_sub1 hr.b (w_var 8 (pv 8)) w_int (fun _ _ => rfl)) (w_sub1 hr.b (w_var 9 (pv 9)) w_int (fun _ _ => rfl))) (a_cons (w_sub1 hr.b (w_var 9 (pv 9)) w_int (fun _ _ => rfl)) a_nil)))) (a_cons (w_var 6 (pv 6)) a_nil)))))
  (s_one (s_ret w_bl))
  s_nil)))))))))))
  (s_one (s_ret w_bl))))

theorem ok_children (T : Tx FX w K mg base) : FnK P w K mg base "children" 1 p_children sp_children :=
  fn_mk T (k := 0) 0 rfl (by decide +kernel) sc_children (fun _ _ _ _ _ _ us hl => match us, hl with | [_], _ => rfl) (by walk_at "len") (fun cdv A outer s H E hr hq hcd => tm_children T  (cdv := cdv) (A := A) (outer := outer) (s := s) (H := H) (E := E) (hr := hr) (hq := hq) (hcd := hcd)) pure_children

theorem ok_with_children (T : Tx FX w K mg base) : FnK P w K mg base "with_children" 1 p_with_children sp_with_children :=
  fn_mk T (k := 0) 1 rfl (by decide +kernel) sc_with_children (fun _ _ _ _ _ _ us hl => match us, hl with | [_, _], _ => rfl) (by walk_at "len") (fun cdv A outer s H E hr hq hcd => tm_with_children T  (cdv := cdv) (A := A) (outer := outer) (s := s) (H := H) (E := E) (hr := hr) (hq := hq) (hcd := hcd)) pure_with_children

theorem ok_nodes (T : Tx FX w K mg base) : FnK P w K mg base "nodes" 2 p_nodes sp_nodes :=
  fn_mk T (k := 1) 2 rfl (by decide +kernel) sc_nodes (fun _ _ _ _ _ _ us hl => match us, hl with | [_], _ => rfl) (by walk_at "len") (fun cdv A outer s H E hr hq hcd => tm_nodes T (H_children := (ok_children T)) (cdv := cdv) (A := A) (outer := outer) (s := s) (H := H) (E := E) (hr := hr) (hq := hq) (hcd := hcd)) pure_nodes

theorem ok_child_numbers (T : Tx FX w K mg base) : FnK P w K mg base "child_numbers" 3 p_child_numbers sp_child_numbers :=
  fn_mk T (k := 2) 3 rfl (by decide +kernel) sc_child_numbers (fun _ _ _ _ _ _ us hl => match us, hl with | [_], _ => rfl) (by walk_at "len") (fun cdv A outer s H E hr hq hcd => tm_child_numbers T (H_nodes := (ok_nodes T)) (H_children := (ok_children T)) (cdv := cdv) (A := A) (outer := outer) (s := s) (H := H) (E := E) (hr := hr) (hq := hq) (hcd := hcd)) pure_child_numbers

theorem ok_brought_names (T : Tx FX w K mg base) : FnK P w K mg base "brought_names" 2 p_brought_names sp_brought_names :=
  fn_mk T (k := 1) 4 rfl (by decide +kernel) sc_brought_names (fun _ _ _ _ _ _ us hl => match us, hl with | [_], _ => rfl) (by walk_at "len") (fun cdv A outer s H E hr hq hcd => tm_brought_names T (H_children := (ok_children T)) (cdv := cdv) (A := A) (outer := outer) (s := s) (H := H) (E := E) (hr := hr) (hq := hq) (hcd := hcd)) pure_brought_names

theorem ok__value_marks (T : Tx FX w K mg base) : FnK P w K mg base "_value_marks" 1 p__value_marks sp__value_marks :=
  fn_mk T (k := 0) 5 rfl (by decide +kernel) sc__value_marks (fun _ _ _ _ _ _ us hl => match us, hl with | [_, _], _ => rfl) (by walk_at "len") (fun cdv A outer s H E hr hq hcd => tm__value_marks T  (cdv := cdv) (A := A) (outer := outer) (s := s) (H := H) (E := E) (hr := hr) (hq := hq) (hcd := hcd)) pure__value_marks

theorem ok__covered_nodes (T : Tx FX w K mg base) : FnK P w K mg base "_covered_nodes" 3 p__covered_nodes sp__covered_nodes :=
  fn_mk T (k := 2) 7 rfl (by decide +kernel) sc__covered_nodes (fun _ _ _ _ _ _ us hl => match us, hl with | [_, _], _ => rfl) (by walk_at "len") (fun cdv A outer s H E hr hq hcd => tm__covered_nodes T (H_children := (ok_children T)) (H_brought_names := (ok_brought_names T)) (cdv := cdv) (A := A) (outer := outer) (s := s) (H := H) (E := E) (hr := hr) (hq := hq) (hcd := hcd)) pure__covered_nodes

theorem ok_put_in (T : Tx FX w K mg base) : FnK P w K mg base "put_in" 4 p_put_in sp_put_in :=
  fn_mk T (k := 3) 6 rfl (by decide +kernel) sc_put_in (fun _ _ _ _ _ _ us hl => match us, hl with | [_, _, _], _ => rfl) (by walk_at "len") (fun cdv A outer s H E hr hq hcd => tm_put_in T (H__covered_nodes := (ok__covered_nodes T)) (H_children := (ok_children T)) (H_with_children := (ok_with_children T)) (cdv := cdv) (A := A) (outer := outer) (s := s) (H := H) (E := E) (hr := hr) (hq := hq) (hcd := hcd)) pure_put_in

theorem ok__way_to_step (T : Tx FX w K mg base) : FnK P w K mg base "_way_to_step" 1 p__way_to_step sp__way_to_step :=
  fn_mk T (k := 0) 9 rfl (by decide +kernel) sc__way_to_step (fun _ _ _ _ _ _ us hl => match us, hl with | [_, _, _], _ => rfl) (by walk_at "len") (fun cdv A outer s H E hr hq hcd => tm__way_to_step T  (cdv := cdv) (A := A) (outer := outer) (s := s) (H := H) (E := E) (hr := hr) (hq := hq) (hcd := hcd)) pure__way_to_step

theorem ok__with_child (T : Tx FX w K mg base) : FnK P w K mg base "_with_child" 2 p__with_child sp__with_child :=
  fn_mk T (k := 1) 10 rfl (by decide +kernel) sc__with_child (fun _ _ _ _ _ _ us hl => match us, hl with | [_, _, _], _ => rfl) (by walk_at "len") (fun cdv A outer s H E hr hq hcd => tm__with_child T (H_with_children := (ok_with_children T)) (H_children := (ok_children T)) (cdv := cdv) (A := A) (outer := outer) (s := s) (H := H) (E := E) (hr := hr) (hq := hq) (hcd := hcd)) pure__with_child

theorem ok__field_step (T : Tx FX w K mg base) : FnK P w K mg base "_field_step" 3 p__field_step sp__field_step :=
  fn_mk T (k := 2) 16 rfl (by decide +kernel) sc__field_step (fun _ _ _ _ _ _ us hl => match us, hl with | [_, _, _], _ => rfl) (by walk_at "len") (fun cdv A outer s H E hr hq hcd => tm__field_step T (H__with_child := (ok__with_child T)) (cdv := cdv) (A := A) (outer := outer) (s := s) (H := H) (E := E) (hr := hr) (hq := hq) (hcd := hcd)) pure__field_step

theorem ok__definition (T : Tx FX w K mg base) : FnK P w K mg base "_definition" 1 p__definition sp__definition :=
  fn_mk T (k := 0) 12 rfl (by decide +kernel) sc__definition (fun _ _ _ _ _ _ us hl => match us, hl with | [_, _], _ => rfl) (by walk_at "len") (fun cdv A outer s H E hr hq hcd => tm__definition T  (cdv := cdv) (A := A) (outer := outer) (s := s) (H := H) (E := E) (hr := hr) (hq := hq) (hcd := hcd)) pure__definition

theorem ok__called (T : Tx FX w K mg base) : FnK P w K mg base "_called" 5 p__called sp__called :=
  fn_mk T (k := 4) 13 rfl (by decide +kernel) sc__called (fun _ _ _ _ _ _ us hl => match us, hl with | [_, _], _ => rfl) (by walk_at "len") (fun cdv A outer s H E hr hq hcd => tm__called T (H_put_in := (ok_put_in T)) (cdv := cdv) (A := A) (outer := outer) (s := s) (H := H) (E := E) (hr := hr) (hq := hq) (hcd := hcd)) pure__called

theorem ok__chosen (T : Tx FX w K mg base) : FnK P w K mg base "_chosen" 1 p__chosen sp__chosen :=
  fn_mk T (k := 0) 14 rfl (by decide +kernel) sc__chosen (fun _ _ _ _ _ _ us hl => match us, hl with | [_], _ => rfl) (by walk_at "len") (fun cdv A outer s H E hr hq hcd => tm__chosen T  (cdv := cdv) (A := A) (outer := outer) (s := s) (H := H) (E := E) (hr := hr) (hq := hq) (hcd := hcd)) pure__chosen

theorem ok__counted (T : Tx FX w K mg base) : FnK P w K mg base "_counted" 1 p__counted sp__counted :=
  fn_mk T (k := 0) 15 rfl (by decide +kernel) sc__counted (fun _ _ _ _ _ _ us hl => match us, hl with | [_, _, _], _ => rfl) (by walk_at "len") (fun cdv A outer s H E hr hq hcd => tm__counted T  (cdv := cdv) (A := A) (outer := outer) (s := s) (H := H) (E := E) (hr := hr) (hq := hq) (hcd := hcd)) pure__counted

theorem ok__own_step (T : Tx FX w K mg base) : FnK P w K mg base "_own_step" 6 p__own_step sp__own_step :=
  fn_mk T (k := 5) 11 rfl (by decide +kernel) sc__own_step (fun _ _ _ _ _ _ us hl => match us, hl with | [_, _], _ => rfl) (by walk_at "len") (fun cdv A outer s H E hr hq hcd => tm__own_step T (H__field_step := (ok__field_step T)) (H__definition := (ok__definition T)) (H__called := (ok__called T)) (H__chosen := (ok__chosen T)) (H__counted := (ok__counted T)) (H_put_in := (ok_put_in T)) (cdv := cdv) (A := A) (outer := outer) (s := s) (H := H) (E := E) (hr := hr) (hq := hq) (hcd := hcd)) pure__own_step

theorem ok_step (T : Tx FX w K mg base) : FnK P w K mg base "step" 7 p_step sp_step :=
  fn_mk T (k := 6) 8 rfl (by decide +kernel) sc_step (fun _ _ _ _ _ _ us hl => match us, hl with | [_, _], _ => rfl) (by walk_at "len") (fun cdv A outer s H E hr hq hcd => tm_step T (H_nodes := (ok_nodes T)) (H_child_numbers := (ok_child_numbers T)) (H__value_marks := (ok__value_marks T)) (H__way_to_step := (ok__way_to_step T)) (H__own_step := (ok__own_step T)) (H__with_child := (ok__with_child T)) (cdv := cdv) (A := A) (outer := outer) (s := s) (H := H) (E := E) (hr := hr) (hq := hq) (hcd := hcd)) pure_step

theorem ok_run (T : Tx FX w K mg base) : FnK P w K mg base "run" 8 p_run sp_run :=
  fn_mk T (k := 7) 17 rfl (by decide +kernel) sc_run (fun _ _ _ _ _ _ us hl => match us, hl with | [_, _, _], _ => rfl) (by walk_at "len") (fun cdv A outer s H E hr hq hcd => tm_run T (H_step := (ok_step T)) (cdv := cdv) (A := A) (outer := outer) (s := s) (H := H) (E := E) (hr := hr) (hq := hq) (hcd := hcd)) pure_run

theorem ok__law_cell (T : Tx FX w K mg base) : FnK P w K mg base "_law_cell" 1 p__law_cell sp__law_cell :=
  fn_mk T (k := 0) 18 rfl (by decide +kernel) sc__law_cell (fun _ _ _ _ _ _ us hl => match us, hl with | [_, _], _ => rfl) (by walk_at "len") (fun cdv A outer s H E hr hq hcd => tm__law_cell T  (cdv := cdv) (A := A) (outer := outer) (s := s) (H := H) (E := E) (hr := hr) (hq := hq) (hcd := hcd)) pure__law_cell

theorem ok__law_same (T : Tx FX w K mg base) : FnK P w K mg base "_law_same" 1 p__law_same sp__law_same :=
  fn_mk T (k := 0) 19 rfl (by decide +kernel) sc__law_same (fun _ _ _ _ _ _ us hl => match us, hl with | [_, _], _ => rfl) (by walk_at "len") (fun cdv A outer s H E hr hq hcd => tm__law_same T  (cdv := cdv) (A := A) (outer := outer) (s := s) (H := H) (E := E) (hr := hr) (hq := hq) (hcd := hcd)) pure__law_same

theorem ok__law_digits (T : Tx FX w K mg base) : FnK P w K mg base "_law_digits" 2 p__law_digits sp__law_digits :=
  fn_mk T (k := 1) 20 rfl (by decide +kernel) sc__law_digits (fun _ _ _ _ _ _ us hl => match us, hl with | [_, _, _], _ => rfl) (by walk_at "len") (fun cdv A outer s H E hr hq hcd => tm__law_digits T (H__law_cell := (ok__law_cell T)) (cdv := cdv) (A := A) (outer := outer) (s := s) (H := H) (E := E) (hr := hr) (hq := hq) (hcd := hcd)) pure__law_digits

theorem ok__law_draw (T : Tx FX w K mg base) : FnK P w K mg base "_law_draw" 1 p__law_draw sp__law_draw :=
  fn_mk T (k := 0) 21 rfl (by decide +kernel) sc__law_draw (fun _ _ _ _ _ _ us hl => match us, hl with | [_, _], _ => rfl) (by walk_at "len") (fun cdv A outer s H E hr hq hcd => tm__law_draw T  (cdv := cdv) (A := A) (outer := outer) (s := s) (H := H) (E := E) (hr := hr) (hq := hq) (hcd := hcd)) pure__law_draw

theorem ok__law_pick (T : Tx FX w K mg base) : FnK P w K mg base "_law_pick" 2 p__law_pick sp__law_pick :=
  fn_mk T (k := 1) 22 rfl (by decide +kernel) sc__law_pick (fun _ _ _ _ _ _ us hl => match us, hl with | [_, _], _ => rfl) (by walk_at "len") (fun cdv A outer s H E hr hq hcd => tm__law_pick T (H__law_draw := (ok__law_draw T)) (cdv := cdv) (A := A) (outer := outer) (s := s) (H := H) (E := E) (hr := hr) (hq := hq) (hcd := hcd)) pure__law_pick

theorem ok__law_leaf (T : Tx FX w K mg base) : FnK P w K mg base "_law_leaf" 2 p__law_leaf sp__law_leaf :=
  fn_mk T (k := 1) 24 rfl (by decide +kernel) sc__law_leaf (fun _ _ _ _ _ _ us hl => match us, hl with | [_, _], _ => rfl) (by walk_at "len") (fun cdv A outer s H E hr hq hcd => tm__law_leaf T (H__law_draw := (ok__law_draw T)) (cdv := cdv) (A := A) (outer := outer) (s := s) (H := H) (E := E) (hr := hr) (hq := hq) (hcd := hcd)) pure__law_leaf

theorem ok__law_children (T : Tx FX w K mg base) : FnK P w K mg base "_law_children" 1 p__law_children sp__law_children :=
  fn_mk T (k := 0) 27 rfl (by decide +kernel) sc__law_children (fun _ _ _ _ _ _ us hl => match us, hl with | [_], _ => rfl) (by walk_at "len") (fun cdv A outer s H E hr hq hcd => tm__law_children T  (cdv := cdv) (A := A) (outer := outer) (s := s) (H := H) (E := E) (hr := hr) (hq := hq) (hcd := hcd)) pure__law_children

theorem ok__law_count (T : Tx FX w K mg base) : FnK P w K mg base "_law_count" 2 p__law_count sp__law_count :=
  fn_mk T (k := 1) 30 rfl (by decide +kernel) sc__law_count (fun _ _ _ _ _ _ us hl => match us, hl with | [_], _ => rfl) (by walk_at "len") (fun cdv A outer s H E hr hq hcd => tm__law_count T (H__law_children := (ok__law_children T)) (cdv := cdv) (A := A) (outer := outer) (s := s) (H := H) (E := E) (hr := hr) (hq := hq) (hcd := hcd)) pure__law_count

theorem ok__law_needs (T : Tx FX w K mg base) : FnK P w K mg base "_law_needs" 1 p__law_needs sp__law_needs :=
  fn_mk T (k := 0) 31 rfl (by decide +kernel) sc__law_needs (fun _ _ _ _ _ _ us hl => match us, hl with | [_], _ => rfl) (by walk_at "len") (fun cdv A outer s H E hr hq hcd => tm__law_needs T  (cdv := cdv) (A := A) (outer := outer) (s := s) (H := H) (E := E) (hr := hr) (hq := hq) (hcd := hcd)) pure__law_needs

theorem ok__law_record_step (T : Tx FX w K mg base) : FnK P w K mg base "_law_record_step" 1 p__law_record_step sp__law_record_step :=
  fn_mk T (k := 0) 34 rfl (by decide +kernel) sc__law_record_step (fun _ _ _ _ _ _ us hl => match us, hl with | [_], _ => rfl) (by walk_at "len") (fun cdv A outer s H E hr hq hcd => tm__law_record_step T  (cdv := cdv) (A := A) (outer := outer) (s := s) (H := H) (E := E) (hr := hr) (hq := hq) (hcd := hcd)) pure__law_record_step

theorem ok__law_op_step (T : Tx FX w K mg base) : FnK P w K mg base "_law_op_step" 1 p__law_op_step sp__law_op_step :=
  fn_mk T (k := 0) 33 rfl (by decide +kernel) sc__law_op_step (fun _ _ _ _ _ _ us hl => match us, hl with | [_], _ => rfl) (by walk_at "len") (fun cdv A outer s H E hr hq hcd => tm__law_op_step T  (cdv := cdv) (A := A) (outer := outer) (s := s) (H := H) (E := E) (hr := hr) (hq := hq) (hcd := hcd)) pure__law_op_step

theorem ok__law_great (T : Tx FX w K mg base) : FnK P w K mg base "_law_great" 2 p__law_great sp__law_great :=
  fn_mk T (k := 1) 39 rfl (by decide +kernel) sc__law_great (fun _ _ _ _ _ _ us hl => match us, hl with | [_], _ => rfl) (by walk_at "len") (fun cdv A outer s H E hr hq hcd => tm__law_great T (H__law_draw := (ok__law_draw T)) (cdv := cdv) (A := A) (outer := outer) (s := s) (H := H) (E := E) (hr := hr) (hq := hq) (hcd := hcd)) pure__law_great

theorem ok_exp (T : Tx FX w K mg base) : ∀ d : Nat, FnK P w K mg base "_law_expression" (2 + 2 * d + 1) p__law_expression (sp__law_expression d)
  | 0 => by
    have n1 : FnK P w K mg base "_law_expression" 0 p__law_expression spNo := fn_no T 0 23 rfl (by decide +kernel) (fun _ _ _ _ _ _ us hl => match us, hl with | [_, _, _, _], _ => rfl)
    have n2 : FnK P w K mg base "_law_let" 0 p__law_let spNo := fn_no T 0 25 rfl (by decide +kernel) (fun _ _ _ _ _ _ us hl => match us, hl with | [_, _, _, _], _ => rfl)
    have n3 : FnK P w K mg base "_law_function" 0 p__law_function spNo := fn_no T 0 26 rfl (by decide +kernel) (fun _ _ _ _ _ _ us hl => match us, hl with | [_, _, _], _ => rfl)
    exact fn_mk T 23 rfl (by decide +kernel) sc__law_expression (fun _ _ _ _ _ _ us hl => match us, hl with | [_, _, _, _], _ => rfl) (by walk_at "len") (fun cdv A outer s H E hr hq hcd => tm__law_expression T (l__law_draw := by omega) (H__law_draw := (ok__law_draw T)) (l__law_leaf := by omega) (H__law_leaf := (ok__law_leaf T)) (l__law_let := by omega) (H__law_let := n2) (l__law_function := by omega) (H__law_function := n3) (l__law_pick := by omega) (H__law_pick := (ok__law_pick T)) (l__law_expression := by omega) (H__law_expression := n1) (cdv := cdv) (A := A) (outer := outer) (s := s) (H := H) (E := E) (hr := hr) (hq := hq) (hcd := hcd)) (pure__law_expression 0 spNo spNo spNo (fun k e => by omega) (fun k e => by omega) (fun k e => by omega))
  | d + 1 => by
    have i1 := ok_exp T d
    have i2 : FnK P w K mg base "_law_let" (2 + 2 * d + 2) p__law_let (sp__law_let d) := fn_mk T 25 rfl (by decide +kernel) sc__law_let (fun _ _ _ _ _ _ us hl => match us, hl with | [_, _, _, _], _ => rfl) (by walk_at "len") (fun cdv A outer s H E hr hq hcd => tm__law_let T (l__law_expression := by omega) (H__law_expression := i1) (l__law_draw := by omega) (H__law_draw := (ok__law_draw T)) (cdv := cdv) (A := A) (outer := outer) (s := s) (H := H) (E := E) (hr := hr) (hq := hq) (hcd := hcd)) (pure__law_let d)
    have i3 : FnK P w K mg base "_law_function" (2 + 2 * d + 2) p__law_function (sp__law_function d) := fn_mk T 26 rfl (by decide +kernel) sc__law_function (fun _ _ _ _ _ _ us hl => match us, hl with | [_, _, _], _ => rfl) (by walk_at "len") (fun cdv A outer s H E hr hq hcd => tm__law_function T (l__law_draw := by omega) (H__law_draw := (ok__law_draw T)) (l__law_expression := by omega) (H__law_expression := i1) (cdv := cdv) (A := A) (outer := outer) (s := s) (H := H) (E := E) (hr := hr) (hq := hq) (hcd := hcd)) (pure__law_function d)
    exact fn_mk T 23 rfl (by decide +kernel) sc__law_expression (fun _ _ _ _ _ _ us hl => match us, hl with | [_, _, _, _], _ => rfl) (by walk_at "len") (fun cdv A outer s H E hr hq hcd => tm__law_expression T (l__law_draw := by omega) (H__law_draw := (ok__law_draw T)) (l__law_leaf := by omega) (H__law_leaf := (ok__law_leaf T)) (l__law_let := by omega) (H__law_let := i2) (l__law_function := by omega) (H__law_function := i3) (l__law_pick := by omega) (H__law_pick := (ok__law_pick T)) (l__law_expression := by omega) (H__law_expression := i1) (cdv := cdv) (A := A) (outer := outer) (s := s) (H := H) (E := E) (hr := hr) (hq := hq) (hcd := hcd)) (pure__law_expression (d + 1) _ _ _ (fun k e => by cases e; rfl) (fun k e => by cases e; rfl) (fun k e => by cases e; rfl))

theorem ok_fn9 (T : Tx FX w K mg base) : FnK P w K mg base "_law_function" 22 p__law_function (sp__law_function 9) :=
  fn_mk T (k := 21) 26 rfl (by decide +kernel) sc__law_function (fun _ _ _ _ _ _ us hl => match us, hl with | [_, _, _], _ => rfl) (by walk_at "len") (fun cdv A outer s H E hr hq hcd => tm__law_function T (l__law_draw := by omega) (H__law_draw := (ok__law_draw T)) (l__law_expression := by omega) (H__law_expression := (ok_exp T 9)) (cdv := cdv) (A := A) (outer := outer) (s := s) (H := H) (E := E) (hr := hr) (hq := hq) (hcd := hcd)) (pure__law_function 9)

theorem ok_mixed (T : Tx FX w K mg base) : FnK P w K mg base "_law_mixed" 22 p__law_mixed (sp__law_mixed 9) :=
  fn_mk T (k := 21) 38 rfl (by decide +kernel) sc__law_mixed (fun _ _ _ _ _ _ us hl => match us, hl with | [_, _, _], _ => rfl) (by walk_at "len") (fun cdv A outer s H E hr hq hcd => tm__law_mixed T (l__law_draw := by omega) (H__law_draw := (ok__law_draw T)) (l__law_expression := by omega) (H__law_expression := (ok_exp T 9)) (l__law_pick := by omega) (H__law_pick := (ok__law_pick T)) (l__law_leaf := by omega) (H__law_leaf := (ok__law_leaf T)) (cdv := cdv) (A := A) (outer := outer) (s := s) (H := H) (E := E) (hr := hr) (hq := hq) (hcd := hcd)) (pure__law_mixed 9)

theorem ok_book (T : Tx FX w K mg base) : FnK P w K mg base "_law_book" 23 p__law_book sp__law_book :=
  fn_mk T (k := 22) 37 rfl (by decide +kernel) sc__law_book (fun _ _ _ _ _ _ us hl => match us, hl with | [_], _ => rfl) (by walk_at "len") (fun cdv A outer s H E hr hq hcd => tm__law_book T (l__law_function := by omega) (H__law_function := (ok_fn9 T)) (l__law_expression := by omega) (H__law_expression := (ok_exp T 9)) (l__law_draw := by omega) (H__law_draw := (ok__law_draw T)) (cdv := cdv) (A := A) (outer := outer) (s := s) (H := H) (E := E) (hr := hr) (hq := hq) (hcd := hcd)) (pure__law_book 9 (by decide) (by decide))

theorem ok_running (T : Tx FX w K mg base) : FnK P w K mg base "_law_running" 23 p__law_running sp__law_running :=
  fn_mk T (k := 22) 40 rfl (by decide +kernel) sc__law_running (fun _ _ _ _ _ _ us hl => match us, hl with | [_, _], _ => rfl) (by walk_at "len") (fun cdv A outer s H E hr hq hcd => tm__law_running T (l__law_draw := by omega) (H__law_draw := (ok__law_draw T)) (l__law_expression := by omega) (H__law_expression := (ok_exp T 9)) (l__law_great := by omega) (H__law_great := (ok__law_great T)) (l__law_mixed := by omega) (H__law_mixed := (ok_mixed T)) (cdv := cdv) (A := A) (outer := outer) (s := s) (H := H) (E := E) (hr := hr) (hq := hq) (hcd := hcd)) pure__law_running

theorem ok_sub (T : Tx FX w K mg base) : ∀ d : Nat, FnK P w K mg base "_law_substituted" (d + 1) p__law_substituted (sp__law_substituted d)
  | 0 => by
    have n1 : FnK P w K mg base "_law_substituted" 0 p__law_substituted spNo := fn_no T 0 29 rfl (by decide +kernel) (fun _ _ _ _ _ _ us hl => match us, hl with | [_, _, _], _ => rfl)
    exact fn_mk T (k := 0) 29 rfl (by decide +kernel) sc__law_substituted (fun _ _ _ _ _ _ us hl => match us, hl with | [_, _, _], _ => rfl) (by walk_at "len") (fun cdv A outer s H E hr hq hcd => tm__law_substituted T (l__law_substituted := by omega) (H__law_substituted := n1) (cdv := cdv) (A := A) (outer := outer) (s := s) (H := H) (E := E) (hr := hr) (hq := hq) (hcd := hcd)) (pure__law_substituted 0 spNo (fun k e => by omega))
  | d + 1 => fn_mk T 29 rfl (by decide +kernel) sc__law_substituted (fun _ _ _ _ _ _ us hl => match us, hl with | [_, _, _], _ => rfl) (by walk_at "len") (fun cdv A outer s H E hr hq hcd => tm__law_substituted T (l__law_substituted := by omega) (H__law_substituted := (ok_sub T d)) (cdv := cdv) (A := A) (outer := outer) (s := s) (H := H) (E := E) (hr := hr) (hq := hq) (hcd := hcd)) (pure__law_substituted (d + 1) _ (fun k e => by cases e; rfl))

theorem ok_isv (T : Tx FX w K mg base) : ∀ d : Nat, FnK P w K mg base "_law_is_value" (d + 1) p__law_is_value (sp__law_is_value d)
  | 0 => by
    have n1 : FnK P w K mg base "_law_is_value" 0 p__law_is_value spNo := fn_no T 0 28 rfl (by decide +kernel) (fun _ _ _ _ _ _ us hl => match us, hl with | [_], _ => rfl)
    exact fn_mk T (k := 0) 28 rfl (by decide +kernel) sc__law_is_value (fun _ _ _ _ _ _ us hl => match us, hl with | [_], _ => rfl) (by walk_at "len") (fun cdv A outer s H E hr hq hcd => tm__law_is_value T (l__law_is_value := by omega) (H__law_is_value := n1) (cdv := cdv) (A := A) (outer := outer) (s := s) (H := H) (E := E) (hr := hr) (hq := hq) (hcd := hcd)) (pure__law_is_value 0 spNo (fun k e => by omega))
  | d + 1 => fn_mk T 28 rfl (by decide +kernel) sc__law_is_value (fun _ _ _ _ _ _ us hl => match us, hl with | [_], _ => rfl) (by walk_at "len") (fun cdv A outer s H E hr hq hcd => tm__law_is_value T (l__law_is_value := by omega) (H__law_is_value := (ok_isv T d)) (cdv := cdv) (A := A) (outer := outer) (s := s) (H := H) (E := E) (hr := hr) (hq := hq) (hcd := hcd)) (pure__law_is_value (d + 1) _ (fun k e => by cases e; rfl))

theorem ok_own (T : Tx FX w K mg base) (d : Nat) : FnK P w K mg base "_law_own_step" (d + 2) p__law_own_step (sp__law_own_step d) :=
  fn_mk T (k := (d + 1)) 32 rfl (by decide +kernel) sc__law_own_step (fun _ _ _ _ _ _ us hl => match us, hl with | [_, _], _ => rfl) (by walk_at "len") (fun cdv A outer s H E hr hq hcd => tm__law_own_step T (l__law_record_step := by omega) (H__law_record_step := (ok__law_record_step T)) (l__law_op_step := by omega) (H__law_op_step := (ok__law_op_step T)) (l__law_substituted := by omega) (H__law_substituted := (ok_sub T d)) (cdv := cdv) (A := A) (outer := outer) (s := s) (H := H) (E := E) (hr := hr) (hq := hq) (hcd := hcd)) (pure__law_own_step d)

theorem ok_stepin (T : Tx FX w K mg base) : ∀ d : Nat, FnK P w K mg base "_law_step_in" (d + 3) p__law_step_in (sp__law_step_in d)
  | 0 => by
    have n1 : FnK P w K mg base "_law_step_in" 0 p__law_step_in spNo := fn_no T 0 35 rfl (by decide +kernel) (fun _ _ _ _ _ _ us hl => match us, hl with | [_, _], _ => rfl)
    exact fn_mk T (k := 2) 35 rfl (by decide +kernel) sc__law_step_in (fun _ _ _ _ _ _ us hl => match us, hl with | [_, _], _ => rfl) (by walk_at "len") (fun cdv A outer s H E hr hq hcd => tm__law_step_in T (l__law_needs := by omega) (H__law_needs := (ok__law_needs T)) (l__law_own_step := by omega) (H__law_own_step := (ok_own T 0)) (l__law_is_value := by omega) (H__law_is_value := (ok_isv T 0)) (l__law_step_in := by omega) (H__law_step_in := n1) (cdv := cdv) (A := A) (outer := outer) (s := s) (H := H) (E := E) (hr := hr) (hq := hq) (hcd := hcd)) (pure__law_step_in 0 spNo (fun k e => by omega))
  | d + 1 => fn_mk T 35 rfl (by decide +kernel) sc__law_step_in (fun _ _ _ _ _ _ us hl => match us, hl with | [_, _], _ => rfl) (by walk_at "len") (fun cdv A outer s H E hr hq hcd => tm__law_step_in T (l__law_needs := by omega) (H__law_needs := (ok__law_needs T)) (l__law_own_step := by omega) (H__law_own_step := (ok_own T (d + 1))) (l__law_is_value := by omega) (H__law_is_value := (ok_isv T (d + 1))) (l__law_step_in := by omega) (H__law_step_in := (ok_stepin T d)) (cdv := cdv) (A := A) (outer := outer) (s := s) (H := H) (E := E) (hr := hr) (hq := hq) (hcd := hcd)) (pure__law_step_in (d + 1) _ (fun k e => by cases e; rfl))

theorem ok_stepped (T : Tx FX w K mg base) : FnK P w K mg base "_law_stepped" 642 p__law_stepped sp__law_stepped :=
  fn_mk T (k := 641) 36 rfl (by decide +kernel) sc__law_stepped (fun _ _ _ _ _ _ us hl => match us, hl with | [_, _], _ => rfl) (by walk_at "len") (fun cdv A outer s H E hr hq hcd => tm__law_stepped T (l__law_is_value := by omega) (H__law_is_value := (ok_isv T 640)) (l__law_step_in := by omega) (H__law_step_in := (ok_stepin T 600)) (l__law_count := by omega) (H__law_count := (ok__law_count T)) (cdv := cdv) (A := A) (outer := outer) (s := s) (H := H) (E := E) (hr := hr) (hq := hq) (hcd := hcd)) pure__law_stepped

theorem ok_lrun (T : Tx FX w K mg base) : FnK P w K mg base "_law_run" 643 p__law_run sp__law_run :=
  fn_mk T (k := 642) 41 rfl (by decide +kernel) sc__law_run (fun _ _ _ _ _ _ us hl => match us, hl with | [_, _, _], _ => rfl) (by walk_at "len") (fun cdv A outer s H E hr hq hcd => tm__law_run T (l__law_stepped := by omega) (H__law_stepped := (ok_stepped T)) (cdv := cdv) (A := A) (outer := outer) (s := s) (H := H) (E := E) (hr := hr) (hq := hq) (hcd := hcd)) pure__law_run

theorem ok_law (T : Tx FX w K mg base) : FnK P w K mg base "law" 644 p_law sp_law16 :=
  fn_mk T (k := 643) 42 rfl (by decide +kernel) sc_law (fun _ _ _ _ _ _ us hl => match us, hl with | [_], _ => rfl) (by walk_at "len") (fun cdv A outer s H E hr hq hcd => tm_law T (l__law_digits := by decide) (H__law_digits := (ok__law_digits T)) (l__law_book := by decide) (H__law_book := (ok_book T)) (l__law_running := by decide) (H__law_running := (ok_running T)) (l__law_pick := by decide) (H__law_pick := (ok__law_pick T)) (l__law_run := by decide) (H__law_run := (ok_lrun T)) (l__law_draw := by decide) (H__law_draw := (ok__law_draw T)) (l_run := by decide) (H_run := (ok_run T)) (l__law_same := by decide) (H__law_same := (ok__law_same T)) (cdv := cdv) (A := A) (outer := outer) (s := s) (H := H) (E := E) (hr := hr) (hq := hq) (hcd := hcd)) pure_law16

end
def ob (s : PySem.W.SharedT) : He.AlX := He.obsX 4 FX.fa FX.fn FX.ts (FX.tf.map (·.1)) FX.exB (HandSHeadRun.getT s)
abbrev RWL : PySem.W.OpenRow := PySem.W.OpenLaw.row PySem.Challenge.rw_rowtypes_k16_runs_told
abbrev hkL : PySem.W.Hook := He.hookX 4 FX.fa FX.fn FX.ts (FX.tf.map (·.1)) FX.exB
theorem ob_eq (s : PySem.W.SharedT) : ob s = hkL.obs s.abs := He.obsX_eq (HandSHeadRun.getT_eq s)
def namesL : List PySem.Str := "FIRST_CHILD" :: "children" :: "with_children" :: "nodes" :: "child_numbers" :: "brought_names" :: "MOST_NODES" :: "GREATEST_NUMBER" :: "SIMPLE_VALUES" :: "RECORDS" :: "NEEDED" :: "_value_marks" :: "put_in" :: "_covered_nodes" :: "step" :: "_way_to_step" :: "_with_child" :: "_own_step" :: "_definition" :: "_called" :: "_chosen" :: "_counted" :: "_field_step" :: "run" :: "_law_cell" :: "_law_same" :: "_law_digits" :: "_law_draw" :: "_law_pick" :: "_law_expression" :: "_law_leaf" :: "_law_let" :: "_law_function" :: "_law_children" :: "_law_is_value" :: "_law_substituted" :: "_law_count" :: "_law_needs" :: "_law_own_step" :: "_law_op_step" :: "_law_record_step" :: "_law_step_in" :: "_law_stepped" :: "_law_book" :: "_law_mixed" :: "_law_great" :: "_law_running" :: "_law_run" :: []
theorem runL (w : World) : HandSHeadRun.RunEq RWL (PySem.W.view RWL.prog [51]) hkL ob 4000 namesL w :=
  PySem.W.byRow2 "special-get-raises" (P := fun w => HandSHeadRun.RunEq RWL (PySem.W.view RWL.prog [51]) hkL ob 4000 namesL w)
    (fun w => by
      intro os
      kernel_rfl) (fun w => by
      intro os
      kernel_rfl) w
end TL
open PySem PySem.W PySem.Calls PyProof.Rows
set_option maxHeartbeats 0 in
theorem PySem.Challenge.cw_rowtypes_k16_runs_told_holds : PySem.Challenge.rw_rowtypes_k16_runs_told.Holds := by
  w_on; o_law
  refine HandSHeadRun.head_any (r := OpenLaw.row PySem.Challenge.rw_rowtypes_k16_runs_told) (q := view (OpenLaw.row PySem.Challenge.rw_rowtypes_k16_runs_told).prog [51]) (H := TL.hkL) (ob := TL.ob) (M := 4000) (loose := TL.namesL) (d := HandSHeadRun.topDef (OpenLaw.row PySem.Challenge.rw_rowtypes_k16_runs_told).prog 51) (kwd := []) TL.ob_eq
    (by kernel_rfl) (fun s => by kernel_rfl) TL.runL (by kernel_rfl) (by kernel_rfl) (by kernel_rfl) (by rfl) (by first | assumption | decide +kernel) (by decide +kernel) ⟨rfl, rfl, rfl, rfl, rfl, by decide +kernel⟩ ?hw ?hc
  case hw => w_witness2
  case hc =>
    exact TL.walk_tx (l := PySem.Challenge.rw_rowtypes_k16_runs_told) (k := 644) (D := TL.FX) (sp := fun _ => TL.sp_law16) (st := TL.st_law) rfl (by kernel_rfl) (by kernel_rfl) ⟨rfl, by decide, by decide⟩ 42 rfl (by decide +kernel) (fun _ _ _ _ _ _ us hl => match us, hl with | [_], _ => rfl)
      (fun w K mg base T => TL.ok_law T) (fun K x ns G R hl hx hT h => ⟨x, ns, rfl, hx, h⟩)

