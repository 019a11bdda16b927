import PyProof.Rows.All
import PySem.Challenge.RW_rowtypes_k28_substitutions
import HandS.ForMost
import HandS.TupAny
import HandS.Rev
import HandS.Zip
import HandS.NoneIn
import HandS.Flow
import HandS.Lambda
import HandS.EndTab
import HandS.More
import HandS.WordsDict
import HandS.Style
import HandS.Wide
import KE.GoesMore
import KE.GoesEnum
import HandS.Defaults
import HandS.HeadHook1
import HandS.HeadHook2
import HandS.HeadHook4
import HandS.HeadNt
import KE.SortKeyHeap
import KE.KSortKey
import KE.KNestM
import HandS.Head0
import HandS.Head1
import HandS.Head2
set_option Elab.async false
set_option linter.all false
set_option maxRecDepth 100000
namespace TL
open PySem PySem.Spec PyProof.Rows L2

inductive T where
  | non | bl (b : Bool) | int (i : Int) | str (x : Str) | ref (a : Addr) | ty (n : String) | tup (xs : List T)
  /-- a list that is read alone, for good (the script, a list of the module's top) -/
  | fl (xs : List T)
  /-- a tuple that is known to be a plain object -/
  | ptup (xs : List T)

/-- such a list at a -/
def FrL (K : PySem.W.Frag) (H : Hp) (a : Addr) (xs : List V) : Prop := (∃ o, H a = some (.frz o (.lst xs))) ∨
  ∃ (o : Obj) (its : Array Value) (n : Nat), K.lookup a = some o ∧ o.cls = .type "list" ∧ o.dict = none ∧ o.data = .seq its n ∧ its.size ≤ sizeLine ∧ Vals xs its.toList
theorem FrL.seq {K H a xs} (h : FrL K H a xs) : SqL K H a xs := by
  rcases h with ⟨o, h⟩ | h
  · exact .inl (.inr ⟨o, h⟩)
  · exact .inr h

/-- a plain tuple at a -/
def PlT (H : Hp) (a : Addr) (xs : List V) : Prop := ∃ o, H a = some (.frz o (.tup xs)) ∧ o.dict = none
theorem PlT.seq {K H a xs} (h : PlT H a xs) : SqT K H a xs := let ⟨o, h, _⟩ := h; .inl (.inr ⟨o, h⟩)
mutual
def Rep (K : PySem.W.Frag) (H : Hp) : T → V → Prop
  | .non, v => v = .non
  | .bl b, v => v = .bl b
  | .int i, v => v = .int i
  | .str x, v => v = .str x
  | .ref a, v => v = .ref a
  | .ty n, v => v = .ty n
  | .tup xs, v => ∃ a vs, v = .ref a ∧ SqT K H a vs ∧ Reps K H xs vs
  | .fl xs, v => ∃ a vs, v = .ref a ∧ FrL K H a vs ∧ Reps K H xs vs
  | .ptup xs, v => ∃ a vs, v = .ref a ∧ PlT H a vs ∧ Reps K H xs vs
def Reps (K : PySem.W.Frag) (H : Hp) : List T → List V → Prop
  | [], vs => vs = []
  | t :: ts, vs => ∃ v r, vs = v :: r ∧ Rep K H t v ∧ Reps K H ts r
end

/-- tuples that can be read stay -/
structure Stay (K : PySem.W.Frag) (H H' : Hp) : Prop where
  t : ∀ a xs, SqT K H a xs → SqT K H' a xs
  f : ∀ a xs, FrL K H a xs → FrL K H' a xs
  x : ∀ a φ, H a = some (.ext φ) → H' a = some (.ext φ)
  p : ∀ a o xs, H a = some (.frz o (.tup xs)) → H' a = some (.frz o (.tup xs))
theorem Stay.refl {K H} : Stay K H H := ⟨fun _ _ h => h, fun _ _ h => h, fun _ _ h => h, fun _ _ _ h => h⟩
theorem Stay.trans {K H H1 H2} (a : Stay K H H1) (b : Stay K H1 H2) : Stay K H H2 := ⟨fun _ _ h => b.t _ _ (a.t _ _ h), fun _ _ h => b.f _ _ (a.f _ _ h), fun _ _ h => b.x _ _ (a.x _ _ h), fun _ _ _ h => b.p _ _ _ (a.p _ _ _ h)⟩

section
variable {K : PySem.W.Frag} {H H' : Hp}
mutual
theorem Rep.stay (S : Stay K H H') : ∀ {t : T} {v : V}, Rep K H t v → Rep K H' t v
  | .non, _, h => h
  | .bl _, _, h => h
  | .int _, _, h => h
  | .str _, _, h => h
  | .ref _, _, h => h
  | .ty _, _, h => h
  | .tup _, _, h => by
    simp only [Rep] at h ⊢
    obtain ⟨a, vs, e, q, r⟩ := h
    exact ⟨a, vs, e, S.t _ _ q, Reps.stay S r⟩
  | .fl _, _, h => by
    simp only [Rep] at h ⊢
    obtain ⟨a, vs, e, q, r⟩ := h
    exact ⟨a, vs, e, S.f _ _ q, Reps.stay S r⟩
  | .ptup _, _, h => by
    simp only [Rep] at h ⊢
    obtain ⟨a, vs, e, ⟨o, q, n⟩, r⟩ := h
    exact ⟨a, vs, e, ⟨o, S.p _ _ _ q, n⟩, Reps.stay S r⟩
theorem Reps.stay (S : Stay K H H') : ∀ {ts : List T} {vs : List V}, Reps K H ts vs → Reps K H' ts vs
  | [], _, h => by simpa only [Reps] using h
  | _ :: _, _, h => by
    simp only [Reps] at h ⊢
    obtain ⟨v, r, e, q, s⟩ := h
    exact ⟨v, r, e, Rep.stay S q, Reps.stay S s⟩
end
theorem Reps.length : ∀ {ts : List T} {vs : List V}, Reps K H ts vs → vs.length = ts.length
  | [], _, h => by simp only [Reps] at h; simp [h]
  | _ :: _, _, h => by
    simp only [Reps] at h
    obtain ⟨v, r, e, q, s⟩ := h
    subst e
    simp [Reps.length s]
theorem Reps.get : ∀ {ts : List T} {vs : List V} {i : Nat} {t : T}, Reps K H ts vs → ts[i]? = some t → ∃ v, vs[i]? = some v ∧ Rep K H t v
  | [], _, _, _, _, e => by simp at e
  | _ :: _, _, 0, _, h, e => by
    simp only [Reps] at h
    obtain ⟨v, r, e1, q, s⟩ := h
    subst e1
    simp at e; subst e
    exact ⟨v, rfl, q⟩
  | _ :: _, _, i + 1, _, h, e => by
    simp only [Reps] at h
    obtain ⟨v, r, e1, q, s⟩ := h
    subst e1
    exact Reps.get (i := i) s (by simpa using e)
theorem Reps.append : ∀ {ts us : List T} {vs ws : List V}, Reps K H ts vs → Reps K H us ws → Reps K H (ts ++ us) (vs ++ ws)
  | [], _, _, _, h, g => by simp only [Reps] at h; subst h; exact g
  | _ :: _, _, _, _, h, g => by
    simp only [Reps] at h
    obtain ⟨v, r, e1, q, s⟩ := h
    subst e1
    simp only [List.cons_append, Reps]
    exact ⟨v, _, rfl, q, Reps.append s g⟩
theorem Reps.cons {t : T} {v : V} {ts : List T} {vs : List V} (h : Rep K H t v) (g : Reps K H ts vs) : Reps K H (t :: ts) (v :: vs) := by
  simp only [Reps]; exact ⟨v, vs, rfl, h, g⟩
theorem Reps.nil : Reps K H [] [] := by simp only [Reps]
theorem Reps.one {t : T} {v : V} (h : Rep K H t v) : Reps K H [t] [v] := .cons h .nil
theorem Reps.of_one {t : T} {vs : List V} (h : Reps K H [t] vs) : ∃ v, vs = [v] ∧ Rep K H t v := by
  simp only [Reps] at h
  obtain ⟨v, r, e, q, rfl⟩ := h
  exact ⟨v, e, q⟩
theorem Reps.of_nil {vs : List V} (h : Reps K H [] vs) : vs = [] := by simpa only [Reps] using h
theorem Reps.of_cons {t : T} {ts : List T} {vs : List V} (h : Reps K H (t :: ts) vs) : ∃ v r, vs = v :: r ∧ Rep K H t v ∧ Reps K H ts r := by simpa only [Reps] using h
theorem Reps.of_two {t u : T} {vs : List V} (h : Reps K H [t, u] vs) : ∃ v w, vs = [v, w] ∧ Rep K H t v ∧ Rep K H u w := by
  obtain ⟨v, r, e, q, s⟩ := h.of_cons
  obtain ⟨w, rfl, q2⟩ := s.of_one
  exact ⟨v, w, e, q, q2⟩
theorem Reps.take : ∀ {ts : List T} {vs : List V} (n : Nat), Reps K H ts vs → Reps K H (ts.take n) (vs.take n)
  | _, _, 0, _ => by simp only [List.take_zero]; exact .nil
  | [], _, _ + 1, h => by simp only [Reps] at h; subst h; simp only [List.take_nil]; exact .nil
  | _ :: _, _, n + 1, h => by
    obtain ⟨v, r, rfl, q, s⟩ := h.of_cons
    simp only [List.take_succ_cons]
    exact .cons q (Reps.take n s)
theorem Reps.drop : ∀ {ts : List T} {vs : List V} (n : Nat), Reps K H ts vs → Reps K H (ts.drop n) (vs.drop n)
  | _, _, 0, h => h
  | [], _, _ + 1, h => by simp only [Reps] at h; subst h; simp only [List.drop_nil]; exact .nil
  | _ :: _, _, n + 1, h => by
    obtain ⟨v, r, rfl, q, s⟩ := h.of_cons
    simp only [List.drop_succ_cons]
    exact Reps.drop n s
theorem Reps.reverse {ts : List T} {vs : List V} (h : Reps K H ts vs) : Reps K H ts.reverse vs.reverse := by
  induction ts generalizing vs with
  | nil => simp only [Reps] at h; subst h; exact .nil
  | cons t ts ih =>
    obtain ⟨v, r, rfl, q, s⟩ := h.of_cons
    rw [List.reverse_cons, List.reverse_cons]
    exact (ih s).append (.one q)
theorem Reps.set {t : T} {v : V} (q : Rep K H t v) : ∀ {ts : List T} {vs : List V} (i : Nat), Reps K H ts vs → Reps K H (ts.set i t) (vs.set i v)
  | [], _, _, h => by simp only [Reps] at h; subst h; exact .nil
  | _ :: _, _, 0, h => by
    obtain ⟨v', r, rfl, _, s⟩ := h.of_cons
    exact .cons q s
  | _ :: _, _, i + 1, h => by
    obtain ⟨v', r, rfl, q', s⟩ := h.of_cons
    exact .cons q' (Reps.set q i s)
end

inductive GO where
  | lst (xs : List T)
  | dK (kvs : List (Key × T))
  /-- a dict while it is walked -/
  | dKr (kvs : List (Key × T)) (r : HO)
  | dT (kvs : List (List Key × T))
  | ins (C : Addr) (fs : List (Str × T))
  /-- a def's table of code objects, which all bear the name q -/
  | tab (q : Str)
abbrev GH := Addr → Option GO
def gupd (G : GH) (a : Addr) (o : GO) : GH := fun b => if b = a then some o else G b
theorem gupd_same {G : GH} {a : Addr} {o : GO} : gupd G a o a = some o := by unfold gupd; rw [if_pos rfl]
theorem gupd_ne {G : GH} {a b : Addr} {o : GO} (h : b ≠ a) : gupd G a o b = G b := by unfold gupd; rw [if_neg h]
theorem gupd_gupd {G : GH} {a : Addr} {o u : GO} : gupd (gupd G a o) a u = gupd G a u := by
  funext b; unfold gupd; split <;> rfl
theorem gupd_comm {G : GH} {a b : Addr} {o u : GO} (h : a ≠ b) : gupd (gupd G a o) b u = gupd (gupd G b u) a o := by
  funext c; unfold gupd
  by_cases e : c = a
  · subst e; simp [h]
  · simp [e]
theorem gupd_self {G : GH} {a : Addr} {o : GO} (h : G a = some o) : gupd G a o = G := by
  funext c; unfold gupd
  by_cases e : c = a
  · subst e; simp [h]
  · simp [e]

def KVR {κ : Type} (K : PySem.W.Frag) (H : Hp) : List (κ × T) → List (κ × V) → Prop := Paired fun (p : κ × T) (q : κ × V) => p.1 = q.1 ∧ Rep K H p.2 q.2
theorem KVR.stay {κ : Type} {K : PySem.W.Frag} {H H' : Hp} (S : Stay K H H') {ks : List (κ × T)} {ws : List (κ × V)} (h : KVR K H ks ws) : KVR K H' ks ws :=
  Paired.mapP h fun _ _ q => ⟨q.1, q.2.stay S⟩

def RO (K : PySem.W.Frag) (H : Hp) (a : Addr) : GO → Prop
  | .lst xs => ∃ vs, H a = some (.lst vs) ∧ Reps K H xs vs
  | .dK kvs => ∃ ws, H a = some (.dK ws) ∧ KVR K H kvs ws
  | .dKr kvs r => H a = some r ∧ ∃ ws, (r = .dK ws ∨ ∃ o, r = .frz o (.dK ws)) ∧ KVR K H kvs ws
  | .dT kvs => ∃ ws, H a = some (.dT ws) ∧ KVR K H kvs ws
  | .ins C fs => ∃ dx ws, H a = some (.ins C dx ws) ∧ H dx = some (.own a) ∧ KVR K H fs ws
  | .tab q => LamX.TabS H a q
def RG (K : PySem.W.Frag) (H : Hp) (G : GH) : Prop := ∀ a o, G a = some o → RO K H a o
/-- fewer things are told -/
def Sub (G G' : GH) : Prop := ∀ a o, G a = some o → G' a = some o
theorem RG.sub {K H G G'} (h : RG K H G') (s : Sub G G') : RG K H G := fun a o e => h a o (s a o e)
theorem Sub.refl {G} : Sub G G := fun _ _ h => h
theorem Sub.trans {G G1 G2} (a : Sub G G1) (b : Sub G1 G2) : Sub G G2 := fun _ _ h => b _ _ (a _ _ h)
theorem Sub.gupd {G : GH} {p : Addr} {o : GO} (h : G p = none) : Sub G (gupd G p o) := fun a u e => by
  rw [gupd_ne (fun z => by subst z; rw [h] at e; cases e)]; exact e
theorem Sub.put {G G' : GH} {p : Addr} {o : GO} (s : Sub G G') : Sub (TL.gupd G p o) (TL.gupd G' p o) := fun a u e => by
  by_cases z : a = p
  · subst z; rw [gupd_same] at e ⊢; exact e
  · rw [gupd_ne z] at e ⊢; exact s a u e
/-- a tracked address is held -/
theorem RG.free {K H G} (h : RG K H G) {p : Addr} (e : H p = none) : G p = none := by
  cases q : G p with
  | none => rfl
  | some o =>
    exfalso
    have r := h p o q
    cases o with
    | lst xs => obtain ⟨vs, e', _⟩ := r; rw [e] at e'; cases e'
    | dK xs => obtain ⟨vs, e', _⟩ := r; rw [e] at e'; cases e'
    | dKr xs u => rw [r.1] at e; cases e
    | dT xs => obtain ⟨vs, e', _⟩ := r; rw [e] at e'; cases e'
    | ins C fs => obtain ⟨dx, vs, e', _⟩ := r; rw [e] at e'; cases e'
    | tab q => obtain ⟨ps, e', _⟩ := r; rw [e] at e'; cases e'

/-- what may stand where something is written -/
def Wr : Option HO → Prop
  | none => True
  | some (.lst _) => True
  | some (.dK _) => True
  | some (.dT _) => True
  | some (.ins _ _ _) => True
  | some (.frz _ (.dK _)) => True
  | _ => False
theorem stay_upd {K H a o} (w : Wr (H a)) : Stay K H (upd H a o) := by
  refine ⟨fun b xs h => ?_, fun b xs h => ?_, fun b φ h => by rw [upd_ne (fun z => by subst z; rw [h] at w; exact w)]; exact h, fun b o xs h => by rw [upd_ne (fun z => by subst z; rw [h] at w; exact w)]; exact h⟩
  · rcases h with (h | ⟨ob, h⟩) | h
    · by_cases e : b = a
      · subst e; rw [h] at w; exact w.elim
      · exact .inl (.inl (by rw [upd_ne e]; exact h))
    · by_cases e : b = a
      · subst e; rw [h] at w; exact w.elim
      · exact .inl (.inr ⟨ob, by rw [upd_ne e]; exact h⟩)
    · exact .inr h
  · rcases h with ⟨ob, h⟩ | h
    · by_cases e : b = a
      · subst e; rw [h] at w; exact w.elim
      · exact .inl ⟨ob, by rw [upd_ne e]; exact h⟩
    · exact .inr h
theorem RO.upd {K H a b o g} (w : Wr (H a)) (e : b ≠ a) (h : RO K H b g) : RO K (L2.upd H a o) b g := by
  have S : Stay K H (L2.upd H a o) := stay_upd w
  cases g with
  | lst xs => obtain ⟨vs, q, r⟩ := h; exact ⟨vs, by rw [upd_ne e]; exact q, r.stay S⟩
  | dK xs => obtain ⟨vs, q, r⟩ := h; exact ⟨vs, by rw [upd_ne e]; exact q, r.stay S⟩
  | dKr xs u =>
    obtain ⟨q, vs, qe, r⟩ := h
    exact ⟨by rw [upd_ne e]; exact q, vs, qe, r.stay S⟩
  | dT xs => obtain ⟨vs, q, r⟩ := h; exact ⟨vs, by rw [upd_ne e]; exact q, r.stay S⟩
  | ins C fs =>
    obtain ⟨dx, ws, q, q2, r⟩ := h
    refine ⟨dx, ws, by rw [upd_ne e]; exact q, ?_, r.stay S⟩
    rw [upd_ne (fun z => by subst z; rw [q2] at w; exact w)]; exact q2
  | tab q =>
    obtain ⟨ps, h1, h2, h3⟩ := h
    refine ⟨ps, by rw [upd_ne e]; exact h1, h2, fun pos cv hc => ?_⟩
    obtain ⟨c, e1, e2⟩ := h3 pos cv hc
    exact ⟨c, e1, S.x _ _ e2⟩
theorem RG.put {K H G a o g} (R : RG K H G) (w : Wr (H a)) (h : RO K (L2.upd H a o) a g) : RG K (L2.upd H a o) (gupd G a g) := fun b u e => by
  by_cases z : b = a
  · subst z; rw [gupd_same] at e; cases e; exact h
  · rw [gupd_ne z] at e; exact RO.upd w z (R b u e)
/-- something new that is not told -/
theorem RG.new {K H G a o} (R : RG K H G) (n : H a = none) : RG K (L2.upd H a o) G := fun b u e => by
  have z : b ≠ a := fun z => by subst z; rw [R.free n] at e; cases e
  exact RO.upd (by rw [n]; exact True.intro) z (R b u e)
theorem wr_none {H : Hp} {a : Addr} (n : H a = none) : Wr (H a) := by rw [n]; exact True.intro
theorem wr_lst {H : Hp} {a : Addr} {xs} (n : H a = some (.lst xs)) : Wr (H a) := by rw [n]; exact True.intro
theorem wr_dK {H : Hp} {a : Addr} {xs} (n : H a = some (.dK xs)) : Wr (H a) := by rw [n]; exact True.intro
theorem RG.lst {K H G a xs} (R : RG K H G) (e : G a = some (.lst xs)) : ∃ vs, H a = some (.lst vs) ∧ Reps K H xs vs := R a _ e
theorem RG.dK {K H G a xs} (R : RG K H G) (e : G a = some (.dK xs)) : ∃ vs, H a = some (.dK vs) ∧ KVR K H xs vs := R a _ e
/-- a dict that can be read -/
def gd (G : GH) (p : Addr) (kvs : List (Key × T)) : Prop := G p = some (.dK kvs) ∨ ∃ r, G p = some (.dKr kvs r)
theorem gd_dK {G : GH} {p : Addr} {ks kvs : List (Key × T)} (h : G p = some (.dK ks)) : gd G p kvs ↔ ks = kvs := by
  unfold gd; rw [h]; constructor
  · rintro (h | ⟨r, h⟩)
    · cases h; rfl
    · cases h
  · rintro rfl; exact .inl rfl
theorem gd_dKr {G : GH} {p : Addr} {ks kvs : List (Key × T)} {r} (h : G p = some (.dKr ks r)) : gd G p kvs ↔ ks = kvs := by
  unfold gd; rw [h]; constructor
  · rintro (h | ⟨r, h⟩)
    · cases h
    · cases h; rfl
  · rintro rfl; exact .inr ⟨r, rfl⟩
theorem RG.gd {K H G p kvs} (R : RG K H G) (e : TL.gd G p kvs) : ∃ ws, Rd H p (.dK ws) ∧ KVR K H kvs ws := by
  rcases e with e | ⟨r, e⟩
  · obtain ⟨ws, h, q⟩ := R.dK e; exact ⟨ws, .inl h, q⟩
  · obtain ⟨h, ws, h2, q⟩ := R p _ e
    rcases h2 with rfl | ⟨o, rfl⟩
    · exact ⟨ws, .inl h, q⟩
    · exact ⟨ws, .inr ⟨o, h⟩, q⟩
/-- a new list -/
theorem RG.newL {K H G a xs vs} (R : RG K H G) (n : H a = none) (r : Reps K H xs vs) : RG K (L2.upd H a (.lst vs)) (gupd G a (.lst xs)) :=
  R.put (wr_none n) ⟨vs, upd_same, r.stay (stay_upd (wr_none n))⟩
/-- a list stored anew -/
theorem RG.setL {K H G a xs vs vs0} (R : RG K H G) (n : H a = some (.lst vs0)) (r : Reps K H xs vs) : RG K (L2.upd H a (.lst vs)) (gupd G a (.lst xs)) :=
  R.put (wr_lst n) ⟨vs, upd_same, r.stay (stay_upd (wr_lst n))⟩
/-- a new tuple -/
theorem rep_tup {K H a xs vs} (n : H a = none) (r : Reps K H xs vs) : Rep K (upd H a (.tup vs)) (.tup xs) (.ref a) := by
  simp only [Rep]
  exact ⟨a, vs, rfl, .inl (.inl upd_same), r.stay (stay_upd (wr_none n))⟩
end TL

namespace TL
open PySem PySem.Spec PyProof.Rows L2
abbrev St := L2.St

abbrev TSt := List (Option T)
abbrev TK := T → GH → Prop
abbrev TTE := TSt → GH → TK → Prop
abbrev TTT := TSt → GH → (Bool → GH → Prop) → Prop
abbrev TTA := TSt → GH → (List T → GH → Prop) → Prop
abbrev TR2 := T → T → GH → TK → Prop
abbrev TR1 := T → GH → TK → Prop
abbrev TRN := List T → GH → TK → Prop
structure TEnds where
  nx : TSt → GH → Prop
  rt : TK
  bk : TSt → GH → Prop := fun _ _ => False
  ct : TSt → GH → Prop := fun _ _ => False
abbrev TTS := TEnds → TSt → GH → Prop

def RS (K : PySem.W.Frag) (H : Hp) (st : TSt) (σ : St) : Prop := st.length = σ.length ∧ ∀ (i : Nat) (t : T), st[i]? = some (some t) → ∃ v, σ[i]? = some (some v) ∧ Rep K H t v
theorem RS.stay {K H H' st σ} (S : Stay K H H') (h : RS K H st σ) : RS K H' st σ := ⟨h.1, fun i t e => let ⟨v, a, b⟩ := h.2 i t e; ⟨v, a, b.stay S⟩⟩
theorem RS.set {K H st σ i t v} (h : RS K H st σ) (r : Rep K H t v) : RS K H (st.set i (some t)) (σ.set i (some v)) := by
  refine ⟨by simp [h.1], fun j u e => ?_⟩
  by_cases z : i = j
  · subst z
    rw [List.getElem?_set] at e ⊢
    simp only [if_true] at e ⊢
    split at e
    · rename_i hl
      cases e
      rw [if_pos (by rw [← h.1]; exact hl)]
      exact ⟨v, rfl, r⟩
    · cases e
  · rw [List.getElem?_set_ne z] at e ⊢
    exact h.2 j u e
/-- fewer slots are told -/
def Less (st0 st : TSt) : Prop := st0.length = st.length ∧ ∀ (i : Nat) (t : T), st0[i]? = some (some t) → st[i]? = some (some t)
theorem Less.refl {st} : Less st st := ⟨rfl, fun _ _ h => h⟩
theorem RS.less {K H st0 st σ} (h : RS K H st σ) (l : Less st0 st) : RS K H st0 σ := ⟨l.1.trans h.1, fun i t e => h.2 i t (l.2 i t e)⟩

/-- what follows an expression, over trees and over the heap -/
def Kont (K : PySem.W.Frag) (H : Hp) (R : TK) (Q : VK) : Prop := ∀ t v G' H', Rep K H' t v → RG K H' G' → Stay K H H' → R t G' → Q v H'
theorem Kont.stay {K H H' R Q} (S : Stay K H H') (k : Kont K H R Q) : Kont K H' R Q := fun t v G1 H1 a b c d => k t v G1 H1 a b (S.trans c) d
def KontB (K : PySem.W.Frag) (H : Hp) (R : Bool → GH → Prop) (Q : Bool → Hp → Prop) : Prop := ∀ b G' H', RG K H' G' → Stay K H H' → R b G' → Q b H'
theorem KontB.stay {K H H' R Q} (S : Stay K H H') (k : KontB K H R Q) : KontB K H' R Q := fun t G1 H1 b c d => k t G1 H1 b (S.trans c) d
def KontA (K : PySem.W.Frag) (H : Hp) (R : List T → GH → Prop) (Q : List V → Hp → Prop) : Prop := ∀ t v G' H', Reps K H' t v → RG K H' G' → Stay K H H' → R t G' → Q v H'
theorem KontA.stay {K H H' R Q} (S : Stay K H H') (k : KontA K H R Q) : KontA K H' R Q := fun t v G1 H1 a b c d => k t v G1 H1 a b (S.trans c) d
def KontS (K : PySem.W.Frag) (H : Hp) (R : TSt → GH → Prop) (Q : St → Hp → Prop) : Prop := ∀ st σ G' H', RS K H' st σ → RG K H' G' → Stay K H H' → R st G' → Q σ H'
theorem KontS.stay {K H H' R Q} (S : Stay K H H') (k : KontS K H R Q) : KontS K H' R Q := fun t v G1 H1 a b c d => k t v G1 H1 a b (S.trans c) d
structure KontD (K : PySem.W.Frag) (H : Hp) (R : TEnds) (Q : Ends) : Prop where
  nx : KontS K H R.nx Q.nx
  rt : Kont K H R.rt Q.rt
  bk : KontS K H R.bk Q.bk
  ct : KontS K H R.ct Q.ct
theorem KontD.stay {K H H' R Q} (S : Stay K H H') (k : KontD K H R Q) : KontD K H' R Q := ⟨k.nx.stay S, k.rt.stay S, k.bk.stay S, k.ct.stay S⟩

def LE (K : PySem.W.Frag) (τ : TTE) : TE := fun σ H Q => ∃ st G R, RS K H st σ ∧ RG K H G ∧ τ st G R ∧ Kont K H R Q
def LT (K : PySem.W.Frag) (τ : TTT) : TT := fun σ H Q => ∃ st G R, RS K H st σ ∧ RG K H G ∧ τ st G R ∧ KontB K H R Q
def LA (K : PySem.W.Frag) (τ : TTA) : TA := fun σ H Q => ∃ st G R, RS K H st σ ∧ RG K H G ∧ τ st G R ∧ KontA K H R Q
def LS (K : PySem.W.Frag) (τ : TTS) : TS := fun D σ H => ∃ st G R, RS K H st σ ∧ RG K H G ∧ τ R st G ∧ KontD K H R D

section
variable {X : Cx} {e a b c : Expr} {pos : Pos}
theorem _root_.L2.PE.imp {t t' : TE} (h : PE X e t) (m : ∀ σ H Q, t' σ H Q → t σ H Q) : PE X e t' := ⟨fun pins s σ H Q I q => h.run pins s σ H Q I (m _ _ _ q)⟩
theorem _root_.L2.PT.imp {t t' : TT} (h : PT X e t) (m : ∀ σ H Q, t' σ H Q → t σ H Q) : PT X e t' := ⟨fun pins s σ H Q I q => h.run pins s σ H Q I (m _ _ _ q)⟩
theorem _root_.L2.PW.imp {t t' : TT} (h : PW X e t) (m : ∀ σ H Q, t' σ H Q → t σ H Q) : PW X e t' := ⟨fun w pins s σ H Q I q => h.run w pins s σ H Q I (m _ _ _ q)⟩
theorem _root_.L2.PA.imp {es : List Expr} {t t' : TA} (h : PA X es t) (m : ∀ σ H Q, t' σ H Q → t σ H Q) : PA X es t' := ⟨fun p pins s σ H Q I q => h.run p pins s σ H Q I (m _ _ _ q)⟩
theorem _root_.L2.PS.imp {st : Stmt} {t t' : TS} (h : PS X st t) (m : ∀ D σ H, t' D σ H → t D σ H) : PS X st t' := ⟨fun pins s σ H D I q => h.run pins s σ H D I (m _ _ _ q)⟩
theorem _root_.L2.PSs.imp {st : List Stmt} {t t' : TS} (h : PSs X st t) (m : ∀ D σ H, t' D σ H → t D σ H) : PSs X st t' := ⟨fun pins s σ H D I q => h.run pins s σ H D I (m _ _ _ q)⟩
theorem _root_.L2.PG.imp {t t' : TG} (h : PG X e t) (m : ∀ v σ H Q, t' v σ H Q → t v σ H Q) : PG X e t' := ⟨fun pins s σ H v u Q I r q => h.run pins s σ H v u Q I r (m _ _ _ _ q)⟩
theorem _root_.L2.PGs.imp {es : List Expr} {t t' : TGs} (h : PGs X es t) (m : ∀ v σ H Q, t' v σ H Q → t v σ H Q) : PGs X es t' := ⟨fun pins s σ H v u Q I r q => h.run pins s σ H v u Q I r (m _ _ _ _ q)⟩
theorem _root_.L2.PI.imp {tg : Expr} {t t' : TI} (h : PI X tg e t) (m : ∀ σ H Q, t' σ H Q → t σ H Q) : PI X tg e t' := ⟨fun pins s σ H Q I q => h.run pins s σ H Q I (m _ _ _ q)⟩
theorem _root_.L2.PC.imp {op : CmpOp} {t t' : TE} (h : PC X op a b t) (m : ∀ σ H Q, t' σ H Q → t σ H Q) : PC X op a b t' := ⟨fun pins s σ H Q I q => h.run pins s σ H Q I (m _ _ _ q)⟩

def tvar (i : Nat) : TTE := fun st G R => ∃ t, st[i]? = some (some t) ∧ R t G
def tcon (t : T) : TTE := fun _ G R => R t G
theorem LE_var {K i σ H Q} (h : LE K (tvar i) σ H Q) : L2.tVar i σ H Q := by
  obtain ⟨st, G, R, rs, rg, ⟨t, e, q⟩, k⟩ := h
  obtain ⟨v, e2, r⟩ := rs.2 i t e
  exact ⟨v, e2, k t v G H r rg .refl q⟩
theorem LE_con {K t v σ H Q} (hr : ∀ H, Rep K H t v) (h : LE K (tcon t) σ H Q) : L2.tC v σ H Q := by
  obtain ⟨st, G, R, rs, rg, q, k⟩ := h
  exact k t v G H (hr H) rg .refl q
theorem w_var (i : Nat) {x : Str} (h : PE X (.Name x pos) (L2.tVar i)) : PE X (.Name x pos) (LE X.K (tvar i)) := h.imp fun _ _ _ => LE_var
theorem w_int {i j} : PE X (.Constant (.int i) j pos) (LE X.K (tcon (.int i))) := pe_int.imp fun _ _ _ => LE_con fun _ => rfl
theorem w_bl {i j} : PE X (.Constant (.bool i) j pos) (LE X.K (tcon (.bl i))) := pe_bl.imp fun _ _ _ => LE_con fun _ => rfl
theorem w_non {j} : PE X (.Constant .none j pos) (LE X.K (tcon .non)) := pe_non.imp fun _ _ _ => LE_con fun _ => rfl
theorem w_str {x j} : PE X (.Constant (.str x) j pos) (LE X.K (tcon (.str x))) := pe_str.imp fun _ _ _ => LE_con fun _ => rfl

def Up2 (K : PySem.W.Frag) (r : TR2) (r' : R2) : Prop := ∀ x y vx vy G H R Q, Rep K H x vx → Rep K H y vy → RG K H G → r x y G R → Kont K H R Q → r' vx vy H Q
def Up1 (K : PySem.W.Frag) (r : TR1) (r' : V → Hp → VK → Prop) : Prop := ∀ x vx G H R Q, Rep K H x vx → RG K H G → r x G R → Kont K H R Q → r' vx H Q
def UpN (K : PySem.W.Frag) (r : TRN) (r' : List V → Hp → VK → Prop) : Prop := ∀ x vx G H R Q, Reps K H x vx → RG K H G → r x G R → Kont K H R Q → r' vx H Q
def top (r : TR2) (ta tb : TTE) : TTE := fun st G R => ta st G fun x G1 => tb st G1 fun y G2 => r x y G2 R
theorem LE_op {K r r' ta tb σ H Q} (u : Up2 K r r') (h : LE K (top r ta tb) σ H Q) : tOp r' (LE K ta) (LE K tb) σ H Q := by
  obtain ⟨st, G, R, rs, rg, q, k⟩ := h
  refine ⟨st, G, _, rs, rg, q, fun x vx G1 H1 rx rg1 s1 q1 => ?_⟩
  refine ⟨st, G1, _, rs.stay s1, rg1, q1, fun y vy G2 H2 ry rg2 s2 q2 => ?_⟩
  exact u x y vx vy G2 H2 R Q (rx.stay s2) ry rg2 q2 (k.stay (s1.trans s2))
theorem w_op {op : Operator} {r : TR2} {r' : R2} {ta tb : TTE} (o : OpR X (binaryOp op) r') (u : Up2 X.K r r') (ha : PE X a (LE X.K ta)) (hb : PE X b (LE X.K tb)) : PE X (.BinOp a op b pos) (LE X.K (top r ta tb)) :=
  (pe_op o ha hb).imp fun _ _ _ => LE_op u
theorem w_cmp {op : CmpOp} {r : TR2} {r' : R2} {ta tb : TTE} (o : OpR X (compareOp op) r') (u : Up2 X.K r r') (ha : PE X a (LE X.K ta)) (hb : PE X b (LE X.K tb)) (h1 : behindInMarks op b = false) : PE X (.Compare a [op] [b] pos) (LE X.K (top r ta tb)) :=
  (pe_cmpR o ha hb h1).imp fun _ _ _ => LE_op u
theorem w_ix {r : TR2} {r' : R2} {ta tb : TTE} (o : IxR X r') (u : Up2 X.K r r') (ha : PE X a (LE X.K ta)) (hb : PE X b (LE X.K tb)) (hs : PlainIx b) : PE X (.Subscript a b pos) (LE X.K (top r ta tb)) :=
  (pe_ix o ha hb hs).imp fun _ _ _ => LE_op u

def tbool (ta : TTE) : TTT := fun st G R => ta st G fun x G1 => ∃ c, x = .bl c ∧ R c G1
theorem LT_bool {K ta σ H Q} (h : LT K (tbool ta) σ H Q) : tB (LE K ta) σ H Q := by
  obtain ⟨st, G, R, rs, rg, q, k⟩ := h
  refine ⟨st, G, _, rs, rg, q, fun x vx G1 H1 rx rg1 s1 ⟨c, e, q1⟩ => ?_⟩
  subst e
  exact ⟨c, rx, k c G1 H1 rg1 s1 q1⟩
theorem w_test {t : TTE} (h : PE X e (LE X.K t)) (he : ∀ whole, isTrue e X.env whole = (do let v ← whole; standAt e.pos; holding [v] (truthy v)) := by intro _; rfl) : PT X e (LT X.K (tbool t)) := (pt_val h he).imp fun _ _ _ => LT_bool
/-- truth of any value -/
def truth (G : GH) : T → Bool → Prop
  | .non, k => k = false
  | .bl b, k => k = b
  | .int i, k => k = (i != 0)
  | .str y, k => y.length ≤ sizeLine ∧ k = ((y.length : Int) != 0)
  | .tup xs, k => k = !xs.isEmpty
  | .fl xs, k => k = !xs.isEmpty
  | .ref p, k => (∃ xs, G p = some (.lst xs) ∧ k = !xs.isEmpty) ∨ ∃ kvs, G p = some (.dK kvs) ∧ k = !kvs.isEmpty
  | _, _ => False
def ttruth (ta : TTE) : TTT := fun st G R => ta st G fun x G1 => ∃ c, truth G1 x c ∧ R c G1
theorem Reps.isEmpty {K H ts vs} (h : Reps K H ts vs) : vs.isEmpty = ts.isEmpty := by
  have := h.length
  cases ts <;> cases vs <;> first | rfl | (simp at this)
theorem KVR.isEmpty {κ : Type} {K H} {ts : List (κ × T)} {vs : List (κ × V)} (h : KVR K H ts vs) : vs.isEmpty = ts.isEmpty := by
  cases h <;> rfl
theorem truth_up {K H G x vx k} (r : Rep K H x vx) (rg : RG K H G) (h : truth G x k) : TruV K vx H k := by
  cases x with
  | non => cases r; exact h
  | bl b => cases r; exact h
  | int i => cases r; exact h
  | str x => cases r; exact h
  | ref p =>
    cases r
    rcases h with ⟨xs, e, q⟩ | ⟨xs, e, q⟩
    · obtain ⟨vs, e2, r⟩ := rg.lst e
      exact .inl ⟨vs, .of e2, by rw [r.isEmpty]; exact q⟩
    · obtain ⟨vs, e2, r⟩ := rg.dK e
      exact .inr (.inr ⟨vs, e2, by rw [r.isEmpty]; exact q⟩)
  | ty n => exact h.elim
  | tup xs =>
    simp only [Rep] at r
    obtain ⟨a, vs, rfl, q, r⟩ := r
    exact .inr (.inl ⟨vs, q, by rw [r.isEmpty]; exact h⟩)
  | fl xs =>
    simp only [Rep] at r
    obtain ⟨a, vs, rfl, q, r⟩ := r
    exact .inl ⟨vs, q.seq, by rw [r.isEmpty]; exact h⟩
  | ptup xs => exact h.elim
theorem w_truth {t : TTE} (h : PE X e (LE X.K t)) (he : ∀ whole, isTrue e X.env whole = (do let v ← whole; standAt e.pos; holding [v] (truthy v)) := by intro _; rfl) : PT X e (LT X.K (ttruth t)) := (pt_truth h he).imp fun σ H Q => by
  rintro ⟨st, G, R, rs, rg, q, k⟩
  refine ⟨st, G, _, rs, rg, q, fun x vx G1 H1 rx rg1 s1 ⟨c, e, q1⟩ => ?_⟩
  exact ⟨c, truth_up rx rg1 e, k c G1 H1 rg1 s1 q1⟩
def tand (t u : TTT) : TTT := fun st G R => t st G fun c G1 => if c = true then u st G1 R else R false G1
def tor (t u : TTT) : TTT := fun st G R => t st G fun c G1 => if c = true then R true G1 else u st G1 R
def tnot (t : TTT) : TTT := fun st G R => t st G fun c G1 => R (!c) G1
theorem LT_and {K t u σ H Q} (h : LT K (tand t u) σ H Q) : tAnd (LT K t) (LT K u) σ H Q := by
  obtain ⟨st, G, R, rs, rg, q, k⟩ := h
  refine ⟨st, G, _, rs, rg, q, fun c G1 H1 rg1 s1 q1 => ?_⟩
  cases c with
  | true => exact ⟨st, G1, R, rs.stay s1, rg1, q1, k.stay s1⟩
  | false => exact k false G1 H1 rg1 s1 q1
theorem LT_or {K t u σ H Q} (h : LT K (tor t u) σ H Q) : tOr (LT K t) (LT K u) σ H Q := by
  obtain ⟨st, G, R, rs, rg, q, k⟩ := h
  refine ⟨st, G, _, rs, rg, q, fun c G1 H1 rg1 s1 q1 => ?_⟩
  cases c with
  | false => exact ⟨st, G1, R, rs.stay s1, rg1, q1, k.stay s1⟩
  | true => exact k true G1 H1 rg1 s1 q1
theorem LT_not {K t σ H Q} (h : LT K (tnot t) σ H Q) : tNot (LT K t) σ H Q := by
  obtain ⟨st, G, R, rs, rg, q, k⟩ := h
  exact ⟨st, G, _, rs, rg, q, fun c G1 H1 rg1 s1 q1 => k (!c) G1 H1 rg1 s1 q1⟩
variable {rest : List Expr} {tA tB' : TTT}
theorem w_and1 (ha : PT X a (LT X.K tA)) : PW X (.BoolOp .And [a] pos) (LT X.K tA) := pw_and1 ha
theorem w_or1 (ha : PT X a (LT X.K tA)) : PW X (.BoolOp .Or [a] pos) (LT X.K tA) := pw_or1 ha
theorem w_and (ha : PT X a (LT X.K tA)) (hb : PW X (.BoolOp .And (b :: rest) pos) (LT X.K tB')) : PW X (.BoolOp .And (a :: b :: rest) pos) (LT X.K (tand tA tB')) := (pw_and ha hb).imp fun _ _ _ => LT_and
theorem w_or (ha : PT X a (LT X.K tA)) (hb : PW X (.BoolOp .Or (b :: rest) pos) (LT X.K tB')) : PW X (.BoolOp .Or (a :: b :: rest) pos) (LT X.K (tor tA tB')) := (pw_or ha hb).imp fun _ _ _ => LT_or
theorem w_not (ha : PT X a (LT X.K tA)) : PT X (.UnaryOp .Not a pos) (LT X.K (tnot tA)) := (pt_not ha).imp fun _ _ _ => LT_not
def tandV (ta tb : TTE) : TTE := fun st G R => ta st G fun x G1 => ∃ c, x = .bl c ∧ if c = true then tb st G1 R else R (.bl false) G1
def torV (ta tb : TTE) : TTE := fun st G R => ta st G fun x G1 => ∃ c, x = .bl c ∧ if c = true then R (.bl true) G1 else tb st G1 R
def tnotV (ta : TTE) : TTE := fun st G R => ta st G fun x G1 => ∃ c, x = .bl c ∧ R (.bl (!c)) G1
variable {ta tb : TTE}
theorem w_one {op} (h : PE X a (LE X.K ta)) : PE X (.BoolOp op [a] pos) (LE X.K ta) := pe_one h
theorem w_andV (ha : PE X a (LE X.K ta)) (hb : PE X (.BoolOp .And (b :: rest) pos) (LE X.K tb)) : PE X (.BoolOp .And (a :: b :: rest) pos) (LE X.K (tandV ta tb)) := (pe_and ha hb).imp fun σ H Q => by
  rintro ⟨st, G, R, rs, rg, q, k⟩
  refine ⟨st, G, _, rs, rg, q, fun x vx G1 H1 rx rg1 s1 ⟨c, e, q1⟩ => ?_⟩
  subst e
  refine ⟨c, rx, ?_⟩
  cases c with
  | true => exact ⟨st, G1, R, rs.stay s1, rg1, q1, k.stay s1⟩
  | false => exact k (.bl false) (.bl false) G1 H1 rfl rg1 s1 q1
theorem w_orV (ha : PE X a (LE X.K ta)) (hb : PE X (.BoolOp .Or (b :: rest) pos) (LE X.K tb)) : PE X (.BoolOp .Or (a :: b :: rest) pos) (LE X.K (torV ta tb)) := (pe_or ha hb).imp fun σ H Q => by
  rintro ⟨st, G, R, rs, rg, q, k⟩
  refine ⟨st, G, _, rs, rg, q, fun x vx G1 H1 rx rg1 s1 ⟨c, e, q1⟩ => ?_⟩
  subst e
  refine ⟨c, rx, ?_⟩
  cases c with
  | false => exact ⟨st, G1, R, rs.stay s1, rg1, q1, k.stay s1⟩
  | true => exact k (.bl true) (.bl true) G1 H1 rfl rg1 s1 q1
theorem w_notV (ha : PE X a (LE X.K ta)) : PE X (.UnaryOp .Not a pos) (LE X.K (tnotV ta)) := (pe_not ha).imp fun σ H Q => by
  rintro ⟨st, G, R, rs, rg, q, k⟩
  refine ⟨st, G, _, rs, rg, q, fun x vx G1 H1 rx rg1 s1 ⟨c, e, q1⟩ => ?_⟩
  subst e
  exact ⟨c, rx, k (.bl (!c)) (.bl (!c)) G1 H1 rfl rg1 s1 q1⟩
def tife (t : TTT) (ta tb : TTE) : TTE := fun st G R => t st G fun c G1 => if c = true then ta st G1 R else tb st G1 R
theorem w_ifExp (hc : PT X c (LT X.K tA)) (ha : PE X a (LE X.K ta)) (hb : PE X b (LE X.K tb)) : PE X (.IfExp c a b pos) (LE X.K (tife tA ta tb)) := (pe_ifExp hc ha hb).imp fun σ H Q => by
  rintro ⟨st, G, R, rs, rg, q, k⟩
  refine ⟨st, G, _, rs, rg, q, fun c G1 H1 rg1 s1 q1 => ?_⟩
  cases c with
  | true => exact ⟨st, G1, R, rs.stay s1, rg1, q1, k.stay s1⟩
  | false => exact ⟨st, G1, R, rs.stay s1, rg1, q1, k.stay s1⟩
/-- x is None, is not None -/
def T.isNon : T → Bool
  | .non => true
  | _ => false
def tisN (ta : TTE) : TTE := fun st G R => ta st G fun x G1 => R (.bl x.isNon) G1
def tnotN (ta : TTE) : TTE := fun st G R => ta st G fun x G1 => R (.bl (!x.isNon)) G1
theorem Rep.isN {K H x v} (r : Rep K H x v) : decide (v = V.non) = x.isNon := by
  cases x with
  | tup xs => simp only [Rep] at r; obtain ⟨a, vs, rfl, _⟩ := r; rfl
  | fl xs => simp only [Rep] at r; obtain ⟨a, vs, rfl, _⟩ := r; rfl
  | ptup xs => simp only [Rep] at r; obtain ⟨a, vs, rfl, _⟩ := r; rfl
  | _ => cases r; rfl
theorem c_isN {j pos'} (ha : PE X a (LE X.K ta)) : PE X (.Compare a [.Is] [.Constant .none j pos'] pos) (LE X.K (tisN ta)) := (pe_cmp (pc_isN ha) rfl).imp fun σ H Q => by
  rintro ⟨st, G, R, rs, rg, q, k⟩
  refine ⟨st, G, _, rs, rg, q, fun x vx G1 H1 rx rg1 s1 q1 => ?_⟩
  refine k _ _ G1 H1 ?_ rg1 s1 q1
  show V.bl _ = V.bl _
  rw [rx.isN]
theorem c_notN {j pos'} (ha : PE X a (LE X.K ta)) : PE X (.Compare a [.IsNot] [.Constant .none j pos'] pos) (LE X.K (tnotN ta)) := (pe_cmp (pc_notN ha) rfl).imp fun σ H Q => by
  rintro ⟨st, G, R, rs, rg, q, k⟩
  refine ⟨st, G, _, rs, rg, q, fun x vx G1 H1 rx rg1 s1 q1 => ?_⟩
  refine k _ _ G1 H1 ?_ rg1 s1 q1
  show V.bl _ = V.bl _
  rw [rx.isN]
end

def tanil : TTA := fun _ G R => R [] G
def tacons (t : TTE) (u : TTA) : TTA := fun st G R => t st G fun x G1 => u st G1 fun xs G2 => R (x :: xs) G2
section
variable {X : Cx} {e : Expr} {es : List Expr} {pos : Pos} {te : TTE} {t : TTA}
theorem a_nil : PA X [] (LA X.K tanil) := pa_nil.imp fun σ H Q => by
  rintro ⟨st, G, R, rs, rg, q, k⟩
  exact k [] [] G H .nil rg .refl q
theorem a_cons (ha : PE X e (LE X.K te)) (hr : PA X es (LA X.K t)) (hs : starEach (e :: es) X.env = (false, eval e X.env) :: starEach es X.env := by rfl) : PA X (e :: es) (LA X.K (tacons te t)) := (pa_cons ha hr hs).imp fun σ H Q => by
  rintro ⟨st, G, R, rs, rg, q, k⟩
  refine ⟨st, G, _, rs, rg, q, fun x vx G1 H1 rx rg1 s1 q1 => ?_⟩
  refine ⟨st, G1, _, rs.stay s1, rg1, q1, fun xs vs G2 H2 rxs rg2 s2 q2 => ?_⟩
  exact k (x :: xs) (vx :: vs) G2 H2 (.cons (rx.stay s2) rxs) rg2 (s1.trans s2) q2
def ttup (t : TTA) : TTE := fun st G R => t st G fun xs G1 => xs.length ≤ sizeLine ∧ R (.tup xs) G1
def tlst (t : TTA) : TTE := fun st G R => t st G fun xs G1 => xs.length ≤ sizeLine ∧ ∀ p, G1 p = none → R (.ref p) (gupd G1 p (.lst xs))
theorem w_tup {x1} (h : PA X es (LA X.K t)) : PE X (.Tuple es x1 pos) (LE X.K (ttup t)) := (pe_tup h).imp fun σ H Q => by
  rintro ⟨st, G, R, rs, rg, q, k⟩
  refine ⟨st, G, _, rs, rg, q, fun xs vs G1 H1 rx rg1 s1 ⟨z, q1⟩ => ⟨by rw [rx.length]; exact z, fun p hp => ?_⟩⟩
  exact k _ _ G1 _ (rep_tup hp rx) (rg1.new hp) (s1.trans (stay_upd (wr_none hp))) q1
theorem w_lst (h : PA X es (LA X.K t)) : PE X (.List es pos) (LE X.K (tlst t)) := (pe_lst h).imp fun σ H Q => by
  rintro ⟨st, G, R, rs, rg, q, k⟩
  refine ⟨st, G, _, rs, rg, q, fun xs vs G1 H1 rx rg1 s1 ⟨z, q1⟩ => ⟨by rw [rx.length]; exact z, fun p hp => ?_⟩⟩
  exact k (.ref p) (.ref p) _ _ rfl (rg1.newL hp rx) (s1.trans (stay_upd (wr_none hp))) (q1 p (rg1.free hp))
end

section
variable {X : Cx} {e c : Expr} {st : Stmt} {rest a b : List Stmt} {pos : Pos} {te : TTE} {tc : TTT} {t u : TTS}
def tnext : TTS := fun D st G => D.nx st G
def tseq (t u : TTS) : TTS := fun D st G => t { D with nx := u D } st G
theorem s_nil : PSs X [] (LS X.K tnext) := pss_nil.imp fun D σ H => by
  rintro ⟨st, G, R, rs, rg, q, k⟩
  exact k.nx st σ G H rs rg .refl q
theorem s_cons (h1 : PS X st (LS X.K t)) (h2 : PSs X rest (LS X.K u)) : PSs X (st :: rest) (LS X.K (tseq t u)) := (pss_cons h1 h2).imp fun D σ H => by
  rintro ⟨st, G, R, rs, rg, q, k⟩
  exact ⟨st, G, _, rs, rg, q, ⟨fun st' σ' G' H' rs' rg' s' q' => ⟨st', G', R, rs', rg', q', k.stay s'⟩, k.rt, k.bk, k.ct⟩⟩
theorem s_one (h1 : PS X st (LS X.K t)) : PSs X [st] (LS X.K t) := pss_one h1
theorem s_pass : PS X (.Pass pos) (LS X.K tnext) := ps_pass.imp fun D σ H => by
  rintro ⟨st, G, R, rs, rg, q, k⟩
  exact k.nx st σ G H rs rg .refl q
def tbreak : TTS := fun D st G => D.bk st G
def tcont : TTS := fun D st G => D.ct st G
theorem s_break : PS X (.Break pos) (LS X.K tbreak) := ps_break.imp fun D σ H => by
  rintro ⟨st, G, R, rs, rg, q, k⟩
  exact k.bk st σ G H rs rg .refl q
theorem s_continue : PS X (.Continue pos) (LS X.K tcont) := ps_continue.imp fun D σ H => by
  rintro ⟨st, G, R, rs, rg, q, k⟩
  exact k.ct st σ G H rs rg .refl q
def tdrop (te : TTE) : TTS := fun D st G => te st G fun _ G1 => D.nx st G1
theorem s_expr (he : PE X e (LE X.K te)) (hs : swapsWith e none pos.line X.env = pure false := by rfl) : PS X (.Expr e pos) (LS X.K (tdrop te)) := (ps_expr he hs).imp fun D σ H => by
  rintro ⟨st, G, R, rs, rg, q, k⟩
  exact ⟨st, G, _, rs, rg, q, fun x vx G1 H1 rx rg1 s1 q1 => k.nx st σ G1 H1 (rs.stay s1) rg1 s1 q1⟩
def tret (te : TTE) : TTS := fun D st G => te st G D.rt
theorem s_ret (he : PE X e (LE X.K te)) : PS X (.Return (some e) pos) (LS X.K (tret te)) := (ps_ret he).imp fun D σ H => by
  rintro ⟨st, G, R, rs, rg, q, k⟩
  exact ⟨st, G, _, rs, rg, q, k.rt⟩
def tretN : TTS := fun D _ G => D.rt .non G
theorem s_retN : PS X (.Return none pos) (LS X.K tretN) := ps_retN.imp fun D σ H => by
  rintro ⟨st, G, R, rs, rg, q, k⟩
  exact k.rt .non .non G H rfl rg .refl q
def tifs (c : TTT) (t u : TTS) : TTS := fun D st G => c st G fun b G1 => if b = true then t D st G1 else u D st G1
theorem s_if (hc : PT X c (LT X.K tc)) (ha : PSs X a (LS X.K t)) (hb : PSs X b (LS X.K u)) : PS X (.If c a b pos) (LS X.K (tifs tc t u)) := (ps_if hc ha hb).imp fun D σ H => by
  rintro ⟨st, G, R, rs, rg, q, k⟩
  refine ⟨st, G, _, rs, rg, q, fun c G1 H1 rg1 s1 q1 => ?_⟩
  cases c with
  | true => exact ⟨st, G1, R, rs.stay s1, rg1, q1, k.stay s1⟩
  | false => exact ⟨st, G1, R, rs.stay s1, rg1, q1, k.stay s1⟩
end

abbrev TTG := T → TSt → GH → (TSt → GH → Prop) → Prop
abbrev TTGs := List T → TSt → GH → (TSt → GH → Prop) → Prop
def LG (K : PySem.W.Frag) (τ : TTG) : TG := fun v σ H Q => ∃ t st G R, Rep K H t v ∧ RS K H st σ ∧ RG K H G ∧ τ t st G R ∧ KontS K H R Q
def LGs (K : PySem.W.Frag) (τ : TTGs) : TGs := fun v σ H Q => ∃ t st G R, Reps K H t v ∧ RS K H st σ ∧ RG K H G ∧ τ t st G R ∧ KontS K H R Q
def gname (i : Nat) : TTG := fun t st G R => R (st.set i (some t)) G
def gnil : TTGs := fun ts st G R => ts = [] ∧ R st G
def gcons (t : TTG) (u : TTGs) : TTGs := fun ts st G R => ∃ x r, ts = x :: r ∧ t x st G fun st' G' => u r st' G' R
def gtup (n : Nat) (t : TTGs) : TTG := fun x st G R => ∃ xs, x = .tup xs ∧ xs.length = n ∧ t xs st G R
section
variable {X : Cx} {e : Expr} {es : List Expr} {pos : Pos} {te : TTE} {g : TTG} {gs : TTGs}
theorem g_name {i : Nat} {x : Str} (h : PG X (.Name x pos) (gName i)) : PG X (.Name x pos) (LG X.K (gname i)) := h.imp fun v σ H Q => by
  rintro ⟨t, st, G, R, r, rs, rg, q, k⟩
  exact k _ _ G H (rs.set r) rg .refl q
theorem gs_nil : PGs X [] (LGs X.K gnil) := pgs_nil.imp fun v σ H Q => by
  rintro ⟨t, st, G, R, r, rs, rg, ⟨e, q⟩, k⟩
  subst e
  exact ⟨r.of_nil, k _ _ G H rs rg .refl q⟩
theorem gs_cons (h1 : PG X e (LG X.K g)) (h2 : PGs X es (LGs X.K gs)) (hs : (assignEach (e :: es) X.env).map (·.2) = assign e X.env :: (assignEach es X.env).map (·.2) := by rfl) : PGs X (e :: es) (LGs X.K (gcons g gs)) := (pgs_cons h1 h2 hs).imp fun v σ H Q => by
  rintro ⟨t, st, G, R, r, rs, rg, ⟨x, xr, e, q⟩, k⟩
  subst e
  obtain ⟨v1, vr, rfl, r1, r2⟩ := r.of_cons
  exact ⟨v1, vr, rfl, x, st, G, _, r1, rs, rg, q, fun st' σ' G' H' rs' rg' s' q' => ⟨xr, st', G', R, r2.stay s', rs', rg', q', k.stay s'⟩⟩
theorem g_tup {k : Nat} {n : Nat} (hc : X.calm = true) (h : PGs X es (LGs X.K gs)) (hn : (assignEach es X.env).length = n := by rfl) (hst : (assignEach es X.env).findIdx? (·.1) = none := by rfl) : PG X (.Tuple es k pos) (LG X.K (gtup n gs)) := (pg_tup hc h hn hst).imp fun v σ H Q => by
  rintro ⟨t, st, G, R, r, rs, rg, ⟨xs, e, l, q⟩, k⟩
  subst e
  simp only [Rep] at r
  obtain ⟨a, vs, rfl, hs, r⟩ := r
  exact ⟨a, vs, rfl, hs, by rw [r.length]; exact l, xs, st, G, R, r, rs, rg, q, k⟩
def tasg (te : TTE) (g : TTG) : TTS := fun D st G => te st G fun x G1 => g x st G1 D.nx
theorem LS_asg {K te g D σ H} (h : LS K (tasg te g) D σ H) : tAsg (LE K te) (LG K g) D σ H := by
  obtain ⟨st, G, R, rs, rg, q, k⟩ := h
  exact ⟨st, G, _, rs, rg, q, fun x vx G1 H1 rx rg1 s1 q1 => ⟨x, st, G1, _, rx, rs.stay s1, rg1, q1, k.nx.stay s1⟩⟩
theorem s_asg {tg e : Expr} (he : PE X e (LE X.K te)) (hg : PG X tg (LG X.K g)) (hs : swapsWithSole [tg] e pos.line X.env = pure false := by rfl) (hw : swappedStores [tg] e X.env = pure none := by rfl) (h1 : (assignEach [tg] X.env).map (·.2) = [assign tg X.env] := by rfl) : PS X (.Assign [tg] e pos) (LS X.K (tasg te g)) := (ps_asg he hg hs hw h1).imp fun D σ H => LS_asg
end
end TL

namespace TL
open PySem PySem.Spec PyProof.Rows L2

/-- weaker: some slots and things forgotten -/
def Wk (P : TSt → GH → Prop) : TSt → GH → Prop := fun st G => ∃ st0 G0, Less st0 st ∧ Sub G0 G ∧ P st0 G0
theorem Wk.of {P : TSt → GH → Prop} {st G} (h : P st G) : Wk P st G := ⟨st, G, .refl, .refl, h⟩

section
variable {X : Cx} {e c : Expr} {body : List Stmt} {pos : Pos} {te : TTE} {tc : TTT} {tb : TTS}
def twhile (c : TTT) (tb : TTS) : TTS := fun D st G => ∃ W : Nat → TSt → GH → Prop, (∃ m, W m st G) ∧ ∀ m st G, W m st G →
  c st G fun b G1 => if b = true then tb { D with nx := fun st' G' => ∃ m', m' < m ∧ Wk (W m') st' G', ct := fun st' G' => ∃ m', m' < m ∧ Wk (W m') st' G', bk := D.nx } st G1 else D.nx st G1
theorem s_while (hp : PassesOwn (model X.prog X.w) X.A X.env X.xe) (hc : PT X c (LT X.K tc)) (hb : PSs X body (LS X.K tb)) : PS X (.While c body [] pos) (LS X.K (twhile tc tb)) := (ps_while hp hc hb).imp fun D σ H0 => by
  rintro ⟨st0, G0, R, rs0, rg0, ⟨W, ⟨m0, w0⟩, turn⟩, k⟩
  refine ⟨fun m σ H => ∃ st G, RS X.K H st σ ∧ RG X.K H G ∧ Stay X.K H0 H ∧ W m st G, ⟨m0, st0, G0, rs0, rg0, .refl, w0⟩, ?_⟩
  rintro m σ H ⟨st, G, rs, rg, s, w⟩
  refine ⟨st, G, _, rs, rg, turn m st G w, fun b G1 H1 rg1 s1 q1 => ?_⟩
  cases b with
  | false => exact k.nx st σ G1 H1 (rs.stay s1) rg1 (s.trans s1) q1
  | true =>
    refine ⟨fun σ' H' => ∃ m', m' < m ∧ ∃ st G, RS X.K H' st σ' ∧ RG X.K H' G ∧ Stay X.K H0 H' ∧ W m' st G, fun _ _ q => q, ?_⟩
    have go : ∀ st' σ' G' H', RS X.K H' st' σ' → RG X.K H' G' → Stay X.K H1 H' → (∃ m', m' < m ∧ Wk (W m') st' G') → ∃ m', m' < m ∧ ∃ st G, RS X.K H' st σ' ∧ RG X.K H' G ∧ Stay X.K H0 H' ∧ W m' st G := by
      rintro st' σ' G' H' rs' rg' s' ⟨m', hm, st2, G2, l, sb, w2⟩
      exact ⟨m', hm, st2, G2, rs'.less l, rg'.sub sb, (s.trans s1).trans s', w2⟩
    exact ⟨st, G1, _, rs.stay s1, rg1, q1, ⟨go, k.rt.stay (s.trans s1), k.nx.stay (s.trans s1), go⟩⟩

/-- what is walked: the items, and what must stay true of the things meanwhile -/
structure Fits (K : PySem.W.Frag) (J : It) (items : List T) (keep : GH → Prop) (H0 : Hp) : Prop where
  go : ∀ H G i t, Stay K H0 H → RG K H G → keep G → items[i]? = some t → J.go i H ∧ ∀ x H', J.yld i H x H' → Rep K H' t x ∧ RG K H' G ∧ Stay K H H'
  stop : ∀ H G i, Stay K H0 H → RG K H G → keep G → i = items.length → J.stop i H
abbrev TTI := TSt → GH → (List T → (GH → Prop) → GH → Prop) → Prop
def LI (K : PySem.W.Frag) (τ : TTI) : TI := fun σ H R => ∃ st G RT, RS K H st σ ∧ RG K H G ∧ τ st G RT ∧ ∀ items keep J G' H', Fits K J items keep H' → RG K H' G' → Stay K H H' → RT items keep G' → R J H'
def forGo (keep : GH → Prop) (g : TTG) (tb : TTS) (D : TEnds) : List T → TSt → GH → Prop
  | [], st, G => keep G ∧ D.nx st G
  | x :: xs, st, G => keep G ∧ g x st G fun st2 G2 => tb { D with nx := Wk (forGo keep g tb D xs), ct := Wk (forGo keep g tb D xs), bk := D.nx } st2 G2
def tfor (wi : TTI) (g : TTG) (tb : TTS) : TTS := fun D st G => wi st G fun items keep G1 => forGo keep g tb D items st G1
theorem forGo_keep {keep g tb D xs st G} (h : forGo keep g tb D xs st G) : keep G := by cases xs <;> exact h.1
variable {tg iter : Expr} {wi : TTI} {g : TTG}
theorem for_core {K : PySem.W.Frag} {J : It} {items : List T} {keep : GH → Prop} {H1 : Hp} {G1 : GH} {st0 : TSt} {σ0 : St} {R : TEnds} {D : Ends} (fit : Fits K J items keep H1) (rs0 : RS K H1 st0 σ0) (rg1 : RG K H1 G1) (q1 : forGo keep g tb R items st0 G1) (k : KontD K H1 R D) :
    ∃ W : Nat → Nat → St → Hp → Prop, (∃ m, W 0 m σ0 H1) ∧ ∀ i m σ H, W i m σ H →
      (J.stop i H ∧ D.nx σ H) ∨ (J.go i H ∧ ∃ N : St → Hp → Prop, (∀ σ' H', N σ' H' → ∃ m', m' < m ∧ W (i + 1) m' σ' H') ∧ ∀ x H', J.yld i H x H' → LG K g x σ H' fun σ2 H2 => LS K tb { D with nx := N, ct := N, bk := D.nx } σ2 H2) := by
  refine ⟨fun i m σ H' => m = items.length - i ∧ i ≤ items.length ∧ ∃ st G, RS K H' st σ ∧ RG K H' G ∧ Stay K H1 H' ∧ forGo keep g tb R (items.drop i) st G, ⟨items.length, by simp, Nat.zero_le _, st0, G1, rs0, rg1, .refl, q1⟩, ?_⟩
  rintro i m σ H2 ⟨rfl, hi, st, G, rs, rg, s, q⟩
  have kp := forGo_keep q
  by_cases hlt : i < items.length
  · rw [List.drop_eq_getElem_cons hlt] at q
    obtain ⟨_, q⟩ := q
    obtain ⟨go, yl⟩ := fit.go H2 G i items[i] s rg kp (by simp [hlt])
    refine .inr ⟨go, fun σ' H' => ∃ st G, RS K H' st σ' ∧ RG K H' G ∧ Stay K H1 H' ∧ forGo keep g tb R (items.drop (i + 1)) st G, fun σ' H' p' => ⟨items.length - (i + 1), by omega, rfl, hlt, p'⟩, fun x H' y => ?_⟩
    obtain ⟨r', rg', s'⟩ := yl x H' y
    refine ⟨items[i], st, G, _, r', rs.stay s', rg', q, fun st3 σ3 G3 H3 rs3 rg3 s3 q3 => ?_⟩
    have sA : Stay K H1 H3 := s.trans (s'.trans s3)
    have again : ∀ st' σ' G' H', RS K H' st' σ' → RG K H' G' → Stay K H3 H' → Wk (forGo keep g tb R (items.drop (i + 1))) st' G' → ∃ st G, RS K H' st σ' ∧ RG K H' G ∧ Stay K H1 H' ∧ forGo keep g tb R (items.drop (i + 1)) st G := by
      rintro st' σ' G' H' rs' rg' s' ⟨st2, G2, l, sb, w2⟩
      exact ⟨st2, G2, rs'.less l, rg'.sub sb, sA.trans s', w2⟩
    exact ⟨st3, G3, _, rs3, rg3, q3, ⟨again, k.rt.stay sA, k.nx.stay sA, again⟩⟩
  · have ei : i = items.length := by omega
    subst ei
    rw [List.drop_length] at q
    exact .inl ⟨fit.stop H2 G _ s rg kp rfl, k.nx st σ G H2 rs rg s q.2⟩
theorem s_for (hp : PassesOwn (model X.prog X.w) X.A X.env X.xe) (hc : X.calm = true) (hi : PI X tg iter (LI X.K wi)) (hg : PG X tg (LG X.K g)) (hb : PSs X body (LS X.K tb))
    (hs : ∀ x, foldedSetIterable iter X.env x = pure x := by intro _; rfl) : PS X (.For tg iter body [] pos) (LS X.K (tfor wi g tb)) := (ps_for hp hc hi hg hb hs).imp fun D σ H => by
  rintro ⟨st0, G0, R, rs0, rg0, q, k⟩
  exact ⟨st0, G0, _, rs0, rg0, q, fun items keep J G1 H1 fit rg1 s1 q1 => for_core fit (rs0.stay s1) rg1 q1 (k.stay s1)⟩

/-- anything that is a list or a tuple -/
def iAny (K : PySem.W.Frag) (tl : TE) : L2.TI := fun σ H R => tl σ H fun x H1 => (∃ a, x = .ref a ∧ (∃ xs, SqL K H1 a xs) ∧ R (Itl K a) H1) ∨ ∃ a, x = .ref a ∧ (∃ xs, SqT K H1 a xs) ∧ R (Itt K a) H1
theorem pi_any {l : Expr} {tl : TE} (hl : PE X l tl) : PI X tg l (iAny X.K tl) := by
  refine ⟨fun pins s σ H R I h => ?_⟩
  refine thn (hl.run pins s σ H _ I h) fun v s1 ⟨x, H1, I1, r1, q1⟩ => ?_
  rcases q1 with ⟨a, e, ⟨xs, hq⟩, q⟩ | ⟨a, e, ⟨xs, hq⟩, q⟩
  · subst e
    cases r1
    obtain ⟨its, rv, p, hz⟩ := I1.list hq
    refine wpAny_pyIter_list p.isList ?_
    refine ⟨s1.heap.objs.size, [s1.heap.objs.size], _, _, H1, rfl, I1.kept (t' := s1.toks) fun b o e => Heap.get?_push_of_some _ e, turn_list a _, ⟨_, Heap.get?_push_size _ rfl, rfl, rfl⟩, fun b hb => ?_, q⟩
    have e : b = s1.heap.objs.size := by simpa using hb
    subst e
    exact I1.fpOk (Nat.le_refl _) (I1.hok.fresh (Nat.le_refl _))
  · subst e
    cases r1
    obtain ⟨its, rv, p, hz⟩ := I1.tuple hq
    refine wpAny_pyIter_tuple (show s1.heap.IsTuple a its.toArray from p) ?_
    refine ⟨s1.heap.objs.size, [s1.heap.objs.size], _, _, H1, rfl, I1.kept (t' := s1.toks) fun b o e => Heap.get?_push_of_some _ e, turn_tuple a _, ⟨_, Heap.get?_push_size _ rfl, rfl, rfl⟩, fun b hb => ?_, q⟩
    have e : b = s1.heap.objs.size := by simpa using hb
    subst e
    exact I1.fpOk (Nat.le_refl _) (I1.hok.fresh (Nat.le_refl _))
/-- the items of a value, and what must stay meanwhile -/
def items (G : GH) (RT : List T → (GH → Prop) → GH → Prop) : T → Prop
  | .tup xs => RT xs (fun _ => True) G
  | .fl xs => RT xs (fun _ => True) G
  | .ref p => ∃ xs, G p = some (.lst xs) ∧ RT xs (fun G' => G' p = some (.lst xs)) G
  | _ => False
def iany (t : TTE) : TTI := fun st G RT => t st G fun x G1 => items G1 RT x
theorem fits_tup {K H a xs vs} (h : SqT K H a vs) (r : Reps K H xs vs) : Fits K (Itt K a) xs (fun _ => True) H := by
  refine ⟨fun H1 G i t s rg _ e => ?_, fun H1 G i s rg _ hl => ⟨vs, s.t _ _ h, by rw [r.length]; exact Nat.le_of_eq hl.symm⟩⟩
  obtain ⟨v, e1, r1⟩ := r.get e
  refine ⟨⟨vs, v, s.t _ _ h, e1⟩, fun x H' y => ?_⟩
  obtain ⟨eh, y⟩ := y
  subst eh
  have e2 := y vs (s.t _ _ h)
  rw [e1] at e2
  cases e2
  exact ⟨r1.stay s, rg, .refl⟩
theorem fits_fl {K H a xs vs} (h : FrL K H a vs) (r : Reps K H xs vs) : Fits K (Itl K a) xs (fun _ => True) H := by
  refine ⟨fun H1 G i t s rg _ e => ?_, fun H1 G i s rg _ hl => ⟨vs, (s.f _ _ h).seq, by rw [r.length]; exact Nat.le_of_eq hl.symm⟩⟩
  obtain ⟨v, e1, r1⟩ := r.get e
  refine ⟨⟨vs, v, (s.f _ _ h).seq, e1⟩, fun x H' y => ?_⟩
  obtain ⟨eh, y⟩ := y
  subst eh
  have e2 := y vs (s.f _ _ h).seq
  rw [e1] at e2
  cases e2
  exact ⟨r1.stay s, rg, .refl⟩
theorem fits_lst {K H a xs} : Fits K (Itl K a) xs (fun G' => G' a = some (.lst xs)) H := by
  refine ⟨fun H1 G i t s rg kp e => ?_, fun H1 G i s rg kp hl => ?_⟩
  · obtain ⟨vs, h, r⟩ := rg.lst kp
    obtain ⟨v, e1, r1⟩ := r.get e
    refine ⟨⟨vs, v, .of h, e1⟩, fun x H' y => ?_⟩
    obtain ⟨eh, y⟩ := y
    subst eh
    have e2 := y vs (.of h)
    rw [e1] at e2
    cases e2
    exact ⟨r1, rg, .refl⟩
  · obtain ⟨vs, h, r⟩ := rg.lst kp
    exact ⟨vs, .of h, by rw [r.length]; exact Nat.le_of_eq hl.symm⟩
theorem i_any (h : PE X e (LE X.K te)) : PI X tg e (LI X.K (iany te)) := (pi_any h).imp fun σ H R => by
  rintro ⟨st, G, RT, rs, rg, q, k⟩
  refine ⟨st, G, _, rs, rg, q, fun x vx G1 H1 rx rg1 s1 q1 => ?_⟩
  cases x with
  | tup xs =>
    simp only [Rep] at rx
    obtain ⟨a, vs, rfl, hs, r⟩ := rx
    exact .inr ⟨a, rfl, ⟨vs, hs⟩, k xs _ _ G1 H1 (fits_tup hs r) rg1 s1 q1⟩
  | fl xs =>
    simp only [Rep] at rx
    obtain ⟨a, vs, rfl, hs, r⟩ := rx
    exact .inl ⟨a, rfl, ⟨vs, hs.seq⟩, k xs _ _ G1 H1 (fits_fl hs r) rg1 s1 q1⟩
  | ref p =>
    cases rx
    obtain ⟨xs, e1, q1⟩ := q1
    obtain ⟨vs, h1, r⟩ := rg1.lst e1
    exact .inl ⟨p, rfl, ⟨vs, .of h1⟩, k xs _ _ G1 H1 fits_lst rg1 s1 q1⟩
  | _ => exact q1.elim
/-- reversed(..) of a list or tuple -/
def irev (t : TTE) : TTI := fun st G RT => t st G fun x G1 => items G1 (fun xs kp G2 => RT xs.reverse kp G2) x
theorem rev_get {α : Type} {xs : List α} {i : Nat} {t : α} (h : xs.reverse[i]? = some t) : i < xs.length ∧ xs[xs.length - 1 - i]? = some t := by
  have hl : i < xs.reverse.length := by
    rcases Nat.lt_or_ge i xs.reverse.length with h' | h'
    · exact h'
    · rw [List.getElem?_eq_none h'] at h; cases h
  rw [List.length_reverse] at hl
  rw [List.getElem?_reverse hl] at h
  exact ⟨hl, h⟩
end
end TL

namespace TL
open PySem PySem.Spec PyProof.Rows L2

section
variable {X : Cx} {e c : Expr} {body : List Stmt} {pos : Pos} {te : TTE} {tc : TTT} {tb : TTS} {tg iter : Expr} {wi : TTI} {g : TTG}
theorem fits_revL {K H a} {xs : List T} : Fits K (Itv K a xs.length) xs.reverse (fun G' => G' a = some (.lst xs)) H := by
  refine ⟨fun H1 G i t s rg kp e => ?_, fun H1 G i s rg kp hl => Nat.le_of_eq ((List.length_reverse (as := xs)) ▸ hl.symm)⟩
  obtain ⟨vs, h, r⟩ := rg.lst kp
  obtain ⟨hl, e⟩ := rev_get e
  obtain ⟨v, e1, r1⟩ := r.get e
  refine ⟨⟨hl, vs, v, .of h, e1⟩, fun x H' y => ?_⟩
  obtain ⟨eh, y⟩ := y
  subst eh
  have e2 := y vs (.of h)
  rw [e1] at e2
  cases e2
  exact ⟨r1, rg, .refl⟩
theorem fits_revF {K H a} {xs : List T} {vs : List V} (h : FrL K H a vs) (r : Reps K H xs vs) : Fits K (Itv K a xs.length) xs.reverse (fun _ => True) H := by
  refine ⟨fun H1 G i t s rg kp e => ?_, fun H1 G i s rg kp hl => Nat.le_of_eq ((List.length_reverse (as := xs)) ▸ hl.symm)⟩
  obtain ⟨hl, e⟩ := rev_get e
  obtain ⟨v, e1, r1⟩ := r.get e
  refine ⟨⟨hl, vs, v, (s.f _ _ h).seq, e1⟩, fun x H' y => ?_⟩
  obtain ⟨eh, y⟩ := y
  subst eh
  have e2 := y vs (s.f _ _ h).seq
  rw [e1] at e2
  cases e2
  exact ⟨r1.stay s, rg, .refl⟩
theorem fits_revT {K H a} {xs : List T} {vs : List V} (h : SqT K H a vs) (r : Reps K H xs vs) : Fits K (RT.ItvT K a xs.length) xs.reverse (fun _ => True) H := by
  refine ⟨fun H1 G i t s rg kp e => ?_, fun H1 G i s rg kp hl => Nat.le_of_eq ((List.length_reverse (as := xs)) ▸ hl.symm)⟩
  obtain ⟨hl, e⟩ := rev_get e
  obtain ⟨v, e1, r1⟩ := r.get e
  refine ⟨⟨hl, vs, v, s.t _ _ h, e1⟩, fun x H' y => ?_⟩
  obtain ⟨eh, y⟩ := y
  subst eh
  have e2 := y vs (s.t _ _ h)
  rw [e1] at e2
  cases e2
  exact ⟨r1.stay s, rg, .refl⟩
theorem i_rev {p pos : Pos} (hg : Gl X "reversed") (hm : X.mg "reversed" = none) (h : PE X e (LE X.K te)) (hs : starEach [e] X.env = (false, eval e X.env) :: starEach [] X.env := by rfl) : PI X tg (.Call (.Name "reversed" p) [e] [] pos) (LI X.K (irev te)) := (RT.pi_revA hg hm h hs).imp fun σ H R => by
  rintro ⟨st, G, RT, rs, rg, q, k⟩
  refine ⟨st, G, _, rs, rg, q, fun x vx G1 H1 rx rg1 s1 q1 => ?_⟩
  cases x with
  | tup xs =>
    simp only [Rep] at rx
    obtain ⟨a, vs, rfl, hs, r⟩ := rx
    refine ⟨a, vs, rfl, .inr ⟨hs, ?_⟩⟩
    rw [r.length]
    exact k xs.reverse _ _ G1 H1 (fits_revT hs r) rg1 s1 q1
  | fl xs =>
    simp only [Rep] at rx
    obtain ⟨a, vs, rfl, hs, r⟩ := rx
    refine ⟨a, vs, rfl, .inl ⟨hs.seq, ?_⟩⟩
    rw [r.length]
    exact k xs.reverse _ _ G1 H1 (fits_revF hs r) rg1 s1 q1
  | ref p =>
    cases rx
    obtain ⟨xs, e1, q1⟩ := q1
    obtain ⟨vs, h1, r⟩ := rg1.lst e1
    refine ⟨p, vs, rfl, .inl ⟨.of h1, ?_⟩⟩
    rw [r.length]
    exact k xs.reverse _ _ G1 H1 fits_revL rg1 s1 q1
  | _ => exact q1.elim
def rangeT (lo : Int) (n : Nat) : List T := (List.range n).map fun (i : Nat) => T.int (lo + (i : Int))
theorem rangeT_len (lo : Int) (n : Nat) : (rangeT lo n).length = n := by simp [rangeT]
theorem fits_range {K H} (lo : Int) (n : Nat) : Fits K (Itr lo n) (rangeT lo n) (fun _ => True) H := by
  refine ⟨fun H1 G i t s rg kp e => ?_, fun H1 G i s rg kp hl => Nat.le_of_eq ((rangeT_len lo n) ▸ hl.symm)⟩
  have hl : i < n := by
    rcases Nat.lt_or_ge i n with h' | h'
    · exact h'
    · rw [List.getElem?_eq_none (by rw [rangeT_len]; exact h')] at e; cases e
  have e2 : t = .int (lo + i) := by
    unfold rangeT at e
    rw [List.getElem?_map, List.getElem?_range hl] at e
    exact (Option.some.inj e).symm
  subst e2
  refine ⟨hl, fun x H' y => ?_⟩
  obtain ⟨eh, y⟩ := y
  subst eh y
  exact ⟨rfl, rg, .refl⟩
def irange1 (t : TTA) : TTI := fun st G RT => t st G fun xs G1 => ∃ j : Int, xs = [.int j] ∧ -(2 ^ 62) ≤ j ∧ j < 2 ^ 62 ∧ RT (rangeT 0 j.toNat) (fun _ => True) G1
def irange2 (t : TTA) : TTI := fun st G RT => t st G fun xs G1 => ∃ i j : Int, xs = [.int i, .int j] ∧ (-(2 ^ 62) ≤ i ∧ i < 2 ^ 62 ∧ -(2 ^ 62) ≤ j ∧ j < 2 ^ 62) ∧ RT (rangeT i (j - i).toNat) (fun _ => True) G1
variable {ta : TTA}
theorem i_range1 {a : Expr} {p pos : Pos} (hg : Gl X "range") (hm : X.mg "range" = none) (ha : PA X [a] (LA X.K ta)) (hs : starEach [a] X.env = [(false, eval a X.env)] := by rfl) : PI X tg (.Call (.Name "range" p) [a] [] pos) (LI X.K (irange1 ta)) := (pi_range1 hg hm ha hs).imp fun σ H R => by
  rintro ⟨st, G, RT, rs, rg, q, k⟩
  refine ⟨st, G, _, rs, rg, q, fun xs vs G1 H1 rx rg1 s1 ⟨j, e, h1, h2, q1⟩ => ?_⟩
  subst e
  obtain ⟨v, rfl, r⟩ := rx.of_one
  cases r
  exact ⟨j, rfl, h1, h2, k _ _ _ G1 H1 (fits_range 0 _) rg1 s1 q1⟩
theorem i_range2 {a b : Expr} {p pos : Pos} (hg : Gl X "range") (hm : X.mg "range" = none) (ha : PA X [a, b] (LA X.K ta)) (hs : starEach [a, b] X.env = [(false, eval a X.env), (false, eval b X.env)] := by rfl) (hs2 : starEach [b] X.env = [(false, eval b X.env)] := by rfl) :
    PI X tg (.Call (.Name "range" p) [a, b] [] pos) (LI X.K (irange2 ta)) := (pi_range2 hg hm ha hs hs2).imp fun σ H R => by
  rintro ⟨st, G, RT, rs, rg, q, k⟩
  refine ⟨st, G, _, rs, rg, q, fun xs vs G1 H1 rx rg1 s1 ⟨i, j, e, h, q1⟩ => ?_⟩
  subst e
  obtain ⟨v, w, rfl, r, r'⟩ := rx.of_two
  cases r
  cases r'
  exact ⟨i, j, rfl, h, k _ _ _ G1 H1 (fits_range i _) rg1 s1 q1⟩

def twipe (st : TSt) : List Nat → TSt
  | [] => st
  | v :: vs => (twipe st vs).set v none
theorem twipe_length (st : TSt) : ∀ vs, (twipe st vs).length = st.length
  | [] => rfl
  | v :: vs => by simp [twipe, twipe_length st vs]
theorem twipe_some {st : TSt} {i : Nat} {x : T} : ∀ {vs : List Nat}, (twipe st vs)[i]? = some (some x) → st[i]? = some (some x) ∧ i ∉ vs
  | [], h => ⟨h, by simp⟩
  | v :: vs, h => by
    unfold twipe at h
    by_cases hi : v = i
    · subst hi
      by_cases hv : v < (twipe st vs).length
      · rw [List.getElem?_set_self hv] at h; cases h
      · rw [List.getElem?_eq_none (by simpa using hv)] at h; cases h
    · rw [List.getElem?_set_ne hi] at h
      obtain ⟨h1, h2⟩ := twipe_some h
      exact ⟨h1, by simp only [List.mem_cons, not_or]; exact ⟨fun e => hi e.symm, h2⟩⟩
theorem wipe_keep {σ : St} {i : Nat} {x : Option V} : ∀ {vs : List Nat}, σ[i]? = some x → i ∉ vs → (wipe σ vs)[i]? = some x
  | [], h, _ => h
  | v :: vs, h, hn => by
    simp only [List.mem_cons, not_or] at hn
    unfold wipe
    rw [List.getElem?_set_ne (fun e => hn.1 e.symm)]
    exact wipe_keep h hn.2
theorem RS.wipe {K H st σ} (h : RS K H st σ) (vs : List Nat) : RS K H (twipe st vs) (L2.wipe σ vs) := by
  refine ⟨by rw [twipe_length, wipe_length]; exact h.1, fun i t e => ?_⟩
  obtain ⟨e1, hn⟩ := twipe_some e
  obtain ⟨v, e2, r⟩ := h.2 i t e1
  exact ⟨v, wipe_keep e2 hn, r⟩

theorem wipe_set_ne {σ : St} {i : Nat} {x : Option V} : ∀ {vs : List Nat}, i ∉ vs → wipe (σ.set i x) vs = (wipe σ vs).set i x
  | [], _ => rfl
  | v :: vs, hn => by
    simp only [List.mem_cons, not_or] at hn
    unfold wipe
    rw [wipe_set_ne hn.2, List.set_comm _ _ hn.1]
theorem wipe_set_in {σ : St} {i : Nat} {x : Option V} : ∀ {vs : List Nat}, i ∈ vs → wipe (σ.set i x) vs = wipe σ vs
  | [], h => by simp at h
  | v :: vs, h => by
    unfold wipe
    by_cases hi : i ∈ vs
    · rw [wipe_set_in hi]
    · have e : i = v := by
        rcases List.mem_cons.mp h with h | h
        · exact h
        · exact absurd h hi
      subst e
      rw [wipe_set_ne hi, List.set_set]
theorem wipe_wipe (σ : St) : ∀ vs : List Nat, wipe (wipe σ vs) vs = wipe σ vs := by
  have key : ∀ (us vs : List Nat), (∀ v ∈ us, v ∈ vs) → ∀ σ, wipe (wipe σ us) vs = wipe σ vs := by
    intro us
    induction us with
    | nil => intro vs _ σ; rfl
    | cons u us ih =>
      intro vs h σ
      show wipe ((wipe σ us).set u none) vs = _
      rw [wipe_set_in (h u (by simp)), ih vs (fun v hv => h v (by simp [hv]))]
  exact fun vs => key vs vs (fun _ h => h) σ

/-- targets that store names of the comprehension alone -/
def KontW (K : PySem.W.Frag) (H : Hp) (vs : List Nat) (σ0 : St) (R : TSt → GH → Prop) (Q : St → Hp → Prop) : Prop := ∀ st σ G' H', RS K H' st σ → RG K H' G' → Stay K H H' → wipe σ vs = wipe σ0 vs → R st G' → Q σ H'
theorem KontW.stay {K H H' vs σ0 R Q} (S : Stay K H H') (k : KontW K H vs σ0 R Q) : KontW K H' vs σ0 R Q := fun t v G1 H1 a b c d f => k t v G1 H1 a b (S.trans c) d f
def LGw (K : PySem.W.Frag) (vs : List Nat) (τ : TTG) : TG := fun v σ H Q => ∃ t st G R, Rep K H t v ∧ RS K H st σ ∧ RG K H G ∧ τ t st G R ∧ KontW K H vs σ R Q
def LGws (K : PySem.W.Frag) (vs : List Nat) (τ : TTGs) : TGs := fun v σ H Q => ∃ t st G R, Reps K H t v ∧ RS K H st σ ∧ RG K H G ∧ τ t st G R ∧ KontW K H vs σ R Q
variable {vs : List Nat} {es : List Expr} {gs : TTGs}
theorem gw_name {i : Nat} {x : Str} (h : PG X (.Name x pos) (gName i)) (hi : i ∈ vs) : PG X (.Name x pos) (LGw X.K vs (gname i)) := h.imp fun v σ H Q => by
  rintro ⟨t, st, G, R, r, rs, rg, q, k⟩
  exact k _ _ G H (rs.set r) rg .refl (wipe_set_in hi) q
theorem gws_nil : PGs X [] (LGws X.K vs gnil) := pgs_nil.imp fun v σ H Q => by
  rintro ⟨t, st, G, R, r, rs, rg, ⟨e, q⟩, k⟩
  subst e
  exact ⟨r.of_nil, k _ _ G H rs rg .refl rfl q⟩
theorem gws_cons (h1 : PG X e (LGw X.K vs g)) (h2 : PGs X es (LGws X.K vs gs)) (hs : (assignEach (e :: es) X.env).map (·.2) = assign e X.env :: (assignEach es X.env).map (·.2) := by rfl) : PGs X (e :: es) (LGws X.K vs (gcons g gs)) := (pgs_cons h1 h2 hs).imp fun v σ H Q => by
  rintro ⟨t, st, G, R, r, rs, rg, ⟨x, xr, e, q⟩, k⟩
  subst e
  obtain ⟨v1, vr, rfl, r1, r2⟩ := r.of_cons
  exact ⟨v1, vr, rfl, x, st, G, _, r1, rs, rg, q, fun st' σ' G' H' rs' rg' s' w' q' => ⟨xr, st', G', R, r2.stay s', rs', rg', q', fun st2 σ2 G2 H2 a b c d f => k st2 σ2 G2 H2 a b (s'.trans c) (d.trans w') f⟩⟩
theorem gw_tup {k : Nat} {n : Nat} (hc : X.calm = true) (h : PGs X es (LGws X.K vs gs)) (hn : (assignEach es X.env).length = n := by rfl) (hst : (assignEach es X.env).findIdx? (·.1) = none := by rfl) : PG X (.Tuple es k pos) (LGw X.K vs (gtup n gs)) := (pg_tup hc h hn hst).imp fun v σ H Q => by
  rintro ⟨t, st, G, R, r, rs, rg, ⟨xs, e, l, q⟩, k⟩
  subst e
  simp only [Rep] at r
  obtain ⟨a, vs', rfl, hs, r⟩ := r
  exact ⟨a, vs', rfl, hs, by rw [r.length]; exact l, xs, st, G, R, r, rs, rg, q, k⟩

def WkG (P : GH → Prop) : GH → Prop := fun G => ∃ G0, Sub G0 G ∧ P G0
theorem WkG.of {P : GH → Prop} {G} (h : P G) : WkG P G := ⟨G, .refl, h⟩
def lcGo (keep : GH → Prop) (g : TTG) (tt : TTT) (te : TTE) (vs : List Nat) (D : Addr) (R : TK) (st : TSt) : List T → GH → Prop
  | [], G => keep G ∧ R (.ref D) G
  | x :: xs, G => keep G ∧ g x (twipe st vs) G fun st2 G2 => tt st2 G2 fun b G3 =>
    if b = true then te st2 G3 fun y G4 => ∃ acc, G4 D = some (.lst acc) ∧ acc.length < sizeLine ∧ WkG (lcGo keep g tt te vs D R st xs) (gupd G4 D (.lst (acc ++ [y]))) else WkG (lcGo keep g tt te vs D R st xs) G3
def tlc (wi : TTI) (g : TTG) (tt : TTT) (te : TTE) (vs : List Nat) : TTE := fun st G R => wi st G fun items keep G1 => ∀ D, G1 D = none → lcGo keep g tt te vs D R st items (gupd G1 D (.lst []))
theorem lcGo_keep {keep g tt te vs D R st xs G} (h : lcGo keep g tt te vs D R st xs G) : keep G := by cases xs <;> exact h.1
variable {tt : TTT}
theorem LE_lc {K σ H Q} (h : LE K (tlc wi g tt te vs) σ H Q) : tLc (LI K wi) (LGw K vs g) (LT K tt) (LE K te) vs σ H Q := by
  obtain ⟨st, G0, R, rs0, rg0, q, k⟩ := h
  refine ⟨st, G0, _, rs0, rg0, q, fun items keep J G1 H1 fit rg1 s1 q1 => fun D hD => ?_⟩
  have q2 := q1 D (rg1.free hD)
  have s2 : Stay K H1 (upd H1 D (.lst [])) := stay_upd (wr_none hD)
  refine ⟨fun i m H' => m = items.length - i ∧ i ≤ items.length ∧ ∃ G, RG K H' G ∧ Stay K H1 H' ∧ lcGo keep g tt te vs D R st (items.drop i) G, ⟨items.length, by simp, Nat.zero_le _, _, rg1.newL hD .nil, s2, q2⟩, ?_⟩
  rintro i m H2 ⟨rfl, hi, G, rg, s, q⟩
  have kp := lcGo_keep q
  by_cases hlt : i < items.length
  · rw [List.drop_eq_getElem_cons hlt] at q
    obtain ⟨_, q⟩ := q
    obtain ⟨go, yl⟩ := fit.go H2 G i items[i] s rg kp (by simp [hlt])
    refine .inr ⟨go, fun H' => ∃ G, RG K H' G ∧ Stay K H1 H' ∧ lcGo keep g tt te vs D R st (items.drop (i + 1)) G, fun H' p' => ⟨items.length - (i + 1), by omega, rfl, hlt, p'⟩, fun x H' y => ?_⟩
    obtain ⟨r', rg', s'⟩ := yl x H' y
    have rsw : RS K H' (twipe st vs) (wipe σ vs) := ((rs0.stay (s1.trans (s.trans s'))).wipe vs)
    refine ⟨items[i], twipe st vs, G, _, r', rsw, rg', q, fun st3 σ3 G3 H3 rs3 rg3 s3 w3 q3 => ?_⟩
    refine ⟨by rw [w3, wipe_wipe], st3, G3, _, rs3, rg3, q3, fun b G4 H4 rg4 s4 q4 => ?_⟩
    have again : ∀ G' H', RG K H' G' → Stay K H4 H' → WkG (lcGo keep g tt te vs D R st (items.drop (i + 1))) G' → ∃ G, RG K H' G ∧ Stay K H1 H' ∧ lcGo keep g tt te vs D R st (items.drop (i + 1)) G := by
      rintro G' H' rg' s5 ⟨G2, sb, w2⟩
      exact ⟨G2, rg'.sub sb, s.trans (s'.trans (s3.trans (s4.trans s5))), w2⟩
    cases b with
    | false => exact again G4 H4 rg4 .refl q4
    | true =>
      refine ⟨st3, G4, _, rs3.stay s4, rg4, q4, fun y vy G5 H5 ry rg5 s5 ⟨acc, ea, la, w5⟩ => ?_⟩
      obtain ⟨va, h5, ra⟩ := rg5.lst ea
      refine ⟨va, h5, by rw [ra.length]; exact la, ?_⟩
      exact again _ _ (rg5.setL h5 (ra.append (.one ry))) (s5.trans (stay_upd (wr_lst h5))) w5
  · have ei : i = items.length := by omega
    subst ei
    rw [List.drop_length] at q
    exact .inl ⟨fit.stop H2 G _ s rg kp rfl, k (.ref D) (.ref D) G H2 rfl rg (s1.trans s) q.2⟩
def LTs (K : PySem.W.Frag) (τ : TTT) : TT := LT K τ
def tyes : TTT := fun _ G R => R true G
theorem ts_nil : PTs X [] (LT X.K tyes) := ⟨fun pins s σ H Q I h => pts_nil.run pins s σ H Q I (by
  obtain ⟨st, G, R, rs, rg, q, k⟩ := h
  exact k true G H rg .refl q)⟩
theorem ts_one {c : Expr} {t : TTT} (h : PT X c (LT X.K t)) : PTs X [c] (LT X.K t) := pts_one h
theorem w_lc {elt tg iter : Expr} {ifs : List Expr} {scope : Scope} {own : List (Str × Nat)} {pos : Pos} (hc : X.calm = true) (hN : X.N.Nodup) (hi : PI X tg iter (LI X.K wi)) (ok : BlkOk X.N X.env.scope scope own)
    (hg : ∀ (s : Shared) (H : Hp) (C : Addr) (cl : List (Str × Addr)) (fp : List Addr), PG (X.blk s H scope (compEnvC scope cl C X.env) fp) tg (LGw X.K (own.map (·.2)) g))
    (ht : ∀ (s : Shared) (H : Hp) (C : Addr) (cl : List (Str × Addr)) (fp : List Addr), PTs (X.blk s H scope (compEnvC scope cl C X.env) fp) ifs (LT X.K tt))
    (he : ∀ (s : Shared) (H : Hp) (C : Addr) (cl : List (Str × Addr)) (fp : List Addr), PE (X.blk s H scope (compEnvC scope cl C X.env) fp) elt (LE X.K te)) (hs : ∀ x, foldedSetIterable iter X.env x = pure x := by intro _; rfl) :
    PE X (.ListComp elt [⟨tg, iter, ifs, 0⟩] scope pos) (LE X.K (tlc wi g tt te (own.map (·.2)))) := (pe_lc hc hN hi ok hg ht he hs).imp fun _ _ _ => LE_lc
theorem s_setLc {i : Nat} {y : Str} {py : Pos} {elt tg iter : Expr} {ifs : List Expr} {scope : Scope} {own : List (Str × Nat)} {pos spos : Pos} (hc : X.calm = true) (hN : X.N.Nodup) (hy : X.N[i]? = some y) (hyl : X.env.scope.names.lookup y = some .local)
    (hsw : swapsWith (.ListComp elt [⟨tg, iter, ifs, 0⟩] scope pos) (some (.Name y py)) spos.line X.env = pure true) (hi : PI X tg iter (LI X.K wi)) (ok : BlkOk X.N X.env.scope scope own)
    (hg : ∀ (s : Shared) (H : Hp) (C : Addr) (cl : List (Str × Addr)) (fp : List Addr), PG (X.blk s H scope (compEnvC scope cl C X.env) fp) tg (LGw X.K (own.map (·.2)) g))
    (ht : ∀ (s : Shared) (H : Hp) (C : Addr) (cl : List (Str × Addr)) (fp : List Addr), PTs (X.blk s H scope (compEnvC scope cl C X.env) fp) ifs (LT X.K tt))
    (he : ∀ (s : Shared) (H : Hp) (C : Addr) (cl : List (Str × Addr)) (fp : List Addr), PE (X.blk s H scope (compEnvC scope cl C X.env) fp) elt (LE X.K te)) (hs : ∀ x, foldedSetIterable iter X.env x = pure x := by intro _; rfl) :
    PS X (.Assign [.Name y py] (.ListComp elt [⟨tg, iter, ifs, 0⟩] scope pos) spos) (LS X.K (tasg (tlc wi g tt te (own.map (·.2))) (gname i))) := (ps_setLc hc hN hy hyl hsw hi ok hg ht he hs).imp fun D σ H => by
  rintro ⟨st, G, R, rs, rg, q, k⟩
  refine LE_lc ⟨st, G, _, rs, rg, q, fun x vx G1 H1 rx rg1 s1 q1 => ?_⟩
  exact k.nx _ _ G1 H1 ((rs.stay s1).set rx) rg1 s1 q1

theorem s_set {i : Nat} {x : Str} {e : Expr} {te : TTE} {pos' : Pos} (hN : X.N.Nodup) (hi : X.N[i]? = some x) (hx : Loc X.env.scope x) (he : PE X e (LE X.K te)) (hs : swapsWith e (some (.Name x pos')) pos.line X.env = pure false := by rfl) (hf : X.fn x = true ∨ X.env.scope.names.lookup x = some .local := by first | exact .inl rfl | exact .inr rfl | assumption) :
    PS X (.Assign [.Name x pos'] e pos) (LS X.K (tasg te (gname i))) := (ps_set hN hi hx he hs hf).imp fun D σ H => by
  rintro ⟨st, G, R, rs, rg, q, k⟩
  refine ⟨st, G, _, rs, rg, q, fun x vx G1 H1 rx rg1 s1 q1 => ?_⟩
  exact k.nx _ _ G1 H1 ((rs.stay s1).set rx) rg1 s1 q1
def taug (i : Nat) (te : TTE) (r : TR2) : TTS := fun D st G => ∃ x, st[i]? = some (some x) ∧ te st G fun y G1 => r x y G1 fun z G2 => D.nx (st.set i (some z)) G2
theorem s_aug {i : Nat} {x : Str} {e : Expr} {te : TTE} {op : Operator} {ti : TIp} {r : TR2} {pos' : Pos} (hN : X.N.Nodup) (hi : X.N[i]? = some x) (hx : Loc X.env.scope x) (he : PE X e (LE X.K te)) (ho : PIp X op ti) (u : Up2 X.K r ti) (hf : X.fn x = true ∨ X.env.scope.names.lookup x = some .local := by first | exact .inl rfl | exact .inr rfl | assumption) :
    PS X (.AugAssign (.Name x pos') op e pos) (LS X.K (taug i te r)) := (ps_aug hN hi hx he ho hf).imp fun D σ H => by
  rintro ⟨st, G, R, rs, rg, ⟨x, e1, q⟩, k⟩
  obtain ⟨v, e2, rv⟩ := rs.2 i x e1
  refine ⟨v, e2, st, G, _, rs, rg, q, fun y vy G1 H1 ry rg1 s1 q1 => ?_⟩
  refine u x y v vy G1 H1 _ _ (rv.stay s1) ry rg1 q1 fun z vz G2 H2 rz rg2 s2 q2 => ?_
  exact k.nx _ _ G2 H2 ((rs.stay (s1.trans s2)).set rz) rg2 (s1.trans s2) q2

abbrev TSp := List T → GH → TK → Prop
def LSp (K : PySem.W.Frag) (sp : TSp) : Sp := fun vs H Q _ => ∃ ts G R, Reps K H ts vs ∧ RG K H G ∧ sp ts G R ∧ Kont K H R Q
def tcall (sp : TSp) (t : TTA) : TTE := fun st G R => t st G fun xs G1 => sp xs G1 R
theorem LE_call {K sp t σ H Q E} (h : LE K (tcall sp t) σ H Q) : tCall (LSp K sp) [] E (LA K t) σ H Q := by
  obtain ⟨st, G, R, rs, rg, q, k⟩ := h
  refine ⟨st, G, _, rs, rg, q, fun xs vs G1 H1 rx rg1 s1 q1 => ?_⟩
  show LSp K sp (vs ++ []) H1 Q E
  rw [List.append_nil]
  exact ⟨xs, G1, R, rx, rg1, q1, k.stay s1⟩
theorem LE_call_nil {K sp σ H Q E} (h : LE K (tcall sp tanil) σ H Q) : tCall (LSp K sp) [] E tNil σ H Q := by
  obtain ⟨st, G, R, rs, rg, q, k⟩ := h
  exact ⟨[], G, R, .nil, rg, q, k⟩
theorem w_call {CX : CXT} {k : Nat} {f : Addr} {fd : FuncData} {ps : List Str} {sp : TSp} {E : XK} {x : Str} {p pos : Pos} {e : Expr} {es : List Expr} {t : TTA} (F : FnOk X.prog X.w X.K X.mg X.base CX k f fd ps (LSp X.K sp)) (hr : Room k X.A) (hg : Gl X x) (hm : X.mg x = some (.ref f)) (hk : PySem.W.keepIn X.K (.ref f) = true) (hb : Binds X.K fd ps [])
    (hx : Passes CX X E) (ha : PA X (e :: es) (LA X.K t)) (hd : (x == ("__debug__" : Str)) = false := by decide)
    (hs : starEach (e :: es) X.env = (false, eval e X.env) :: starEach es X.env := by rfl) (hpl : (backTo pos (starEach es X.env)).any (·.1) = false := by rfl) : PE X (.Call (.Name x p) (e :: es) [] pos) (LE X.K (tcall sp t)) :=
  (pe_call F hr hg hm hk hb .nil hx ha hd hs hpl).imp fun _ _ _ => LE_call
theorem w_call0 {CX : CXT} {k : Nat} {f : Addr} {fd : FuncData} {ps : List Str} {sp : TSp} {E : XK} {x : Str} {p pos : Pos} (F : FnOk X.prog X.w X.K X.mg X.base CX k f fd ps (LSp X.K sp)) (hr : Room k X.A) (hg : Gl X x) (hm : X.mg x = some (.ref f)) (hk : PySem.W.keepIn X.K (.ref f) = true) (hb : Binds X.K fd ps [])
    (hx : Passes CX X E) (hd : (x == ("__debug__" : Str)) = false := by decide) : PE X (.Call (.Name x p) [] [] pos) (LE X.K (tcall sp tanil)) :=
  (pe_call0 F hr hg hm hk hb .nil hx hd).imp fun σ H Q h => LE_call_nil h
end
def WkR (R : TK) : TK := fun v G => ∃ G0, Sub G0 G ∧ R v G0
theorem WkR.of {R : TK} {v G} (h : R v G) : WkR R v G := ⟨G, .refl, h⟩
def startT (N : List Str) (ts : List T) : TSt := ts.map some ++ List.replicate (N.length - ts.length) none
theorem rs_start {K H N ts vs} (r : Reps K H ts vs) : RS K H (startT N ts) (L2.start N vs) := by
  refine ⟨by simp [startT, L2.start, r.length], fun i t e => ?_⟩
  unfold startT at e
  have hi : i < ts.length := by
    rcases Nat.lt_or_ge i ts.length with h | h
    · exact h
    · rw [List.getElem?_append_right (by simpa using h), List.getElem?_replicate] at e
      split at e <;> cases e
  rw [List.getElem?_append_left (by simpa using hi), List.getElem?_map] at e
  cases e2 : ts[i]? with
  | none => rw [e2] at e; cases e
  | some a =>
    rw [e2] at e
    cases e
    obtain ⟨v, e3, q⟩ := r.get e2
    refine ⟨v, ?_, q⟩
    unfold L2.start
    have hv : i < vs.length := by rw [r.length]; exact hi
    rw [List.getElem?_append_left (by simpa using hv), List.getElem?_map, e3]
    rfl
theorem fn_ok {P : Program} {w : World} {K : PySem.W.Frag} {mg : Str → Option Value} {base : Heap} {x qual : Str} {st : Stmt} {f : Addr} {fd : FuncData} {N ps : List Str} {k : Nat} {sp : TSp} (F : Fun K x qual st f fd) (S : FnScope N ps (defScope st)) (len : ∀ ts G R, sp ts G R → ts.length = ps.length)
    (hbody : ∀ (cdv : Value) (A : Around) (outer : List Env) (s : Shared) (H : Hp) (E : XK), Room k (A.deeper (envOfC qual (defScope st) s.heap.objs.size f cdv)) →
      ∃ τ, PSs (cxOf CX0 P w K mg base N qual (defScope st) f cdv A outer s H E).nox (defBody st) (LS K τ) ∧ ∀ ts G R, sp ts G R → τ { nx := fun _ G' => WkR R .non G', rt := WkR R } (startT N ts) G) : FnOk P w K mg base CX0 (k + 1) f fd ps (LSp K sp) := by
  refine F.ok S (fun vs H Q E h => ?_) fun cdv A outer s H vs Q E hr h => ?_
  · obtain ⟨ts, G, R, r, rg, q, k⟩ := h
    rw [r.length]
    exact len _ _ _ q
  · obtain ⟨τ, hp, hq⟩ := hbody cdv A outer s H E hr
    obtain ⟨ts, G, R, r, rg, q, k⟩ := h
    refine ⟨_, hp, startT N ts, G, _, rs_start r, rg, hq ts G R q, ⟨?_, ?_, ?_, ?_⟩⟩
    · rintro st σ G' H' rs rg' s' ⟨G0, sb, q'⟩
      exact k .non .non G0 H' rfl (rg'.sub sb) s' q'
    · rintro t v G' H' rv rg' s' ⟨G0, sb, q'⟩
      exact k t v G0 H' rv (rg'.sub sb) s' q'
    · exact fun _ _ _ _ _ _ _ h => h.elim
    · exact fun _ _ _ _ _ _ _ h => h.elim
end TL

namespace TL
open PySem PySem.Spec PyProof.Rows L2

def vadd : TR2 := fun x y G R => match x, y with
  | .int i, .int j => R (.int (i + j)) G
  | .str a, .str b => a.length + b.length ≤ sizeLine ∧ R (.str (a ++ b)) G
  | .tup a, .tup b => a.length + b.length ≤ sizeLine ∧ R (.tup (a ++ b)) G
  | .ref p, .ref q => ∃ xs ys, G p = some (.lst xs) ∧ G q = some (.lst ys) ∧ xs.length + ys.length ≤ sizeLine ∧ ∀ l, G l = none → R (.ref l) (gupd G l (.lst (xs ++ ys)))
  | _, _ => False
def vI (C : Int → Int → Prop) (f : Int → Int → Int) : TR2 := fun x y G R => match x, y with
  | .int i, .int j => C i j ∧ R (.int (f i j)) G
  | _, _ => False
def vsub : TR2 := fun x y G R => match x, y with
  | .int i, .int j => R (.int (i - j)) G
  | _, _ => False
def vcmp (p : Int → Int → Bool) : TR2 := fun x y G R => match x, y with
  | .int i, .int j => R (.bl (p i j)) G
  | _, _ => False
section
variable {X : Cx} {K : PySem.W.Frag}
theorem up_add : Up2 X.K vadd (fun x y H Q => (rI0 fun i j => .int (i + j)) x y H Q ∨ (∃ i j, x = V.str i ∧ y = V.str j ∧ i.length + j.length ≤ sizeLine ∧ Q (V.str (i ++ j)) H) ∨ rCatA X.K x y H Q ∨ rCat x y H Q) := by
  intro x y vx vy G H R Q rx ry rg h k
  unfold vadd at h
  split at h
  · cases rx; cases ry
    exact .inl ⟨_, _, rfl, rfl, k (.int _) _ G H rfl rg .refl h⟩
  · cases rx; cases ry
    exact .inr (.inl ⟨_, _, rfl, rfl, h.1, k (.str _) _ G H rfl rg .refl h.2⟩)
  · simp only [Rep] at rx ry
    obtain ⟨a, va, rfl, ha, ra⟩ := rx
    obtain ⟨b, vb, rfl, hb, rb⟩ := ry
    obtain ⟨hz, h⟩ := h
    refine .inr (.inr (.inl ⟨a, b, va, vb, rfl, rfl, ha, hb, by rw [ra.length, rb.length]; exact hz, fun e => ?_, fun e1 e2 => ?_, fun e1 e2 p hp => ?_⟩))
    · subst e
      refine k _ _ G H ?_ rg .refl h
      simp only [Rep]
      refine ⟨b, vb, rfl, hb, ?_⟩
      have := ra.append rb
      simpa using this
    · subst e2
      refine k _ _ G H ?_ rg .refl h
      simp only [Rep]
      refine ⟨a, va, rfl, ha, ?_⟩
      have := ra.append rb
      simpa using this
    · exact k _ _ G _ (rep_tup hp (ra.append rb)) (rg.new hp) (stay_upd (wr_none hp)) h
  · cases rx; cases ry
    obtain ⟨xs, ys, e1, e2, hz, h⟩ := h
    obtain ⟨va, h1, r1⟩ := rg.lst e1
    obtain ⟨vb, h2, r2⟩ := rg.lst e2
    refine .inr (.inr (.inr ⟨_, _, va, vb, rfl, rfl, h1, h2, by rw [r1.length, r2.length]; exact hz, fun p hp => ?_⟩))
    exact k (.ref p) _ _ _ rfl (rg.newL hp (r1.append r2)) (stay_upd (wr_none hp)) (h p (rg.free hp))
  · exact h.elim
theorem o_add : OpR X (binaryOp .Add) (fun x y H Q => (rI0 fun i j => .int (i + j)) x y H Q ∨ (∃ i j, x = V.str i ∧ y = V.str j ∧ i.length + j.length ≤ sizeLine ∧ Q (V.str (i ++ j)) H) ∨ rCatA X.K x y H Q ∨ rCat x y H Q) := op_add.or (op_add_str.or (op_catA.or op_cat))
theorem up_I {C f} : Up2 K (vI C f) (rI C fun i j => .int (f i j)) := by
  intro x y vx vy G H R Q rx ry rg h k
  unfold vI at h
  split at h
  · cases rx; cases ry
    exact ⟨_, _, rfl, rfl, h.1, k (.int _) _ G H rfl rg .refl h.2⟩
  · exact h.elim
theorem up_sub : Up2 K vsub (rI0 fun i j => .int (i - j)) := by
  intro x y vx vy G H R Q rx ry rg h k
  unfold vsub at h
  split at h
  · cases rx; cases ry
    exact ⟨_, _, rfl, rfl, k (.int _) _ G H rfl rg .refl h⟩
  · exact h.elim
theorem up_cmp {p : Int → Int → Bool} : Up2 K (vcmp p) (rI0 fun i j => .bl (p i j)) := by
  intro x y vx vy G H R Q rx ry rg h k
  unfold vcmp at h
  split at h
  · cases rx; cases ry
    exact ⟨_, _, rfl, rfl, k (.bl _) _ G H rfl rg .refl h⟩
  · exact h.elim
variable {a b : Expr} {ta tb : TTE} {pos : Pos}
theorem w_add (ha : PE X a (LE X.K ta)) (hb : PE X b (LE X.K tb)) : PE X (.BinOp a .Add b pos) (LE X.K (top vadd ta tb)) := w_op o_add up_add ha hb
theorem w_sub (ha : PE X a (LE X.K ta)) (hb : PE X b (LE X.K tb)) : PE X (.BinOp a .Sub b pos) (LE X.K (top vsub ta tb)) := w_op op_sub up_sub ha hb
theorem w_mul (ha : PE X a (LE X.K ta)) (hb : PE X b (LE X.K tb)) : PE X (.BinOp a .Mult b pos) (LE X.K (top (vI CMul (· * ·)) ta tb)) := w_op op_mul up_I ha hb
theorem w_fdiv (ha : PE X a (LE X.K ta)) (hb : PE X b (LE X.K tb)) : PE X (.BinOp a .FloorDiv b pos) (LE X.K (top (vI CDiv (· / ·)) ta tb)) := w_op op_fdiv up_I ha hb
theorem w_mod (ha : PE X a (LE X.K ta)) (hb : PE X b (LE X.K tb)) : PE X (.BinOp a .Mod b pos) (LE X.K (top (vI (fun _ j => 0 < j) (· % ·)) ta tb)) := w_op op_mod up_I ha hb
theorem w_pow (ha : PE X a (LE X.K ta)) (hb : PE X b (LE X.K tb)) : PE X (.BinOp a .Pow b pos) (LE X.K (top (vI CPow fun i j => i ^ j.toNat) ta tb)) := w_op op_pow up_I ha hb
theorem w_lt (ha : PE X a (LE X.K ta)) (hb : PE X b (LE X.K tb)) : PE X (.Compare a [.Lt] [b] pos) (LE X.K (top (vcmp fun i j => decide (i < j)) ta tb)) := w_cmp op_lt up_cmp ha hb (nomark _)
theorem w_le (ha : PE X a (LE X.K ta)) (hb : PE X b (LE X.K tb)) : PE X (.Compare a [.LtE] [b] pos) (LE X.K (top (vcmp fun i j => decide (i ≤ j)) ta tb)) := w_cmp op_le up_cmp ha hb (nomark _)
theorem w_gt (ha : PE X a (LE X.K ta)) (hb : PE X b (LE X.K tb)) : PE X (.Compare a [.Gt] [b] pos) (LE X.K (top (vcmp fun i j => decide (j < i)) ta tb)) := w_cmp op_gt up_cmp ha hb (nomark _)
theorem w_ge (ha : PE X a (LE X.K ta)) (hb : PE X b (LE X.K tb)) : PE X (.Compare a [.GtE] [b] pos) (LE X.K (top (vcmp fun i j => decide (j ≤ i)) ta tb)) := w_cmp op_ge up_cmp ha hb (nomark _)
def vneg : TR1 := fun x G R => match x with
  | .int i => R (.int (-i)) G
  | _ => False
def tun (r : TR1) (ta : TTE) : TTE := fun st G R => ta st G fun x G1 => r x G1 R
theorem w_neg (ha : PE X a (LE X.K ta)) : PE X (.UnaryOp .USub a pos) (LE X.K (tun vneg ta)) := (pe_un un_neg ha).imp fun σ H Q => by
  rintro ⟨st, G, R, rs, rg, q, k⟩
  refine ⟨st, G, _, rs, rg, q, fun x vx G1 H1 rx rg1 s1 q1 => ?_⟩
  unfold vneg at q1
  split at q1
  · cases rx
    exact ⟨_, rfl, k (.int _) _ G1 H1 rfl rg1 s1 q1⟩
  · exact q1.elim

/-- flat things of which neither can be a truth where the other is a number -/
def scalT : T → T → Option Bool
  | .non, .non => some true
  | .non, .int _ => some false
  | .int _, .non => some false
  | .non, .bl _ => some false
  | .bl _, .non => some false
  | .non, .str _ => some false
  | .str _, .non => some false
  | .int i, .int j => some (decide (i = j))
  | .bl i, .bl j => some (decide (i = j))
  | .str i, .str j => some (decide (i = j))
  | .int _, .str _ => some false
  | .str _, .int _ => some false
  | .bl _, .str _ => some false
  | .str _, .bl _ => some false
  | _, _ => none
theorem scal_up {H x y vx vy b} (rx : Rep K H x vx) (ry : Rep K H y vy) (h : scalT x y = some b) : scal vx vy = true ∧ decide (vx = vy) = b := by
  unfold scalT at h
  split at h <;> first | (cases rx; cases ry; cases h; refine ⟨rfl, ?_⟩; first | exact decide_eq_true rfl | exact decide_eq_false (fun z => nomatch z) | (apply decide_eq_decide.mpr; constructor <;> intro z <;> first | (cases z; rfl) | rw [z])) | cases h
/-- what a tree says as data -/
inductive Dat (G : GH) : T → PyData → Prop
  | non : Dat G .non .none
  | bl (b : Bool) : Dat G (.bl b) (.bool b)
  | int (i : Int) : Dat G (.int i) (.int i)
  | str (x : Str) : Dat G (.str x) (.str x)
  | tup {xs : List T} {ds : List PyData} : xs.length = ds.length → (∀ (i : Nat) t d, xs[i]? = some t → ds[i]? = some d → Dat G t d) → Dat G (.tup xs) (.tuple ds)
  | fl {xs : List T} {ds : List PyData} : xs.length = ds.length → (∀ (i : Nat) t d, xs[i]? = some t → ds[i]? = some d → Dat G t d) → Dat G (.fl xs) (.list ds)
  | lst {p : Addr} {xs : List T} {ds : List PyData} : G p = some (.lst xs) → xs.length = ds.length → (∀ (i : Nat) t d, xs[i]? = some t → ds[i]? = some d → Dat G t d) → Dat G (.ref p) (.list ds)
theorem dpAll_of {H : Hp} : ∀ {vs : List V} {ds : List PyData}, vs.length = ds.length → (∀ (i : Nat) v d, vs[i]? = some v → ds[i]? = some d → Dp K H v d) → DpAll K H vs ds
  | [], [], _, _ => .nil
  | v :: vs, d :: ds, hl, h => .cons (h 0 v d rfl rfl) (dpAll_of (by simpa using hl) fun i v d e1 e2 => h (i + 1) v d (by simpa using e1) (by simpa using e2))
theorem Reps.getV {H ts} {vs : List V} {i : Nat} {v : V} (h : Reps K H ts vs) (e : vs[i]? = some v) : ∃ t, ts[i]? = some t ∧ Rep K H t v := by
  have hl : i < vs.length := by
    rcases Nat.lt_or_ge i vs.length with h' | h'
    · exact h'
    · rw [List.getElem?_eq_none h'] at e; cases e
  have hl2 : i < ts.length := by rw [← h.length]; exact hl
  obtain ⟨v', e', r⟩ := h.get (i := i) (t := ts[i]) (by simp [hl2])
  rw [e] at e'
  cases e'
  exact ⟨_, by simp [hl2], r⟩
theorem Dat.up {H G} (rg : RG K H G) {t d} (h : Dat G t d) : ∀ {v}, Rep K H t v → Dp K H v d := by
  induction h with
  | non => intro v r; cases r; exact .non
  | bl b => intro v r; cases r; exact .bl b
  | int i => intro v r; cases r; exact .int i
  | str x => intro v r; cases r; exact .str x
  | tup hl _ ih =>
    intro v r
    simp only [Rep] at r
    obtain ⟨a, vs, rfl, hs, r⟩ := r
    refine .tup hs (dpAll_of (r.length.trans hl) fun i v d e1 e2 => ?_)
    obtain ⟨t, e3, r3⟩ := r.getV e1
    exact ih i t d e3 e2 r3
  | fl hl _ ih =>
    intro v r
    simp only [Rep] at r
    obtain ⟨a, vs, rfl, hs, r⟩ := r
    refine .lst hs.seq (dpAll_of (r.length.trans hl) fun i v d e1 e2 => ?_)
    obtain ⟨t, e3, r3⟩ := r.getV e1
    exact ih i t d e3 e2 r3
  | lst e hl _ ih =>
    intro v r
    cases r
    obtain ⟨vs, hs, r⟩ := rg.lst e
    refine .lst (.of hs) (dpAll_of (r.length.trans hl) fun i v d e1 e2 => ?_)
    obtain ⟨t, e3, r3⟩ := r.getV e1
    exact ih i t d e3 e2 r3
def veq : TR2 := fun x y G R => match scalT x y with
  | some b => R (.bl b) G
  | none => ∃ d e, Dat G x d ∧ Dat G y e ∧ SeqAt.shaped d = true ∧ SeqAt.shaped e = true ∧ R (.bl (PyData.eqv d e)) G
def vne : TR2 := fun x y G R => match scalT x y with
  | some b => R (.bl (!b)) G
  | none => ∃ d e, Dat G x d ∧ Dat G y e ∧ SeqAt.shaped d = true ∧ SeqAt.shaped e = true ∧ R (.bl (!PyData.eqv d e)) G
theorem up_eq : Up2 K veq (fun x y H Q => rEq x y H Q ∨ rEqD K x y H Q) := by
  intro x y vx vy G H R Q rx ry rg h k
  unfold veq at h
  split at h
  · rename_i b e
    obtain ⟨h1, h2⟩ := scal_up rx ry e
    exact .inl ⟨h1, k (.bl b) _ G H (by rw [h2]; rfl) rg .refl h⟩
  · obtain ⟨d, e, hd, he, s1, s2, q⟩ := h
    exact .inr ⟨d, e, hd.up rg rx, he.up rg ry, s1, s2, k (.bl _) _ G H rfl rg .refl q⟩
theorem up_ne : Up2 K vne (fun x y H Q => rNe x y H Q ∨ rNeD K x y H Q) := by
  intro x y vx vy G H R Q rx ry rg h k
  unfold vne at h
  split at h
  · rename_i b e
    obtain ⟨h1, h2⟩ := scal_up rx ry e
    exact .inl ⟨h1, k (.bl (!b)) _ G H (by rw [h2]; rfl) rg .refl h⟩
  · obtain ⟨d, e, hd, he, s1, s2, q⟩ := h
    exact .inr ⟨d, e, hd.up rg rx, he.up rg ry, s1, s2, k (.bl _) _ G H rfl rg .refl q⟩
theorem w_eq {n : Nat} (hr : Room n X.A) (ha : PE X a (LE X.K ta)) (hb : PE X b (LE X.K tb)) : PE X (.Compare a [.Eq] [b] pos) (LE X.K (top veq ta tb)) := w_cmp (op_eq.or (op_eqD hr.units)) up_eq ha hb (nomark _)
theorem w_ne {n : Nat} (hr : Room n X.A) (ha : PE X a (LE X.K ta)) (hb : PE X b (LE X.K tb)) : PE X (.Compare a [.NotEq] [b] pos) (LE X.K (top vne ta tb)) := w_cmp (op_ne.or (op_neD hr.units)) up_ne ha hb (nomark _)

def keyT : T → Option Key
  | .int i => some (.inl i)
  | .str x => some (.inr x)
  | _ => none
def lookT {κ : Type} [DecidableEq κ] (kvs : List (κ × T)) (k : κ) : Option T := (kvs.find? fun kv => decide (kv.1 = k)).map (·.2)
def putT {κ : Type} [DecidableEq κ] (kvs : List (κ × T)) (k : κ) (t : T) : List (κ × T) :=
  if (kvs.any fun kv => decide (kv.1 = k)) = true then kvs.map (fun kv => if kv.1 = k then (kv.1, t) else kv) else kvs ++ [(k, t)]
theorem keyT_up {H x v k} (r : Rep K H x v) (e : keyT x = some k) : v = kV k := by
  cases x with
  | int i => cases e; cases r; rfl
  | str i => cases e; cases r; rfl
  | _ => cases e
theorem look_up {κ : Type} [DecidableEq κ] {H} {k : κ} : ∀ {kvs : List (κ × T)} {ws : List (κ × V)}, KVR K H kvs ws → (∀ t, lookT kvs k = some t → ∃ v, valV ws k = some v ∧ Rep K H t v) ∧ (lookT kvs k = none → valV ws k = none)
  | _, _, .nil => ⟨fun t e => (nomatch (show (none : Option T) = some t from e)), fun _ => rfl⟩
  | _, _, .cons (a := a) (b := b) q rest => by
    obtain ⟨e1, r1⟩ := q
    have ih := look_up (k := k) rest
    unfold lookT valV at *
    simp only [List.find?_cons]
    rw [← e1]
    by_cases h : a.1 = k
    · rw [decide_eq_true h]
      exact ⟨fun t e => ⟨b.2, rfl, by cases e; exact r1⟩, fun e => by cases e⟩
    · rw [decide_eq_false h]
      exact ih
theorem any_up {κ : Type} [DecidableEq κ] {H} {k : κ} : ∀ {kvs : List (κ × T)} {ws : List (κ × V)}, KVR K H kvs ws → (kvs.any fun kv => decide (kv.1 = k)) = (ws.any fun kv => decide (kv.1 = k))
  | _, _, .nil => rfl
  | _, _, .cons q rest => by simp only [List.any_cons, q.1, any_up rest]
theorem put_upA {κ : Type} [DecidableEq κ] {H} {k : κ} {t v} (rv : Rep K H t v) : ∀ {kvs : List (κ × T)} {ws : List (κ × V)}, KVR K H kvs ws → KVR K H (kvs.map (fun kv => if kv.1 = k then (kv.1, t) else kv)) (ws.map (fun kv => if kv.1 = k then (kv.1, v) else kv))
  | _, _, .nil => .nil
  | _, _, .cons q rest => by
    simp only [List.map_cons]
    refine .cons ?_ (put_upA rv rest)
    rw [q.1]
    split
    · exact ⟨rfl, rv⟩
    · exact q
theorem put_upB {κ : Type} {H} {k : κ} {t v} (rv : Rep K H t v) : ∀ {kvs : List (κ × T)} {ws : List (κ × V)}, KVR K H kvs ws → KVR K H (kvs ++ [(k, t)]) (ws ++ [(k, v)])
  | _, _, .nil => .cons ⟨rfl, rv⟩ .nil
  | _, _, .cons q rest => .cons q (put_upB rv rest)
theorem put_up {κ : Type} [DecidableEq κ] {H} {kvs : List (κ × T)} {ws : List (κ × V)} {k : κ} {t v} (r : KVR K H kvs ws) (rv : Rep K H t v) : KVR K H (putT kvs k t) (putK ws k v) := by
  unfold putT putK
  rw [any_up r]
  split
  · exact put_upA rv r
  · exact put_upB rv r
theorem KVR.length {κ : Type} {H} {kvs : List (κ × T)} {ws : List (κ × V)} (r : KVR K H kvs ws) : ws.length = kvs.length := (Paired.length r).symm

def atG (G : GH) (x y : T) (t : T) : Prop := match x, y with
  | .tup xs, .int i => atI xs i = some t
  | .fl xs, .int i => atI xs i = some t
  | .str z, .int i => z.length ≤ sizeLine ∧ ∃ c, atI z.cps.toList i = some c ∧ t = .str ⟨#[c]⟩
  | .ref p, _ => (∃ i xs, y = .int i ∧ G p = some (.lst xs) ∧ atI xs i = some t) ∨ ∃ kvs k, gd G p kvs ∧ keyT y = some k ∧ lookT kvs k = some t
  | _, _ => False
def vix : TR2 := fun x y G R => ∃ t, atG G x y t ∧ R t G
theorem atI_up {H xs vs i t} (r : Reps K H xs vs) (e : atI xs i = some t) : ∃ v, atI vs i = some v ∧ Rep K H t v := by
  unfold atI at e ⊢
  rw [r.length]
  cases h : ixN xs.length i with
  | none => rw [h] at e; cases e
  | some j =>
    rw [h] at e
    exact r.get e
def rIxD : R2 := fun x y H Q => ∃ a v, x = .ref a ∧ DGet H a y (some v) ∧ Q v H
theorem ix_dict (hu : X.A.units + 1 < cLine) : IxR X rIxD := by
  intro value slice pins s σ H x y v u Q I rx ry h hs
  obtain ⟨a, z, rfl, g, q⟩ := h
  cases rx
  exact tail_any (dict_typeIs I g) PySem.F.slot_dict_getitem.lookup (d_getItem hu I g ry fun w' s3 I3 rw' => ⟨z, H, I3, rw', q⟩) hs
theorem up_ix : Up2 K vix (fun x y H Q => rIxL K x y H Q ∨ rIxT K x y H Q ∨ rIxS x y H Q ∨ rIxD x y H Q) := by
  intro x y vx vy G H R Q rx ry rg ⟨t, h, q⟩ k
  unfold atG at h
  split at h
  · simp only [Rep] at rx
    obtain ⟨a, va, rfl, ha, ra⟩ := rx
    cases ry
    obtain ⟨v, e, r⟩ := atI_up ra h
    exact .inr (.inl ⟨a, va, _, v, rfl, rfl, ha, e, k t v G H r rg .refl q⟩)
  · simp only [Rep] at rx
    obtain ⟨a, va, rfl, ha, ra⟩ := rx
    cases ry
    obtain ⟨v, e, r⟩ := atI_up ra h
    exact .inl ⟨a, va, _, v, rfl, rfl, ha.seq, e, k t v G H r rg .refl q⟩
  · cases rx; cases ry
    obtain ⟨hz, c, e, rfl⟩ := h
    exact .inr (.inr (.inl ⟨_, _, c, rfl, rfl, hz, e, k (.str _) _ G H rfl rg .refl q⟩))
  · cases rx
    rcases h with ⟨i, xs, rfl, e, h⟩ | ⟨kvs, ky, e, ek, h⟩
    · cases ry
      obtain ⟨va, h1, ra⟩ := rg.lst e
      obtain ⟨v, e, r⟩ := atI_up ra h
      exact .inl ⟨_, va, _, v, rfl, rfl, .of h1, e, k t v G H r rg .refl q⟩
    · obtain ⟨ws, h1, ra⟩ := rg.gd e
      obtain ⟨v, e1, r⟩ := (look_up ra).1 t h
      obtain rfl := keyT_up ry ek
      exact .inr (.inr (.inr ⟨_, v, rfl, by rw [← e1]; exact .inl ⟨ws, ky, h1, rfl, rfl⟩, k t v G H r rg .refl q⟩))
  · exact h.elim
theorem w_sub1 {n : Nat} (hr : Room n X.A) (ha : PE X a (LE X.K ta)) (hb : PE X b (LE X.K tb)) (hs : PlainIx b) : PE X (.Subscript a b pos) (LE X.K (top vix ta tb)) := w_ix (ix_list.or (ix_tup.or (ix_str.or (ix_dict (hu_of hr))))) up_ix ha hb hs

def inT (x : T) (ys : List T) : Bool := ys.any fun y => scalT y x == some true
def vin (neg : Bool) : TR2 := fun x y G R => match y with
  | .tup ys => (ys.all fun y => (scalT y x).isSome) = true ∧ (scalT x x).isSome = true ∧ R (.bl (if neg then !inT x ys else inT x ys)) G
  | .fl ys => (ys.all fun y => (scalT y x).isSome) = true ∧ (scalT x x).isSome = true ∧ R (.bl (if neg then !inT x ys else inT x ys)) G
  | .ref p => (∃ ys, G p = some (.lst ys) ∧ (ys.all fun y => (scalT y x).isSome) = true ∧ (scalT x x).isSome = true ∧ R (.bl (if neg then !inT x ys else inT x ys)) G) ∨
      (∃ kvs k, gd G p kvs ∧ keyT x = some k ∧ R (.bl (if neg then !(lookT kvs k).isSome else (lookT kvs k).isSome)) G) ∨ ∃ kvs, gd G p kvs ∧ x = .non ∧ R (.bl neg) G
  | .str z => ∃ c, x = .str ⟨#[c]⟩ ∧ R (.bl (if neg then !decide (c ∈ z.cps.toList) else decide (c ∈ z.cps.toList))) G
  | _ => False
def rInDN (neg : Bool) : R2 := fun x y H Q => (∃ a o, y = .ref a ∧ DGet H a x o ∧ Q (.bl (if neg then !o.isSome else o.isSome)) H) ∨ ∃ a kvs, y = .ref a ∧ x = .non ∧ Rd H a (.dK kvs) ∧ Q (.bl neg) H
theorem op_inDN (hu : X.A.units + 1 < cLine) : OpR X (compareOp .In) (rInDN false) := by
  intro pins s σ H x y v u Q I rx ry h
  rcases h with ⟨a, o, ex, g, q⟩ | ⟨a, kvs, ey, ex, g, q⟩
  · subst ex
    obtain rfl : u = Value.ref a := ry
    exact d_in hu I g rx fun s3 I3 => ⟨.bl o.isSome, H, I3, rfl, q⟩
  · subst ex ey
    obtain rfl : u = Value.ref a := ry
    obtain rfl : v = Value.none := rx
    exact d_inNone I g fun s3 I3 => ⟨.bl false, H, I3, rfl, q⟩
theorem op_notInDN (hu : X.A.units + 1 < cLine) : OpR X (compareOp .NotIn) (rInDN true) := by
  intro pins s σ H x y v u Q I rx ry h
  rcases h with ⟨a, o, ex, g, q⟩ | ⟨a, kvs, ey, ex, g, q⟩
  · subst ex
    obtain rfl : u = Value.ref a := ry
    exact d_notIn hu I g rx fun s3 I3 => ⟨.bl (!o.isSome), H, I3, rfl, q⟩
  · subst ex ey
    obtain rfl : u = Value.ref a := ry
    obtain rfl : v = Value.none := rx
    exact d_notInNone I g fun s3 I3 => ⟨.bl true, H, I3, rfl, q⟩
theorem flat_of {H x y v b} (r : Rep K H x v) (e : scalT x y = some b) : flatV v = true := by
  cases x <;> first | (cases r; rfl) | (cases y <;> cases e)
theorem flat_of' {H x y v b} (r : Rep K H x v) (e : scalT y x = some b) : flatV v = true := by
  cases x <;> first | (cases r; rfl) | (cases y <;> cases e)
theorem eqV_up {H x y vx vy b} (rx : Rep K H x vx) (ry : Rep K H y vy) (e : scalT y x = some b) : eqV vy vx = b := by
  unfold scalT at e
  split at e <;> first | (cases rx; cases ry; cases e; first | rfl | (unfold eqV; exact Bool.beq_eq_decide_eq _ _) | (unfold eqV; rw [beq_eq_decide])) | cases e
theorem inV_up {H x vx} (rx : Rep K H x vx) : ∀ {ys : List T} {vs : List V}, Reps K H ys vs → (ys.all fun y => (scalT y x).isSome) = true → vs.all flatV = true ∧ inV vx vs = inT x ys
  | [], _, r, _ => by cases r.of_nil; exact ⟨rfl, rfl⟩
  | y :: ys, _, r, h => by
    obtain ⟨v, r', rfl, r1, r2⟩ := r.of_cons
    simp only [List.all_cons, Bool.and_eq_true] at h
    obtain ⟨h1, h2⟩ := h
    obtain ⟨b, hb⟩ := Option.isSome_iff_exists.mp h1
    obtain ⟨i1, i2⟩ := inV_up rx r2 h2
    refine ⟨by simp only [List.all_cons, flat_of r1 hb, i1, Bool.and_self], ?_⟩
    unfold inV inT at *
    simp only [List.any_cons, eqV_up rx r1 hb, i2, hb]
    cases b <;> rfl
theorem up_in {neg : Bool} : Up2 K (vin neg) (fun x y H Q => rIn K neg x y H Q ∨ rInDN neg x y H Q ∨ (∃ (c : Nat) (z : Str), x = .str ⟨#[c]⟩ ∧ y = .str z ∧ Q (.bl (if neg then !decide (c ∈ z.cps.toList) else decide (c ∈ z.cps.toList))) H)) := by
  intro x y vx vy G H R Q rx ry rg h k
  unfold vin at h
  have flatx : (scalT x x).isSome = true → flatV vx = true := fun h => by
    obtain ⟨b, hb⟩ := Option.isSome_iff_exists.mp h
    exact flat_of rx hb
  split at h
  · simp only [Rep] at ry
    obtain ⟨a, va, rfl, ha, ra⟩ := ry
    obtain ⟨h1, h2, q⟩ := h
    obtain ⟨i1, i2⟩ := inV_up rx ra h1
    exact .inl ⟨a, va, rfl, .inr ha, flatx h2, i1, by rw [i2]; exact k (.bl _) _ G H rfl rg .refl q⟩
  · simp only [Rep] at ry
    obtain ⟨a, va, rfl, ha, ra⟩ := ry
    obtain ⟨h1, h2, q⟩ := h
    obtain ⟨i1, i2⟩ := inV_up rx ra h1
    exact .inl ⟨a, va, rfl, .inl ha.seq, flatx h2, i1, by rw [i2]; exact k (.bl _) _ G H rfl rg .refl q⟩
  · cases ry
    rcases h with ⟨ys, e, h1, h2, q⟩ | ⟨kvs, ky, e, ek, q⟩ | ⟨kvs, e, rfl, q⟩
    · obtain ⟨va, h3, ra⟩ := rg.lst e
      obtain ⟨i1, i2⟩ := inV_up rx ra h1
      exact .inl ⟨_, va, rfl, .inl (.of h3), flatx h2, i1, by rw [i2]; exact k (.bl _) _ G H rfl rg .refl q⟩
    · obtain ⟨ws, h3, ra⟩ := rg.gd e
      obtain rfl := keyT_up rx ek
      refine .inr (.inl (.inl ⟨_, valV ws ky, rfl, .inl ⟨ws, ky, h3, rfl, rfl⟩, ?_⟩))
      have e2 : (valV ws ky).isSome = (lookT kvs ky).isSome := by
        cases hl : lookT kvs ky with
        | none => rw [(look_up ra).2 hl]; rfl
        | some t =>
          obtain ⟨v, e1, _⟩ := (look_up ra).1 t hl
          rw [e1]
          rfl
      rw [e2]
      exact k (.bl _) _ G H rfl rg .refl q
    · cases rx
      obtain ⟨ws, h3, ra⟩ := rg.gd e
      exact .inr (.inl (.inr ⟨_, ws, rfl, rfl, h3, k (.bl _) _ G H rfl rg .refl q⟩))
  · cases ry
    obtain ⟨c, rfl, q⟩ := h
    cases rx
    exact .inr (.inr ⟨c, _, rfl, rfl, k (.bl _) _ G H rfl rg .refl q⟩)
  · exact h.elim
theorem w_in {n : Nat} (hr : Room n X.A) (ha : PE X a (LE X.K ta)) (hb : PE X b (LE X.K tb)) (h1 : behindInMarks .In b = false) : PE X (.Compare a [.In] [b] pos) (LE X.K (top (vin false) ta tb)) := w_cmp (op_in_seq.or ((op_inDN (hu_of hr)).or op_in_sign)) up_in ha hb h1
theorem w_notin {n : Nat} (hr : Room n X.A) (ha : PE X a (LE X.K ta)) (hb : PE X b (LE X.K tb)) (h1 : behindInMarks .NotIn b = false) : PE X (.Compare a [.NotIn] [b] pos) (LE X.K (top (vin true) ta tb)) := w_cmp (op_notIn_seq.or ((op_notInDN (hu_of hr)).or op_notIn_sign)) up_in ha hb h1
end
end TL

namespace TL
open PySem PySem.Spec PyProof.Rows L2

section
variable {X : Cx} {K : PySem.W.Frag} {e a b o : Expr} {es : List Expr} {ta tb te to : TTE} {t : TTA} {pos apos cpos : Pos}

def tcb (r : TRN) (t : TTA) : TTE := fun st G R => t st G fun xs G1 => r xs G1 R
theorem LE_cb {K r r' t σ H Q} (u : UpN K r r') (h : LE K (tcb r t) σ H Q) : tCB r' (LA K t) σ H Q := by
  obtain ⟨st, G, R, rs, rg, q, k⟩ := h
  exact ⟨st, G, _, rs, rg, q, fun xs vs G1 H1 rx rg1 s1 q1 => u xs vs G1 H1 R Q rx rg1 q1 (k.stay s1)⟩
theorem w_callB {x : Str} {p : Pos} {id : String} {r : TRN} {r' : List V → Hp → VK → Prop} (hc : CallR X (.builtin id) r') (u : UpN X.K r r') (hg : Gl X x) (hm : X.mg x = none) (hv : bootBuiltins x = some (.builtin id)) (ha : PA X (e :: es) (LA X.K t)) (h1 : x ≠ "__name__" := by decide) (hd : (x == ("__debug__" : Str)) = false := by decide)
    (hs : starEach (e :: es) X.env = (false, eval e X.env) :: starEach es X.env := by rfl) (hpl : (backTo pos (starEach es X.env)).any (·.1) = false := by rfl) : PE X (.Call (.Name x p) (e :: es) [] pos) (LE X.K (tcb r t)) :=
  (pe_callB hc hg hm hv ha h1 hd hs hpl).imp fun _ _ _ => LE_cb u
theorem w_callTy {x : Str} {p : Pos} {Ty : String} {r : TRN} {r' : List V → Hp → VK → Prop} (hc : CallR X (.type Ty) r') (u : UpN X.K r r') (hg : Gl X x) (hm : X.mg x = none) (hv : bootBuiltins x = some (.type Ty)) (ha : PA X (e :: es) (LA X.K t)) (h1 : x ≠ "__name__" := by decide) (hd : (x == ("__debug__" : Str)) = false := by decide)
    (hs : starEach (e :: es) X.env = (false, eval e X.env) :: starEach es X.env := by rfl) (hpl : (backTo pos (starEach es X.env)).any (·.1) = false := by rfl) : PE X (.Call (.Name x p) (e :: es) [] pos) (LE X.K (tcb r t)) :=
  (pe_callTy hc hg hm hv ha h1 hd hs hpl).imp fun _ _ _ => LE_cb u
/-- len -/
def vlen : TRN := fun xs G R => match xs with
  | [.tup ys] => R (.int ys.length) G
  | [.fl ys] => R (.int ys.length) G
  | [.str z] => z.length ≤ sizeLine ∧ R (.int z.length) G
  | [.ref p] => (∃ ys, G p = some (.lst ys) ∧ R (.int ys.length) G) ∨ ∃ kvs, G p = some (.dK kvs) ∧ R (.int kvs.length) G
  | _ => False
theorem up_len : UpN K vlen (fun xs H Q => (∃ p ys, xs = [V.ref p] ∧ (SqL K H p ys ∨ SqT K H p ys) ∧ Q (V.int ys.length) H) ∨ (∃ z : Str, xs = [V.str z] ∧ z.length ≤ sizeLine ∧ Q (V.int z.length) H) ∨ (∃ a kvs, xs = [V.ref a] ∧ H a = some (.dK kvs) ∧ Q (.int kvs.length) H)) := by
  intro xs vs G H R Q rx rg h k
  unfold vlen at h
  split at h
  · obtain ⟨v, rfl, r⟩ := rx.of_one
    simp only [Rep] at r
    obtain ⟨p, vs, rfl, hs, r⟩ := r
    exact .inl ⟨p, vs, rfl, .inr hs, k (.int _) _ G H (by rw [r.length]; rfl) rg .refl h⟩
  · obtain ⟨v, rfl, r⟩ := rx.of_one
    simp only [Rep] at r
    obtain ⟨p, vs, rfl, hs, r⟩ := r
    exact .inl ⟨p, vs, rfl, .inl hs.seq, k (.int _) _ G H (by rw [r.length]; rfl) rg .refl h⟩
  · obtain ⟨v, rfl, r⟩ := rx.of_one
    cases r
    exact .inr (.inl ⟨_, rfl, h.1, k (.int _) _ G H rfl rg .refl h.2⟩)
  · obtain ⟨v, rfl, r⟩ := rx.of_one
    cases r
    rcases h with ⟨ys, e, q⟩ | ⟨ys, e, q⟩
    · obtain ⟨vs, h1, r⟩ := rg.lst e
      exact .inl ⟨_, vs, rfl, .inl (.of h1), k (.int _) _ G H (by rw [r.length]; rfl) rg .refl q⟩
    · obtain ⟨vs, h1, r⟩ := rg.dK e
      exact .inr (.inr ⟨_, vs, rfl, h1, k (.int _) _ G H (by rw [r.length]; rfl) rg .refl q⟩)
  · exact h.elim
theorem w_len {p : Pos} (hg : Gl X "len") (hm : X.mg "len" = none) (ha : PA X [e] (LA X.K t)) (hs : starEach [e] X.env = (false, eval e X.env) :: starEach [] X.env := by rfl) (hpl : (backTo pos (starEach [] X.env)).any (·.1) = false := by rfl) : PE X (.Call (.Name "len" p) [e] [] pos) (LE X.K (tcb vlen t)) :=
  w_callB (call_len_seq.or (call_len_str.or call_lenD)) up_len hg hm PySem.boot_len ha (hs := hs) (hpl := hpl)
/-- int -/
def vint : TRN := fun xs G R => match xs with
  | [.int i] => R (.int i) G
  | [.bl k] => R (.int (if k = true then 1 else 0)) G
  | _ => False
theorem up_int : UpN K vint (fun xs H Q => (∃ i, xs = [V.int i] ∧ Q (.int i) H) ∨ (∃ k, xs = [V.bl k] ∧ Q (.int (if k = true then 1 else 0)) H)) := by
  intro xs vs G H R Q rx rg h k
  unfold vint at h
  split at h
  · obtain ⟨v, rfl, r⟩ := rx.of_one
    cases r
    exact .inl ⟨_, rfl, k (.int _) _ G H rfl rg .refl h⟩
  · obtain ⟨v, rfl, r⟩ := rx.of_one
    cases r
    exact .inr ⟨_, rfl, k (.int _) _ G H rfl rg .refl h⟩
  · exact h.elim
theorem w_intc {p : Pos} (hg : Gl X "int") (hm : X.mg "int" = none) (ha : PA X [e] (LA X.K t)) (hs : starEach [e] X.env = (false, eval e X.env) :: starEach [] X.env := by rfl) (hpl : (backTo pos (starEach [] X.env)).any (·.1) = false := by rfl) : PE X (.Call (.Name "int" p) [e] [] pos) (LE X.K (tcb vint t)) :=
  w_callTy call_int1 up_int hg hm (by decide +kernel) ha (hs := hs) (hpl := hpl)
/-- tuple(..) of a list or a tuple -/
def vtuple : TRN := fun xs G R => match xs with
  | [.tup ys] => R (.tup ys) G
  | [.fl ys] => R (.tup ys) G
  | [.ref p] => ∃ ys, G p = some (.lst ys) ∧ R (.tup ys) G
  | _ => False
theorem up_tuple : UpN K vtuple (fun xs H Q => ∃ p ys, xs = [V.ref p] ∧ ((SqL K H p ys ∧ ∀ l, H l = none → Q (.ref l) (upd H l (.tup ys))) ∨ (SqT K H p ys ∧ Q (.ref p) H))) := by
  intro xs vs G H R Q rx rg h k
  unfold vtuple at h
  split at h
  · obtain ⟨v, rfl, r⟩ := rx.of_one
    have r0 := r
    simp only [Rep] at r
    obtain ⟨p, vs, rfl, hs, r⟩ := r
    exact ⟨p, vs, rfl, .inr ⟨hs, k _ _ G H r0 rg .refl h⟩⟩
  · obtain ⟨v, rfl, r⟩ := rx.of_one
    simp only [Rep] at r
    obtain ⟨p, vs, rfl, hs, r⟩ := r
    exact ⟨p, vs, rfl, .inl ⟨hs.seq, fun l hl => k _ _ G _ (rep_tup hl r) (rg.new hl) (stay_upd (wr_none hl)) h⟩⟩
  · obtain ⟨v, rfl, r⟩ := rx.of_one
    cases r
    obtain ⟨ys, e, q⟩ := h
    obtain ⟨vs, h1, r⟩ := rg.lst e
    exact ⟨_, vs, rfl, .inl ⟨.of h1, fun l hl => k _ _ G _ (rep_tup hl r) (rg.new hl) (stay_upd (wr_none hl)) q⟩⟩
  · exact h.elim
theorem w_tuplec {p : Pos} (hg : Gl X "tuple") (hm : X.mg "tuple" = none) (ha : PA X [e] (LA X.K t)) (hs : starEach [e] X.env = (false, eval e X.env) :: starEach [] X.env := by rfl) (hpl : (backTo pos (starEach [] X.env)).any (·.1) = false := by rfl) : PE X (.Call (.Name "tuple" p) [e] [] pos) (LE X.K (tcb vtuple t)) :=
  w_callTy call_tuple_of up_tuple hg hm (by decide +kernel) ha (hs := hs) (hpl := hpl)
/-- list(..) of a list, a tuple, a dict -/
def kT : Key → T
  | .inl i => .int i
  | .inr x => .str x
def vlist : TRN := fun xs G R => match xs with
  | [.tup ys] => ∀ l, G l = none → R (.ref l) (gupd G l (.lst ys))
  | [.fl ys] => ∀ l, G l = none → R (.ref l) (gupd G l (.lst ys))
  | [.ref p] => (∃ ys, G p = some (.lst ys) ∧ ∀ l, G l = none → R (.ref l) (gupd G l (.lst ys))) ∨ ∃ kvs, gd G p kvs ∧ ∀ l, G l = none → R (.ref l) (gupd G l (.lst (kvs.map fun kv => kT kv.1)))
  | _ => False
theorem rep_kT {H} (k : Key) : Rep K H (kT k) (kV k) := by cases k <;> rfl
theorem reps_keys {H} : ∀ {kvs : List (Key × T)} {ws : List (Key × V)}, KVR K H kvs ws → Reps K H (kvs.map fun kv => kT kv.1) (ws.map fun kv => kV kv.1)
  | _, _, .nil => .nil
  | _, _, .cons q r => by
    simp only [List.map_cons]
    refine .cons ?_ (reps_keys r)
    rw [q.1]
    exact rep_kT _
theorem up_list : UpN K vlist (fun xs H Q => (∃ p ys, xs = [V.ref p] ∧ (SqL K H p ys ∨ SqT K H p ys) ∧ ∀ l, H l = none → Q (.ref l) (upd H l (.lst ys))) ∨ ∃ (a : Addr) (kvs : List (Key × V)), xs = [V.ref a] ∧ Rd H a (.dK kvs) ∧ ∀ p, H p = none → Q (.ref p) (upd H p (.lst (kvs.map fun kv => kV kv.1)))) := by
  intro xs vs G H R Q rx rg h k
  unfold vlist at h
  split at h
  · obtain ⟨v, rfl, r⟩ := rx.of_one
    simp only [Rep] at r
    obtain ⟨p, vs, rfl, hs, r⟩ := r
    exact .inl ⟨p, vs, rfl, .inr hs, fun l hl => k (.ref l) _ _ _ rfl (rg.newL hl r) (stay_upd (wr_none hl)) (h l (rg.free hl))⟩
  · obtain ⟨v, rfl, r⟩ := rx.of_one
    simp only [Rep] at r
    obtain ⟨p, vs, rfl, hs, r⟩ := r
    exact .inl ⟨p, vs, rfl, .inl hs.seq, fun l hl => k (.ref l) _ _ _ rfl (rg.newL hl r) (stay_upd (wr_none hl)) (h l (rg.free hl))⟩
  · obtain ⟨v, rfl, r⟩ := rx.of_one
    cases r
    rcases h with ⟨ys, e, q⟩ | ⟨ys, e, q⟩
    · obtain ⟨vs, h1, r⟩ := rg.lst e
      exact .inl ⟨_, vs, rfl, .inl (.of h1), fun l hl => k (.ref l) _ _ _ rfl (rg.newL hl r) (stay_upd (wr_none hl)) (q l (rg.free hl))⟩
    · obtain ⟨vs, h1, r⟩ := rg.gd e
      exact .inr ⟨_, vs, rfl, h1, fun l hl => k (.ref l) _ _ _ rfl (rg.newL hl (reps_keys r)) (stay_upd (wr_none hl)) (q l (rg.free hl))⟩
  · exact h.elim
theorem w_listc {p : Pos} (hc : X.calm = true) (hg : Gl X "list") (hm : X.mg "list" = none) (ha : PA X [e] (LA X.K t)) (hs : starEach [e] X.env = (false, eval e X.env) :: starEach [] X.env := by rfl) (hpl : (backTo pos (starEach [] X.env)).any (·.1) = false := by rfl) : PE X (.Call (.Name "list" p) [e] [] pos) (LE X.K (tcb vlist t)) :=
  w_callTy (call_list_of.or (call_listD hc)) up_list hg hm (by decide +kernel) ha (hs := hs) (hpl := hpl)
/-- dict(d) -/
def vdict : TRN := fun xs G R => match xs with
  | [.ref p] => ∃ kvs, gd G p kvs ∧ ∀ l, G l = none → R (.ref l) (gupd G l (.dK kvs))
  | _ => False
theorem RG.newD {H G a} {xs : List (Key × T)} {vs : List (Key × V)} (R : RG K H G) (n : H a = none) (r : KVR K H xs vs) : RG K (L2.upd H a (.dK vs)) (gupd G a (.dK xs)) :=
  R.put (wr_none n) ⟨vs, upd_same, r.stay (stay_upd (wr_none n))⟩
theorem up_dict : UpN K vdict (fun xs H Q => ∃ (a : Addr) (kvs : List (Key × V)), xs = [.ref a] ∧ Rd H a (.dK kvs) ∧ ∀ p, H p = none → Q (.ref p) (upd H p (.dK kvs))) := by
  intro xs vs G H R Q rx rg h k
  unfold vdict at h
  split at h
  · obtain ⟨v, rfl, r⟩ := rx.of_one
    cases r
    obtain ⟨ys, e, q⟩ := h
    obtain ⟨vs, h1, r⟩ := rg.gd e
    exact ⟨_, vs, rfl, h1, fun l hl => k (.ref l) _ _ _ rfl (rg.newD hl r) (stay_upd (wr_none hl)) (q l (rg.free hl))⟩
  · exact h.elim
theorem w_dictc {p : Pos} (hg : Gl X "dict") (hm : X.mg "dict" = none) (ha : PA X [e] (LA X.K t)) (hs : starEach [e] X.env = (false, eval e X.env) :: starEach [] X.env := by rfl) (hpl : (backTo pos (starEach [] X.env)).any (·.1) = false := by rfl) : PE X (.Call (.Name "dict" p) [e] [] pos) (LE X.K (tcb vdict t)) :=
  w_callTy call_dictD up_dict hg hm (by decide +kernel) ha (hs := hs) (hpl := hpl)
/-- divmod by a written positive number -/
def vdivmod : TRN := fun xs G R => match xs with
  | [.int i, .int j] => CDiv i j ∧ R (.tup [.int (i / j), .int (i % j)]) G
  | _ => False
theorem up_divmod : UpN K vdivmod (fun xs H Q => ∃ i j, xs = [V.int i, V.int j] ∧ CDiv i j ∧ ∀ p, H p = none → Q (.ref p) (upd H p (.tup [.int (i / j), .int (i % j)]))) := by
  intro xs vs G H R Q rx rg h k
  unfold vdivmod at h
  split at h
  · obtain ⟨v, w, rfl, r, r'⟩ := rx.of_two
    cases r; cases r'
    exact ⟨_, _, rfl, h.1, fun p hp => k _ _ G _ (rep_tup hp (.cons (t := .int _) rfl (.one (t := .int _) rfl))) (rg.new hp) (stay_upd (wr_none hp)) h.2⟩
  · exact h.elim
theorem w_divmod {p : Pos} {f : Expr} (hg : Gl X "divmod") (hm : X.mg "divmod" = none) (ha : PA X [e, f] (LA X.K t)) (hs : starEach [e, f] X.env = (false, eval e X.env) :: starEach [f] X.env := by rfl) (hpl : (backTo pos (starEach [f] X.env)).any (·.1) = false := by rfl) : PE X (.Call (.Name "divmod" p) [e, f] [] pos) (LE X.K (tcb vdivmod t)) :=
  w_callB call_divmod up_divmod hg hm (by decide +kernel) ha (hs := hs) (hpl := hpl)
/-- sorted of texts, below 64 -/
def vsorted : TRN := fun xs G R => ∃ zs : List Str, (match xs with
    | [.tup ys] => False
    | [.fl ys] => ys = zs.map T.str
    | [.ref p] => G p = some (.lst (zs.map T.str))
    | _ => False) ∧ zs.length < 64 ∧ ∀ (ys : List Str) p, ys.Perm zs → sortedS ys = true → G p = none → R (.ref p) (gupd G p (.lst (ys.map T.str)))
theorem reps_strs {H} : ∀ {zs : List Str} {vs : List V}, Reps K H (zs.map T.str) vs → vs = zs.map V.str
  | [], _, r => r.of_nil
  | z :: zs, _, r => by
    obtain ⟨v, r', rfl, r1, r2⟩ := r.of_cons
    cases r1
    rw [reps_strs r2]
    rfl
theorem reps_of_strs {H} : ∀ (zs : List Str), Reps K H (zs.map T.str) (zs.map V.str)
  | [] => .nil
  | z :: zs => .cons (t := .str z) rfl (reps_of_strs zs)
theorem up_sorted : UpN K vsorted (rSortedS K) := by
  intro xs vs G H R Q rx rg h k
  obtain ⟨zs, h, hl, q⟩ := h
  have fin : ∀ (ys : List Str) p, ys.Perm zs → sortedS ys = true → H p = none → Q (.ref p) (upd H p (.lst (ys.map V.str))) := fun ys p h1 h2 hp =>
    k (.ref p) _ _ _ rfl (rg.newL hp (reps_of_strs ys)) (stay_upd (wr_none hp)) (q ys p h1 h2 (rg.free hp))
  split at h
  · exact h.elim
  · obtain ⟨v, rfl, r⟩ := rx.of_one
    subst h
    simp only [Rep] at r
    obtain ⟨p, vs, rfl, hs, r⟩ := r
    obtain rfl := reps_strs r
    exact ⟨p, zs, rfl, hs.seq, hl, fin⟩
  · obtain ⟨v, rfl, r⟩ := rx.of_one
    cases r
    obtain ⟨vs, h1, r⟩ := rg.lst h
    obtain rfl := reps_strs r
    exact ⟨_, zs, rfl, .of h1, hl, fin⟩
  · exact h.elim
theorem w_sorted {p : Pos} (hg : Gl X "sorted") (hm : X.mg "sorted" = none) (ha : PA X [e] (LA X.K t)) (hs : starEach [e] X.env = (false, eval e X.env) :: starEach [] X.env := by rfl) (hpl : (backTo pos (starEach [] X.env)).any (·.1) = false := by rfl) : PE X (.Call (.Name "sorted" p) [e] [] pos) (LE X.K (tcb vsorted t)) :=
  w_callB cr_sortedS up_sorted hg hm (by decide +kernel) ha (hs := hs) (hpl := hpl)

def tmeth (r : T → List T → GH → TK → Prop) (to : TTE) (t : TTA) : TTE := fun st G R => to st G fun x G1 => (∃ p xs, x = .ref p ∧ G1 p = some (.lst xs)) ∧ t st G1 fun xs G2 => r x xs G2 R
def UpM (K : PySem.W.Frag) (r : T → List T → GH → TK → Prop) (r' : V → List V → Hp → VK → Prop) : Prop := ∀ x vx xs vs G H R Q, Rep K H x vx → Reps K H xs vs → RG K H G → r x xs G R → Kont K H R Q → r' vx vs H Q
theorem LE_bm {K r r' to t σ H Q} (u : UpM K r r') (h : LE K (tmeth r to t) σ H Q) : tBM K "list" r' (LE K to) (LA K t) σ H Q := by
  obtain ⟨st, G, R, rs, rg, q, k⟩ := h
  refine ⟨st, G, _, rs, rg, q, fun x vx G1 H1 rx rg1 s1 ⟨⟨p, xs, e1, e2⟩, q1⟩ => ?_⟩
  subst e1
  cases rx
  obtain ⟨ws, h1, r1⟩ := rg1.lst e2
  refine ⟨.inl ⟨rfl, ws, .of h1⟩, st, G1, _, rs.stay s1, rg1, q1, fun ys vs G2 H2 ry rg2 s2 q2 => ?_⟩
  exact u (.ref p) (.ref p) ys vs G2 H2 R Q rfl ry rg2 q2 (k.stay (s1.trans s2))
theorem LE_bm0 {K r r' to σ H Q} (u : UpM K r r') (h : LE K (tmeth r to tanil) σ H Q) : tBM0 K "list" r' (LE K to) σ H Q := by
  obtain ⟨st, G, R, rs, rg, q, k⟩ := h
  refine ⟨st, G, _, rs, rg, q, fun x vx G1 H1 rx rg1 s1 ⟨⟨p, xs, e1, e2⟩, q1⟩ => ?_⟩
  subst e1
  cases rx
  obtain ⟨ws, h1, r1⟩ := rg1.lst e2
  exact ⟨.inl ⟨rfl, ws, .of h1⟩, u (.ref p) (.ref p) [] [] G1 H1 R Q rfl .nil rg1 q1 (k.stay s1)⟩
def mappend : T → List T → GH → TK → Prop := fun x xs G R => ∃ p ys t, x = .ref p ∧ xs = [t] ∧ G p = some (.lst ys) ∧ ys.length < sizeLine ∧ R .non (gupd G p (.lst (ys ++ [t])))
theorem up_append : UpM K mappend rAppend := by
  rintro x vx xs vs G H R Q rx rxs rg ⟨p, ys, t, rfl, rfl, e, hz, q⟩ k
  cases rx
  obtain ⟨v, rfl, r⟩ := rxs.of_one
  obtain ⟨ws, h1, r1⟩ := rg.lst e
  exact ⟨_, ws, v, rfl, rfl, h1, by rw [r1.length]; exact hz, k .non .non _ _ rfl (rg.setL h1 (r1.append (.one r))) (stay_upd (wr_lst h1)) q⟩
theorem w_append (ho : PE X o (LE X.K to)) (ha : PA X [e] (LA X.K t)) (hbase : attributeBase o "append" X.env (eval o X.env) = eval o X.env := by rfl)
    (hfew : ((backTo cpos (starEach [e] X.env)).all (fun x => !x.1) && (backToKw cpos (keywordEach [] X.env)).all (fun x => x.1.isSome) && decide (([e] : List Expr).length + ([] : List Keyword).length + (if ([] : List Keyword).isEmpty then 0 else 1) < 30)) = true := by rfl)
    (hline : (apos.endLine == cpos.line) = true := by rfl) (hs : starEach [e] X.env = (false, eval e X.env) :: starEach [] X.env := by rfl) (hplain : (backTo cpos (starEach [] X.env)).any (·.1) = false := by rfl) :
    PE X (.Call (.Attribute o "append" apos) [e] [] cpos) (LE X.K (tmeth mappend to t)) :=
  (pe_bm PySem.F.plainAttrs_list PySem.F.slot_list_append PySem.F.type_list_append mt_append ho ha hbase hfew hline hs hplain).imp fun _ _ _ => LE_bm up_append
def mpop : T → List T → GH → TK → Prop := fun x xs G R => ∃ p ys t, x = .ref p ∧ xs = [] ∧ G p = some (.lst ys) ∧ ys[ys.length - 1]? = some t ∧ R t (gupd G p (.lst ys.dropLast))
theorem reps_dropLast {H ts vs} (r : Reps K H ts vs) : Reps K H ts.dropLast vs.dropLast := by
  rw [List.dropLast_eq_take, List.dropLast_eq_take, r.length]
  exact r.take _
theorem up_pop : UpM K mpop rPop := by
  rintro x vx xs vs G H R Q rx rxs rg ⟨p, ys, t, rfl, rfl, e, hz, q⟩ k
  cases rx
  obtain rfl := rxs.of_nil
  obtain ⟨ws, h1, r1⟩ := rg.lst e
  obtain ⟨v, e2, r⟩ := r1.get hz
  have S : Stay K H (upd H _ (.lst ws.dropLast)) := stay_upd (wr_lst h1)
  exact ⟨_, ws, v, rfl, rfl, h1, by rw [r1.length]; exact e2, k t v _ _ (r.stay S) (rg.setL h1 (reps_dropLast r1)) S q⟩
theorem w_pop (ho : PE X o (LE X.K to)) (hbase : attributeBase o "pop" X.env (eval o X.env) = eval o X.env := by rfl) (hline : (apos.endLine == cpos.line) = true := by rfl) : PE X (.Call (.Attribute o "pop" apos) [] [] cpos) (LE X.K (tmeth mpop to tanil)) :=
  (pe_bm0 PySem.F.plainAttrs_list PySem.F.slot_list_pop PySem.F.type_list_pop mt_pop ho hbase hline).imp fun _ _ _ => LE_bm0 up_pop
end

section
variable {X : Cx} {K : PySem.W.Frag} {e o i value : Expr} {te to ti tv : TTE} {pos pos' : Pos}
def tput (to ti tv : TTE) : TTS := fun D st G => tv st G fun v G1 => to st G1 fun x G2 => ti st G2 fun y G3 =>
  ∃ p, x = .ref p ∧ ((∃ kvs k, G3 p = some (.dK kvs) ∧ keyT y = some k ∧ kvs.length < sizeLine ∧ D.nx st (gupd G3 p (.dK (putT kvs k v)))) ∨ ∃ xs k j, y = .int k ∧ G3 p = some (.lst xs) ∧ ixN xs.length k = some j ∧ D.nx st (gupd G3 p (.lst (xs.set j v))))
/-- o[i] = v where o is a dict or a list -/
def sPutA (td ty tv : TE) : TS := fun D σ H => tv σ H fun v H1 => td σ H1 fun x H2 => ty σ H2 fun y H3 => (∃ a H4, x = .ref a ∧ DPut H3 a y v H4 ∧ D.nx σ H4) ∨ rSetL x y v H3 fun H4 => D.nx σ H4
theorem ps_putA {td ty tv : TE} (hu : X.A.units + 1 < cLine) (ho : PE X o td) (hi : PE X i ty) (hv : PE X value tv) (hs : swapsWith value (some (.Subscript o i pos')) pos.line X.env = pure false) :
    PS X (.Assign [.Subscript o i pos'] value pos) (sPutA td ty tv) := by
  refine ⟨fun pins s σ H D I h => ?_⟩
  refine wpAny_Assign_Subscript (thn (hv.run pins s σ H _ I h) fun r s1 ⟨v, H1, I1, rv, q1⟩ => thn (ho.run pins s1 σ H1 _ I1 q1) fun u s2 ⟨x, H2, I2, rx, q2⟩ => thn (hi.run pins s2 σ H2 _ I2 q2) fun iv s3 ⟨y, H3, I3, ry, q3⟩ => ?_) hs
  rcases q3 with ⟨a, H4, ex, g, q3⟩ | q3
  · subst ex
    obtain rfl : u = Value.ref a := rx
    exact d_setItem hu I3 g ry rv fun s4 I4 => ⟨σ, H4, I4, q3⟩
  · exact thn (set_list pins s3 σ H3 x y v u iv r _ I3 rx ry rv q3) fun _ s4 ⟨H4, I4, q4⟩ => ⟨σ, H4, I4, q4⟩
theorem RG.setD {H G a} {xs : List (Key × T)} {vs vs0 : List (Key × V)} (R : RG K H G) (n : H a = some (.dK vs0)) (r : KVR K H xs vs) : RG K (L2.upd H a (.dK vs)) (gupd G a (.dK xs)) :=
  R.put (wr_dK n) ⟨vs, upd_same, r.stay (stay_upd (wr_dK n))⟩
theorem s_put {n : Nat} (hr : Room n X.A) (ho : PE X o (LE X.K to)) (hi : PE X i (LE X.K ti)) (hv : PE X value (LE X.K tv)) (hs : swapsWith value (some (.Subscript o i pos')) pos.line X.env = pure false := by rfl) :
    PS X (.Assign [.Subscript o i pos'] value pos) (LS X.K (tput to ti tv)) := (ps_putA (hu_of hr) ho hi hv hs).imp fun D σ H => by
  rintro ⟨st, G, R, rs, rg, q, k⟩
  refine ⟨st, G, _, rs, rg, q, fun v vv G1 H1 rv rg1 s1 q1 => ?_⟩
  refine ⟨st, G1, _, rs.stay s1, rg1, q1, fun x vx G2 H2 rx rg2 s2 q2 => ?_⟩
  refine ⟨st, G2, _, rs.stay (s1.trans s2), rg2, q2, fun y vy G3 H3 ry rg3 s3 ⟨p, e, q3⟩ => ?_⟩
  subst e
  cases rx
  have s13 := s1.trans (s2.trans s3)
  rcases q3 with ⟨kvs, ky, e, ek, hz, q3⟩ | ⟨xs, ky, j, rfl, e, hj, q3⟩
  · obtain ⟨ws, h3, r3⟩ := rg3.dK e
    obtain rfl := keyT_up ry ek
    have s4 : Stay X.K H3 (upd H3 p (.dK (putK ws ky vv))) := stay_upd (wr_dK h3)
    exact .inl ⟨p, _, rfl, .inl ⟨ws, ky, h3, rfl, by rw [r3.length]; exact hz, rfl⟩, k.nx _ _ _ _ (rs.stay (s13.trans s4)) (rg3.setD h3 (put_up r3 (rv.stay (s2.trans s3)))) (s13.trans s4) q3⟩
  · cases ry
    obtain ⟨ws, h3, r3⟩ := rg3.lst e
    have s4 : Stay X.K H3 (upd H3 p (.lst (ws.set j vv))) := stay_upd (wr_lst h3)
    exact .inr ⟨p, ws, _, j, rfl, rfl, h3, by rw [r3.length]; exact hj, k.nx _ _ _ _ (rs.stay (s13.trans s4)) (rg3.setL h3 (r3.set (rv.stay (s2.trans s3)) j)) (s13.trans s4) q3⟩

def tdnew : TTE := fun _ G R => ∀ p, G p = none → R (.ref p) (gupd G p (.dK []))
theorem w_dnew : PE X (.Dict [] [] pos) (LE X.K tdnew) := pe_dnewK.imp fun σ H Q => by
  rintro ⟨st, G, R, rs, rg, q, k⟩
  exact fun p hp => k (.ref p) _ _ _ rfl (rg.newD hp .nil) (stay_upd (wr_none hp)) (q p (rg.free hp))
def tdget2 (to ty tx : TTE) : TTE := fun st G R => to st G fun x G1 => ∃ p, x = .ref p ∧ (∃ kvs, gd G1 p kvs) ∧ ty st G1 fun y G2 => tx st G2 fun z G3 => ∃ kvs k, gd G3 p kvs ∧ keyT y = some k ∧ R ((lookT kvs k).getD z) G3
theorem w_dget2 {n : Nat} {f : Expr} {apos cpos : Pos} {tx : TTE} (hr : Room n X.A) (ho : PE X o (LE X.K to)) (he : PE X e (LE X.K te)) (hf : PE X f (LE X.K tx)) (m : M2 X o "get" apos e f cpos) : PE X (.Call (.Attribute o "get" apos) [e, f] [] cpos) (LE X.K (tdget2 to te tx)) := (pe_dget2 (hu_of hr) ho he hf m).imp fun σ H Q => by
  rintro ⟨st, G, R, rs, rg, q, k⟩
  refine ⟨st, G, _, rs, rg, q, fun x vx G1 H1 rx rg1 s1 ⟨p, e, ⟨kvs, hk⟩, q1⟩ => ?_⟩
  subst e
  cases rx
  obtain ⟨ws, h1, _⟩ := rg1.gd hk
  refine ⟨p, rfl, .inl ⟨ws, h1⟩, ?_⟩
  refine ⟨st, G1, _, rs.stay s1, rg1, q1, fun y vy G2 H2 ry rg2 s2 q2 => ?_⟩
  refine ⟨st, G2, _, rs.stay (s1.trans s2), rg2, q2, fun z vz G3 H3 rz rg3 s3 ⟨kvs3, ky, e3, ek, q3⟩ => ?_⟩
  obtain ⟨ws3, h3, r3⟩ := rg3.gd e3
  obtain rfl := keyT_up (ry.stay s3) ek
  refine ⟨valV ws3 ky, .inl ⟨ws3, ky, h3, rfl, rfl⟩, ?_⟩
  cases hl : lookT kvs3 ky with
  | none =>
    rw [hl] at q3
    rw [(look_up r3).2 hl]
    exact k z vz G3 H3 rz rg3 (s1.trans (s2.trans s3)) q3
  | some t =>
    rw [hl] at q3
    obtain ⟨v, e1, r⟩ := (look_up r3).1 t hl
    rw [e1]
    exact k t v G3 H3 r rg3 (s1.trans (s2.trans s3)) q3
end
end TL

namespace TL
open PySem PySem.Spec PyProof.Rows L2

/-- a list (true) or a tuple (false) that can be read -/
def SQ (K : PySem.W.Frag) : Bool → Hp → Addr → List V → Prop
  | true, H, a, xs => SqL K H a xs
  | false, H, a, xs => SqT K H a xs
def ITR (k : Bool) (h : Heap) (it l : Addr) (i : Nat) : Prop := match k with
  | true => h.IsListIter it l i
  | false => h.IsTupleIter it l i
def ItM (K : PySem.W.Frag) (ka kb : Bool) (a b : Addr) : It where
  go := fun i H => ∃ (xs ys : List V) (x y : V), SQ K ka H a xs ∧ SQ K kb H b ys ∧ xs[i]? = some x ∧ ys[i]? = some y
  yld := fun i H v H' => ∃ T x y, v = .ref T ∧ H T = none ∧ H' = upd H T (.tup [x, y]) ∧ (∀ xs, SQ K ka H a xs → xs[i]? = some x) ∧ ∀ ys, SQ K kb H b ys → ys[i]? = some y
  stop := fun i H => ∃ xs ys : List V, SQ K ka H a xs ∧ SQ K kb H b ys ∧ i = min xs.length ys.length
section
variable {X : Cx} {pins : List (Addr × Obj)} {σ : L2.St} {H : Hp} {s : Shared} {a : Addr} {xs ys : List V}
def HS (k : Bool) (h : Heap) (a : Addr) (its : List Value) : Prop := match k with
  | true => h.IsList a its.toArray
  | false => h.IsTuple a its.toArray
theorem sq_at {k : Bool} (I : L2.Inv X pins σ H s) (h : SQ X.K k H a xs) : ∃ its : List Value, Vals xs its ∧ HS k s.heap a its := by
  cases k with
  | true =>
    obtain ⟨its, r, p, _⟩ := I.list h
    exact ⟨its, r, p.isList⟩
  | false =>
    obtain ⟨its, r, p, _⟩ := I.tuple h
    exact ⟨its, r, p⟩
theorem sq_inj {k : Bool} (I : L2.Inv X pins σ H s) (h : SQ X.K k H a xs) (h' : SQ X.K k H a ys) : xs = ys := by
  cases k with
  | true => exact I.list_inj h h'
  | false => exact I.tuple_inj h h'
theorem hs_lt {k : Bool} {h : Heap} {its : List Value} (x : HS k h a its) : a < h.objs.size := by
  cases k with
  | true => obtain ⟨o, e, _⟩ := x; exact Heap.lt_size e
  | false => obtain ⟨o, e, _⟩ := x; exact Heap.lt_size e
theorem draws_of {prog : Program} {w : World} {A : Around} (k : Bool) (hh : A.handled = none) (it l : Addr) (hne : l ≠ it) (items : List Value) :
    Draws prog w A it [it, l] items.length (fun i v => items[i]? = some v) (fun i h => ITR k h it l i ∧ HS k h l items) := by
  cases k with
  | true =>
    have D := Draws.list (prog := prog) (w := w) hh it l hne items.toArray
    simp only [List.size_toArray, List.getElem?_toArray] at D
    exact D
  | false =>
    have D := Draws.tuple (prog := prog) (w := w) hh it l hne items.toArray
    simp only [List.size_toArray, List.getElem?_toArray] at D
    exact D
theorem itr_at {k : Bool} {h h' : Heap} {it l : Addr} {i : Nat} (x : ITR k h it l i) (e : ∀ o, h.get? it = some o → h'.get? it = some o) : ITR k h' it l i := by
  cases k with
  | true => exact Heap.IsListIter.at x e
  | false => exact Heap.IsTupleIter.at x e
theorem itr_obj {k : Bool} {h : Heap} {it l : Addr} {i : Nat} (x : ITR k h it l i) : ∃ o, h.get? it = some o ∧ ∀ v, o.data ≠ .cell v := by
  cases k with
  | true => obtain ⟨o, e, _, d⟩ := x; exact ⟨o, e, fun v q => by rw [d] at q; cases q⟩
  | false => obtain ⟨o, e, _, d⟩ := x; exact ⟨o, e, fun v q => by rw [d] at q; cases q⟩
end
/-- what must stand apart -/
structure Ap (z TI TO i1 i2 a b : Addr) : Prop where
  sep : ZipSep2 z TI TO i1 i2 [i1, a] [i2, b]
  a1 : a ≠ i1
  b2 : b ≠ i2
theorem turn_zipM {P : Program} {w : World} {K : PySem.W.Frag} {elts : List Expr} {kk : Nat} {tpos : Pos} {ka kb : Bool} {a b z TI TO i1 i2 : Addr} (D : Ap z TI TO i1 i2 a b) :
    Turn P w K (.Tuple elts kk tpos) (ItM K ka kb a b) [z, TI, TO, i1, i2] z (fun i h => IsZip h z TI TO .none ∧ IsTupOf2 h TI (.ref i1) (.ref i2) ∧ (∃ x y, IsTupOf2 h TO x y) ∧ ITR ka h i1 a i ∧ ITR kb h i2 b i) where
  mem := by simp
  obj := fun i h st c hc => by
    obtain ⟨hz, hTI, ⟨x, y, hTO⟩, h1, h2⟩ := st
    simp only [List.mem_cons, List.not_mem_nil, or_false] at hc
    rcases hc with q | q | q | q | q <;> subst q
    · exact ⟨_, hz, fun v q => nomatch q⟩
    · exact ⟨_, hTI, fun v q => nomatch q⟩
    · exact ⟨_, hTO, fun v q => nomatch q⟩
    · exact itr_obj h1
    · exact itr_obj h2
  keep := fun i h h' st k => by
    obtain ⟨hz, hTI, ⟨x, y, hTO⟩, h1, h2⟩ := st
    exact ⟨k z (by simp) _ hz, k TI (by simp) _ hTI, ⟨x, y, k TO (by simp) _ hTO⟩, itr_at h1 fun o q => k i1 (by simp) o q, itr_at h2 fun o q => k i2 (by simp) o q⟩
  item := by
    intro X hP hw hK hc i pins s σ H E I hf st hg
    subst hP hw hK
    obtain ⟨hz, hTI, hTO, h1, h2⟩ := st
    obtain ⟨xs, ys, x, y, hqx, hqy, hx, hy⟩ := hg
    obtain ⟨its, rv, p⟩ := sq_at I hqx
    obtain ⟨its2, rv2, p2⟩ := sq_at I hqy
    have hh : X.A.in1.handled = none := I.ok.hd hc
    have W := WalksT.zipD2 (prog := X.prog) (w := X.w) (A := X.A) D.sep (draws_of ka hh i1 a D.a1 its) (draws_of kb hh i2 b D.b2 its2)
    have l1 : i < xs.length := by
      rcases Nat.lt_or_ge i xs.length with h' | h'
      · exact h'
      · rw [List.getElem?_eq_none h'] at hx; cases hx
    have l2 : i < ys.length := by
      rcases Nat.lt_or_ge i ys.length with h' | h'
      · exact h'
      · rw [List.getElem?_eq_none h'] at hy; cases hy
    have e1 := rv.length
    have e2 := rv2.length
    refine W.item i s _ E (by omega) ⟨hz, hTI, hTO, ⟨h1, p⟩, ⟨h2, p2⟩⟩ fun T vals h' tk hv hT ht mid kp => ?_
    obtain ⟨u, u2, hu, hu2, rfl⟩ := hv
    refine ⟨_, rfl, W.go elts kk tpos i T { s with heap := h', toks := tk } _ E mid fun h'' st' kp' => ?_⟩
    obtain ⟨w1, ew, ru⟩ := rv.get hx
    obtain ⟨w2, ew2, ru2⟩ := rv2.get hy
    rw [hu] at ew; cases ew
    rw [hu2] at ew2; cases ew2
    have nT := W.apart i T h' mid
    have hT2 : h''.IsTuple T #[u, u2] := ht.at fun o e => kp' T o nT e
    obtain ⟨o, eo, co, n, d⟩ := hT2
    have new : ObjOk X.prog X.w (upd H T (.tup [x, y])) h'' T (.tup [x, y]) :=
      ⟨by show 2 ≤ sizeLine; decide, [u, u2], .cons ru (.cons ru2 .nil), ⟨o, eo, co, n, d⟩⟩
    have I1 : L2.Inv X pins σ (upd H T (.tup [x, y])) { s with heap := h'', toks := tk } :=
      I.turnedNew (t' := tk) (ch := [z, TI, TO, i1, i2]) (fun c o hb q => by
        have hb' : c ∉ [z, TO, i1, i2] := fun z' => hb (by
          simp only [List.mem_cons, List.not_mem_nil, or_false] at z' ⊢
          rcases z' with z' | z' | z' | z'
          · exact .inl z'
          · exact .inr (.inr (.inl z'))
          · exact .inr (.inr (.inr (.inl z')))
          · exact .inr (.inr (.inr (.inr z'))))
        exact kp' c o hb' (kp c o hb' q)) hf hT new
    obtain ⟨g1, g2, g3, ⟨g4, _⟩, ⟨g5, _⟩⟩ := st'
    refine ⟨.ref T, _, I1, rfl, ⟨T, x, y, rfl, I.hok.fresh hT, rfl, fun l hl => by rw [sq_inj I hl hqx]; exact hx, fun l hl => by rw [sq_inj I hl hqy]; exact hy⟩, ⟨g1, g2, g3, g4, g5⟩, fun c hcm => ?_⟩
    have hn := (hf c hcm).1
    have hlt : c < s.heap.objs.size := by
      simp only [List.mem_cons, List.not_mem_nil, or_false] at hcm
      rcases hcm with q | q | q | q | q <;> subst q
      · exact Heap.lt_size hz
      · exact Heap.lt_size hTI
      · obtain ⟨_, _, e⟩ := hTO; exact Heap.lt_size e
      · obtain ⟨o, e, _⟩ := itr_obj h1; exact Heap.lt_size e
      · obtain ⟨o, e, _⟩ := itr_obj h2; exact Heap.lt_size e
    rw [upd_ne (Nat.ne_of_lt (Nat.lt_of_lt_of_le hlt hT))]
    exact hn
  done := by
    intro X hP hw hK hc i pins s σ H E I hf st hg
    subst hP hw hK
    obtain ⟨hz, hTI, hTO, h1, h2⟩ := st
    obtain ⟨xs, ys, hqx, hqy, hend⟩ := hg
    obtain ⟨its, rv, p⟩ := sq_at I hqx
    obtain ⟨its2, rv2, p2⟩ := sq_at I hqy
    have hh : X.A.in1.handled = none := I.ok.hd hc
    have W := WalksT.zipD2 (prog := X.prog) (w := X.w) (A := X.A) D.sep (draws_of ka hh i1 a D.a1 its) (draws_of kb hh i2 b D.b2 its2)
    have e1 := rv.length
    have e2 := rv2.length
    have en : i = min its.length its2.length := by rw [hend, e1, e2]
    subst en
    refine W.done s _ E ⟨hz, hTI, hTO, ⟨h1, p⟩, ⟨h2, p2⟩⟩ fun h' tk kp => ⟨rfl, I.turnedL (t' := tk) (ch := [z, TI, TO, i1, i2]) (fun c o hb q => ?_) hf⟩
    have hb' : c ∉ [z, TO, i1, i2] := fun z' => hb (by
      simp only [List.mem_cons, List.not_mem_nil, or_false] at z' ⊢
      rcases z' with z' | z' | z' | z'
      · exact .inl z'
      · exact .inr (.inr (.inl z'))
      · exact .inr (.inr (.inr (.inl z')))
      · exact .inr (.inr (.inr (.inr z'))))
    exact kp c o hb' q
  self := fun A i s Q E st h => wpAny_pyIter_zip st.1 h
theorem begins_of (k : Bool) (l : Addr) (its : List Value) : ∃ o, Begins (.ref l) o (fun h => HS k h l its) ∧ ∀ h : Heap, ∀ N, h.get? N = some o → ITR k h N l 0 := by
  cases k with
  | true => exact ⟨_, begins_list l its.toArray, fun h N e => ⟨_, e, rfl, rfl⟩⟩
  | false => exact ⟨_, begins_tuple l its.toArray, fun h N e => ⟨_, e, rfl, rfl⟩⟩
def iZipM (K : PySem.W.Frag) (ta : TA) : TI := fun σ H R => ta σ H fun vs H1 => ∃ (ka kb : Bool) (a b : Addr) (xs ys : List V), vs = [.ref a, .ref b] ∧ SQ K ka H1 a xs ∧ SQ K kb H1 b ys ∧ R (ItM K ka kb a b) H1
theorem pi_zipM {X : Cx} {e e2 : Expr} {ta : TA} {p pos tpos : Pos} {elts : List Expr} {kk : Nat} (hg : Gl X "zip") (hm : X.mg "zip" = none) (ha : PA X [e, e2] ta)
    (hs : starEach [e, e2] X.env = (false, eval e X.env) :: starEach [e2] X.env := by rfl) (hpl : (backTo pos (starEach [e2] X.env)).any (·.1) = false := by rfl) :
    PI X (.Tuple elts kk tpos) (.Call (.Name "zip" p) [e, e2] [] pos) (iZipM X.K ta) := by
  refine ⟨fun pins s σ H R I h => ?_⟩
  refine Call_ (ld_blt I hg hm PyProof.Rows.boot_zip (PyProof.Rows.callWith_type1 (thn (ha.run pos pins s σ H _ I h) fun us s1 ⟨vs, H1, I1, r1, q1⟩ => ?_) hs hpl))
  obtain ⟨ka, kb, a, b, xs, ys, ex, hqx, hqy, q⟩ := q1
  subst ex
  cases r1 with
  | cons r rr =>
    cases rr with
    | cons r' rr =>
      cases rr
      cases r
      cases r'
      obtain ⟨its, rv, p1⟩ := sq_at I1 hqx
      obtain ⟨its2, rv2, p2⟩ := sq_at I1 hqy
      have la := hs_lt p1
      have lb := hs_lt p2
      obtain ⟨o1, B1, z1⟩ := begins_of ka a its
      obtain ⟨o2, B2, z2⟩ := begins_of kb b its2
      refine zip_begins2 B1 B2 p1 p2 fun h' hz hTI hTO h1 h2 hsz hk => wpAny_pyIter_zip hz ?_
      have I2 : L2.Inv X pins σ H1 { s1 with heap := h' } := I1.kept (t' := s1.toks) hk
      have sp : ZipSep2 (s1.heap.objs.size + 4) (s1.heap.objs.size + 2) (s1.heap.objs.size + 3) s1.heap.objs.size (s1.heap.objs.size + 1) [s1.heap.objs.size, a] [s1.heap.objs.size + 1, b] :=
        zip_sep2 (N := s1.heap.objs.size) (fp1 := [a]) (fp2 := [b]) (fun c hc => by simp only [List.mem_cons, List.not_mem_nil, or_false] at hc; subst hc; exact la) (fun c hc => by simp only [List.mem_cons, List.not_mem_nil, or_false] at hc; subst hc; exact lb)
      refine ⟨s1.heap.objs.size + 4, [s1.heap.objs.size + 4, s1.heap.objs.size + 2, s1.heap.objs.size + 3, s1.heap.objs.size, s1.heap.objs.size + 1], _, _, H1, rfl, I2, turn_zipM ⟨sp, Nat.ne_of_lt la, Nat.ne_of_lt (Nat.lt_succ_of_lt lb)⟩, ⟨hz, hTI, ⟨_, _, hTO⟩, z1 _ _ h1, z2 _ _ h2⟩, fun c hcm => ?_, q⟩
      have hle : s1.heap.objs.size ≤ c := by
        simp only [List.mem_cons, List.not_mem_nil, or_false] at hcm
        rcases hcm with q | q | q | q | q <;> subst q
        · exact Nat.le_add_right _ _
        · exact Nat.le_add_right _ _
        · exact Nat.le_add_right _ _
        · exact Nat.le_refl _
        · exact Nat.le_add_right _ _
      exact I1.fpOk hle (I1.hok.fresh hle)

section
variable {X : Cx} {ta : TTA}
/-- the items of a list or a tuple, and what must stay -/
inductive Sqn (G : GH) : T → List T → (GH → Prop) → Prop
  | tup (xs : List T) : Sqn G (.tup xs) xs (fun _ => True)
  | fl (xs : List T) : Sqn G (.fl xs) xs (fun _ => True)
  | ref {p : Addr} {xs : List T} : G p = some (.lst xs) → Sqn G (.ref p) xs (fun G' => G' p = some (.lst xs))
def izip (t : TTA) : TTI := fun st G RT => t st G fun vs G1 => ∃ x y xs ys kx ky, vs = [x, y] ∧ Sqn G1 x xs kx ∧ Sqn G1 y ys ky ∧ RT (List.zipWith (fun a b => T.tup [a, b]) xs ys) (fun G' => kx G' ∧ ky G') G1
theorem sqn_up {K : PySem.W.Frag} {H : Hp} {G : GH} {x : T} {xs : List T} {kx : GH → Prop} {v : V} (q : Sqn G x xs kx) (rg : RG K H G) (r : Rep K H x v) :
    ∃ (k : Bool) (a : Addr) (vs : List V), v = .ref a ∧ SQ K k H a vs ∧ ∀ H' G', Stay K H H' → RG K H' G' → kx G' → ∃ vs', SQ K k H' a vs' ∧ Reps K H' xs vs' := by
  cases q with
  | tup =>
    simp only [Rep] at r
    obtain ⟨a, vs, rfl, hs, r⟩ := r
    exact ⟨false, a, vs, rfl, hs, fun H' G' s rg' _ => ⟨vs, s.t _ _ hs, r.stay s⟩⟩
  | fl =>
    simp only [Rep] at r
    obtain ⟨a, vs, rfl, hs, r⟩ := r
    exact ⟨true, a, vs, rfl, hs.seq, fun H' G' s rg' _ => ⟨vs, (s.f _ _ hs).seq, r.stay s⟩⟩
  | ref e =>
    cases r
    obtain ⟨vs, hs, r⟩ := rg.lst e
    exact ⟨true, _, vs, rfl, .of hs, fun H' G' s rg' e' => let ⟨vs', h', r'⟩ := rg'.lst e'; ⟨vs', .of h', r'⟩⟩
theorem i_zip {elts : List Expr} {kk : Nat} {tpos : Pos} {e e2 : Expr} {p pos : Pos} (hg : Gl X "zip") (hm : X.mg "zip" = none) (ha : PA X [e, e2] (LA X.K ta))
    (hs : starEach [e, e2] X.env = (false, eval e X.env) :: starEach [e2] X.env := by rfl) (hpl : (backTo pos (starEach [e2] X.env)).any (·.1) = false := by rfl) :
    PI X (.Tuple elts kk tpos) (.Call (.Name "zip" p) [e, e2] [] pos) (LI X.K (izip ta)) := (pi_zipM hg hm ha hs hpl).imp fun σ H R => by
  rintro ⟨st, G, RT, rs, rg, q, k⟩
  refine ⟨st, G, _, rs, rg, q, fun ws vs G1 H1 rx rg1 s1 ⟨x, y, xs, ys, kx, ky, e, qx, qy, q1⟩ => ?_⟩
  subst e
  obtain ⟨v, w, rfl, r, r'⟩ := rx.of_two
  obtain ⟨ka, a, va, rfl, ha, fa⟩ := sqn_up qx rg1 r
  obtain ⟨kb, b, vb, rfl, hb, fb⟩ := sqn_up qy rg1 r'
  refine ⟨ka, kb, a, b, va, vb, rfl, ha, hb, k _ _ _ G1 H1 ⟨fun H2 G2 i t s rg2 kp e => ?_, fun H2 G2 i s rg2 kp hl => ?_⟩ rg1 s1 q1⟩
  · obtain ⟨vs1, g1, r1⟩ := fa H2 G2 s rg2 kp.1
    obtain ⟨vs2, g2, r2⟩ := fb H2 G2 s rg2 kp.2
    rw [List.getElem?_zipWith] at e
    cases ex : xs[i]? with
    | none => rw [ex] at e; cases e
    | some tx =>
      cases ey : ys[i]? with
      | none => rw [ex, ey] at e; cases e
      | some ty =>
        rw [ex, ey] at e
        cases e
        obtain ⟨v1, e1, q1⟩ := r1.get ex
        obtain ⟨v2, e2, q2⟩ := r2.get ey
        refine ⟨⟨vs1, vs2, v1, v2, g1, g2, e1, e2⟩, ?_⟩
        rintro x H' ⟨Ta, x1, x2, rfl, nT, rfl, f1, f2⟩
        have z1 := f1 _ g1
        have z2 := f2 _ g2
        rw [e1] at z1; cases z1
        rw [e2] at z2; cases z2
        exact ⟨rep_tup nT (.cons q1 (.one q2)), rg2.new nT, stay_upd (wr_none nT)⟩
  · obtain ⟨vs1, g1, r1⟩ := fa H2 G2 s rg2 kp.1
    obtain ⟨vs2, g2, r2⟩ := fb H2 G2 s rg2 kp.2
    exact ⟨vs1, vs2, g1, g2, by rw [hl, List.length_zipWith, r1.length, r2.length]⟩
end
end TL

namespace TL
open PySem PySem.Spec PyProof.Rows L2

abbrev TTO := TSt → GH → (Option Int → GH → Prop) → Prop
def LO (K : PySem.W.Frag) (τ : TTO) : TO := fun σ H Q => ∃ st G R, RS K H st σ ∧ RG K H G ∧ τ st G R ∧ ∀ b G' H', RG K H' G' → Stay K H H' → R b G' → Q b H'
def tpart (te : TTE) : TTO := fun st G R => te st G fun x G1 => ∃ i, x = .int i ∧ R (some i) G1
def tnopart : TTO := fun _ G R => R none G
def cutT (xs : List T) (lo hi : Option Int) : List T := (xs.drop (HT.sIx xs.length 0 lo)).take (HT.sIx xs.length xs.length hi - HT.sIx xs.length 0 lo)
def vsl (x : T) (lo hi : Option Int) (G : GH) (R : TK) : Prop := match x with
  | .tup xs => R (.tup (cutT xs lo hi)) G
  | .fl xs => ∀ l, G l = none → R (.ref l) (gupd G l (.lst (cutT xs lo hi)))
  | .ref p => ∃ xs, G p = some (.lst xs) ∧ ∀ l, G l = none → R (.ref l) (gupd G l (.lst (cutT xs lo hi)))
  | .str z => z.length ≤ sizeLine ∧ R (.str (cutS z lo hi)) G
  | _ => False
def tsl (te : TTE) (tl th : TTO) : TTE := fun st G R => te st G fun x G1 => tl st G1 fun l G2 => th st G2 fun u G3 => vsl x l u G3 R
section
variable {X : Cx} {e : Expr} {lo hi : Option Expr} {te : TTE} {tl th : TTO} {pos p2 : Pos}
theorem o_some {e : Expr} (h : PE X e (LE X.K te)) : PO X (some e) (LO X.K (tpart te)) := ⟨fun pins s σ H Q I hw => (po_some h).run pins s σ H Q I (by
  obtain ⟨st, G, R, rs, rg, q, k⟩ := hw
  refine ⟨st, G, _, rs, rg, q, fun x vx G1 H1 rx rg1 s1 ⟨i, e, q1⟩ => ?_⟩
  subst e
  exact ⟨i, rx, k _ G1 H1 rg1 s1 q1⟩)⟩
theorem o_none : PO X none (LO X.K tnopart) := ⟨fun pins s σ H Q I hw => po_none.run pins s σ H Q I (by
  obtain ⟨st, G, R, rs, rg, q, k⟩ := hw
  exact k none G H rg .refl q)⟩
theorem cut_up {K : PySem.W.Frag} {H : Hp} {xs : List T} {vs : List V} {lo hi : Option Int} (r : Reps K H xs vs) : Reps K H (cutT xs lo hi) (cutV vs lo hi) := by
  unfold cutT cutV
  rw [r.length]
  exact (r.drop _).take _
theorem w_slice (he : PE X e (LE X.K te)) (hl : PO X lo (LO X.K tl)) (hu : PO X hi (LO X.K th)) : PE X (.Subscript e (.Slice lo hi none p2) pos) (LE X.K (tsl te tl th)) := (pe_slice (sl_tupA.or (sl_list.or sl_str)) he hl hu).imp fun σ H Q => by
  rintro ⟨st, G, R, rs, rg, q, k⟩
  refine ⟨st, G, _, rs, rg, q, fun x vx G1 H1 rx rg1 s1 q1 => ?_⟩
  refine ⟨st, G1, _, rs.stay s1, rg1, q1, fun l G2 H2 rg2 s2 q2 => ?_⟩
  refine ⟨st, G2, _, rs.stay (s1.trans s2), rg2, q2, fun u G3 H3 rg3 s3 q3 => ?_⟩
  have rx := rx.stay (s2.trans s3)
  have k := k.stay (s1.trans (s2.trans s3))
  cases x with
  | tup xs =>
    simp only [Rep] at rx
    obtain ⟨a, vs, rfl, hs, r⟩ := rx
    refine .inl ⟨a, vs, rfl, hs, fun hw => ?_, fun hw p hp => ?_⟩
    · refine k _ _ G3 H3 ?_ rg3 .refl q3
      simp only [Rep]
      refine ⟨a, vs, rfl, hs, ?_⟩
      have e : cutT xs l u = xs := by
        unfold cutT
        rw [r.length] at hw
        rw [hw.1, hw.2]
        simp
      rw [e]
      exact r
    · exact k _ _ G3 _ (rep_tup hp (cut_up r)) (rg3.new hp) (stay_upd (wr_none hp)) q3
  | fl xs =>
    simp only [Rep] at rx
    obtain ⟨a, vs, rfl, hs, r⟩ := rx
    exact .inr (.inl ⟨a, vs, rfl, hs.seq, fun p hp => k (.ref p) _ _ _ rfl (rg3.newL hp (cut_up r)) (stay_upd (wr_none hp)) (q3 p (rg3.free hp))⟩)
  | ref p =>
    cases rx
    obtain ⟨xs, e, q3⟩ := q3
    obtain ⟨vs, hs, r⟩ := rg3.lst e
    exact .inr (.inl ⟨_, vs, rfl, .of hs, fun p hp => k (.ref p) _ _ _ rfl (rg3.newL hp (cut_up r)) (stay_upd (wr_none hp)) (q3 p (rg3.free hp))⟩)
  | str z =>
    cases rx
    exact .inr (.inr ⟨z, rfl, q3.1, k (.str _) _ G3 H3 rfl rg3 .refl q3.2⟩)
  | _ => exact q3.elim
end

theorem adjust_rev (n : Nat) : Builtin.Slice.sliceAdjust none none (-1) (n : Int) = ((n : Int) - 1, -1) := by
  simp [Builtin.Slice.sliceAdjust]
theorem places_rev (n : Nat) : Builtin.Slice.slicePlaces ((n : Int) - 1) (-1) (-1) = n := by
  simp only [Builtin.Slice.slicePlaces]
  by_cases h : n = 0
  · subst h; rfl
  · have h1 : ¬ ((-1 : Int) > 0) := by decide
    have h2 : ((n : Int) - 1 > -1) := by omega
    rw [if_neg h1, if_pos h2]
    have : ((n : Int) - 1 - -1 - 1) / - -1 + 1 = n := by
      rw [Int.neg_neg, Int.ediv_one]; omega
    rw [this]
    omega
theorem fm_congr {α β : Type} {f g : α → Option β} : ∀ {l : List α}, (∀ k ∈ l, f k = g k) → l.filterMap f = l.filterMap g
  | [], _ => rfl
  | a :: l, h => by
    simp only [List.filterMap_cons, h a (by simp), fm_congr (l := l) fun k hk => h k (by simp [hk])]
theorem pick_rev (xs : Array Value) : ((List.range xs.size).filterMap fun (k : Nat) => xs[((xs.size : Int) - 1 + (k : Int) * (-1)).toNat]?).toArray = xs.toList.reverse.toArray := by
  congr 1
  rw [← PySem.W.krv_all xs, ← List.filterMap_reverse, ← PySem.W.krv_range, List.filterMap_map]
  refine fm_congr fun k hk => ?_
  have := List.mem_range.mp hk
  show xs[((xs.size : Int) - 1 + (k : Int) * (-1)).toNat]? = xs[xs.size - 1 - k]?
  congr 1
  omega
section
variable {prog : Program} {w : World} {A : Around} {E : Value → Shared → Prop} {s : Shared}
theorem sliceApplied_rev {sl : Addr} {vs : Value} {n : Nat} {Q : Int × Int × Nat → Shared → Prop} (hs : s.heap.IsSliceOf sl .none .none vs) (ps : IsPart vs (some (-1)))
    (h : Q ((n : Int) - 1, -1, n) s) : wpAny (model prog w) A (Builtin.Slice.sliceApplied (.ref sl) (pure (n : Int))) Q E s := by
  obtain ⟨os, hos, hcs, hds⟩ := id hs
  unfold Builtin.Slice.sliceApplied Builtin.Slice.sliceFields
  refine wpAny_bind (wpAny_bind (wpAny_field hos hds (x := .none) rfl (wpAny_bind (wpAny_field hos hds (x := .none) rfl (wpAny_bind (wpAny_field hos hds (x := vs) rfl (wpAny_pure ?_)))))))
  refine wpAny_bind (HT.slicePart_ ps ?_)
  show wpAny _ _ (if ((-1 : Int) == 0) = true then _ else _) _ _ s
  rw [if_neg (by decide)]
  refine wpAny_bind (HT.slicePart_ .none (wpAny_bind (HT.slicePart_ .none (wpAny_bind (wpAny_pure ?_)))))
  show wpAny _ _ (match Builtin.Slice.sliceAdjust none none (-1) (n : Int) with | (lo, hi) => pure (lo, (-1 : Int), Builtin.Slice.slicePlaces lo hi (-1))) _ _ s
  rw [adjust_rev]
  show wpAny _ _ (pure (((n : Int) - 1), (-1 : Int), Builtin.Slice.slicePlaces ((n : Int) - 1) (-1) (-1))) _ _ s
  rw [places_rev]
  exact wpAny_pure h
theorem getItem_tuple_rev {t sl : Addr} {xs : Array Value} {vs : Value} {Q : Value → Shared → Prop} (ht : IsTup s.heap t xs) (hs : s.heap.IsSliceOf sl .none .none vs) (ps : IsPart vs (some (-1)))
    (h : Q (.ref s.heap.objs.size) { s with heap := s.heap.push { cls := .type "tuple", data := .seq xs.toList.reverse.toArray } })
    (hsz : xs.size ≤ sizeLine) : wpAny (model prog w) A (getItem (.ref t) (.ref sl)) Q E s := by
  have hok : sizeOk (.seq xs.toList.reverse.toArray) := by
    show xs.toList.reverse.toArray.size ≤ sizeLine
    simpa using hsz
  have hTs : s.TypeIs (.ref sl) "slice" := let ⟨os, a, b, _⟩ := hs; ⟨os, a, b⟩
  unfold getItem
  try with_reducible refine wpAny_holding ?_
  first | refine wpAny_bind (wpAny_pure ?_) | skip
  refine wpAny_bind (wpAny_sequenceKey ht.typeIs (by decide) ?_)
  refine wpAny_bind (wpAny_callSpecial?_slot (name := Str.ofString "__getitem__") ht.typeIs PyProof.Rows.slot_tuple_getitem
    (wpAny_call_entry PyProof.Rows.slot_tuple_getitem ht.typeIs entry_tuple_getitem ?_ (args_tuple_getitem _ _)))
  show wpAny _ _ (Builtin.Tuple.tupleItemsOf (.ref t) >>= _) _ _ s
  refine wpAny_bind (tupleItemsOf_ ht (wpAny_bind (wpAny_typeOf hTs ?_)))
  rw [if_pos (by decide)]
  refine wpAny_bind (sliceApplied_rev hs ps ?_)
  have hno : ¬ (((xs.size : Int) - 1 == 0 && (-1 : Int) == 1 && xs.size == xs.size) = true) := by
    intro q
    rw [Bool.and_eq_true, Bool.and_eq_true] at q
    exact absurd q.1.2 (by decide)
  show wpAny _ _ (if ((xs.size : Int) - 1 == 0 && (-1 : Int) == 1 && xs.size == xs.size) = true then _ else _) _ _ s
  rw [if_neg hno, pick_rev]
  first
    | exact wpAny_bind (m := Builtin.Tuple.tupleExact _) (wpAny_newObj_type (wpAny_pure ⟨_, rfl, wpAny_pure h⟩) hok)
    | exact wpAny_bind (m := Builtin.Tuple.tupleExact _) (wpAny_newObj_type (wpAny_bind (wpAny_pure (wpAny_pure ⟨_, rfl, wpAny_pure h⟩))) hok)
    | exact wpAny_bind (wpAny_bind (m := Builtin.Tuple.tupleExact _) (wpAny_newObj_type (wpAny_pure (wpAny_pure ⟨_, rfl, wpAny_pure h⟩)) hok))
    | exact wpAny_bind (wpAny_bind (m := Builtin.Tuple.tupleExact _) (wpAny_newObj_type (wpAny_pure ⟨_, rfl, wpAny_pure h⟩) hok))
end
def tRevA (K : PySem.W.Frag) (te : TE) : TE := fun σ H Q => te σ H fun x H1 => ∃ a xs, x = .ref a ∧ ((SqL K H1 a xs ∧ ∀ p, H1 p = none → Q (.ref p) (upd H1 p (.lst xs.reverse))) ∨ (SqT K H1 a xs ∧ ∀ p, H1 p = none → Q (.ref p) (upd H1 p (.tup xs.reverse))))
theorem pe_revA {X : Cx} {e : Expr} {te : TE} {k : Nat} {p1 p2 p3 pos : Pos} (he : PE X e te) : PE X (.Subscript e (.Slice none none (some (.UnaryOp .USub (.Constant (.int 1) k p1) p2)) p3) pos) (tRevA X.K te) := by
  refine ⟨fun pins s σ H Q I h => ?_⟩
  refine Subscript_ (thn (he.run pins s σ H _ I h) fun v s1 ⟨x, H1, I1, r1, a, xs, ex, hx⟩ => ?_)
  subst ex
  cases r1
  have hst : PO X (some (.UnaryOp .USub (.Constant (.int 1) k p1) p2)) (tPart (tUn (rU fun i => .int (-i)) (tC (.int 1)))) := po_some (pe_un un_neg pe_int)
  refine wpAny_Slice ?_
  refine thn (po_none.run pins s1 σ H1 (fun o H2 => o = none ∧ H2 = H1) I1 ⟨rfl, rfl⟩) fun vl s2 ⟨l, H2, I2, pl, el, e2⟩ => ?_
  subst el e2
  refine thn (po_none.run pins s2 σ H2 (fun o H3 => o = none ∧ H3 = H2) I2 ⟨rfl, rfl⟩) fun vu s3 ⟨u, H3, I3, pu, eu, e3⟩ => ?_
  subst eu e3
  refine thn (hst.run pins s3 σ H3 (fun o H4 => o = some (-1) ∧ H4 = H3) I3 ⟨1, rfl, -1, rfl, rfl, rfl⟩) fun vs s4 ⟨o, H4, I4, ps, eo, e4⟩ => ?_
  subst eo e4
  cases pl
  cases pu
  have I5 : Inv X pins σ H4 { s4 with heap := s4.heap.push { cls := .type "slice", data := .fields #[.none, .none, vs] } } := I4.kept (t' := s4.toks) fun b ob q => Heap.get?_push_of_some _ q
  show wpAny (model X.prog X.w) X.A (subscriptTail e (.Slice none none (some (.UnaryOp .USub (.Constant (.int 1) k p1) p2)) p3) (.ref a) (.ref s4.heap.objs.size)) (EP X pins σ Q) X.xe { s4 with heap := s4.heap.push { cls := .type "slice", data := .fields #[.none, .none, vs] } }
  rcases hx with ⟨hx, q⟩ | ⟨hx, q⟩
  · obtain ⟨its, r, ht, hz⟩ := I5.list hx
    have hlen := r.length
    refine tail_any (ops := [.ref a, .ref s4.heap.objs.size]) ht.isList.typeIs (PySem.slot_list_getitem.lookup) ?_ (by with_unfolding_all rfl)
    refine wpAny_getItem_list_slice ht.isList (Heap.IsSliceOf.new _ .none .none vs) .none .none ps (by decide) ?_ (by rw [List.size_toArray]; omega)
    rw [PySem.W.krv_pick]
    refine ⟨.ref _, _, I5.laid (t' := s4.toks) (o := .lst xs.reverse) (fun b ob q => Heap.get?_push_of_some _ q) (Nat.le_refl _) ?_, rfl, q _ (I5.hok.fresh (Nat.le_refl _))⟩
    exact ⟨by rw [List.length_reverse]; exact hz, _, 0, r.reverse, Heap.get?_push_size _ rfl⟩
  · obtain ⟨its, r, ht, hz⟩ := I5.tuple hx
    have hlen := r.length
    refine tail_any (ops := [.ref a, .ref s4.heap.objs.size]) ht.typeIs (PyProof.Rows.slot_tuple_getitem.lookup) ?_ (by with_unfolding_all rfl)
    refine getItem_tuple_rev ht (Heap.IsSliceOf.new _ .none .none vs) ps ?_ (by rw [List.size_toArray]; omega)
    refine ⟨.ref _, _, I5.laid (t' := s4.toks) (o := .tup xs.reverse) (fun b ob q => Heap.get?_push_of_some _ q) (Nat.le_refl _) ?_, rfl, q _ (I5.hok.fresh (Nat.le_refl _))⟩
    exact ⟨by rw [List.length_reverse]; exact hz, _, r.reverse, IsTup.new _ _⟩
def trev (te : TTE) : TTE := fun st G R => te st G fun x G1 => match x with
  | .tup xs => R (.tup xs.reverse) G1
  | .fl xs => ∀ l, G1 l = none → R (.ref l) (gupd G1 l (.lst xs.reverse))
  | .ref p => ∃ xs, G1 p = some (.lst xs) ∧ ∀ l, G1 l = none → R (.ref l) (gupd G1 l (.lst xs.reverse))
  | _ => False
theorem w_revs {X : Cx} {e : Expr} {te : TTE} {k : Nat} {p1 p2 p3 pos : Pos} (he : PE X e (LE X.K te)) : PE X (.Subscript e (.Slice none none (some (.UnaryOp .USub (.Constant (.int 1) k p1) p2)) p3) pos) (LE X.K (trev te)) := (pe_revA he).imp fun σ H Q => by
  rintro ⟨st, G, R, rs, rg, q, k⟩
  refine ⟨st, G, _, rs, rg, q, fun x vx G1 H1 rx rg1 s1 q1 => ?_⟩
  have k := k.stay s1
  split at q1
  · simp only [Rep] at rx
    obtain ⟨a, vs, rfl, hs, r⟩ := rx
    exact ⟨a, vs, rfl, .inr ⟨hs, fun p hp => k _ _ G1 _ (rep_tup hp r.reverse) (rg1.new hp) (stay_upd (wr_none hp)) q1⟩⟩
  · simp only [Rep] at rx
    obtain ⟨a, vs, rfl, hs, r⟩ := rx
    exact ⟨a, vs, rfl, .inl ⟨hs.seq, fun p hp => k (.ref p) _ _ _ rfl (rg1.newL hp r.reverse) (stay_upd (wr_none hp)) (q1 p (rg1.free hp))⟩⟩
  · cases rx
    obtain ⟨xs, e, q1⟩ := q1
    obtain ⟨vs, hs, r⟩ := rg1.lst e
    exact ⟨_, vs, rfl, .inl ⟨.of hs, fun p hp => k (.ref p) _ _ _ rfl (rg1.newL hp r.reverse) (stay_upd (wr_none hp)) (q1 p (rg1.free hp))⟩⟩
  · exact q1.elim
end TL

namespace TL
open PySem PySem.Spec PyProof.Rows L2
open AutoSeq1 in
set_option maxRecDepth 8000 in
theorem extend_tup (l : Addr) (xs : Array Value) (n : Nat) (b : Addr) (ys : Array Value) (m : Nat) (dd : Option Addr) (sl : Array (Option Value)) (h0 : ¬(!xs.isEmpty && Builtin.List.listTooLong (xs.size + ys.size)) = true) (h1 : xs.size ≤ sizeLine) (h2 : xs.size + ys.size ≤ sizeLine + 1) :
    Meets (Builtin.«list.extend» ⟨[.ref l, .ref b], []⟩) (fun _ R s => s.heap.get? l = some { cls := .type "list", dict := none, data := .seq xs n, slots := #[] } ∧ s.heap.get? b = some { cls := .type "tuple", dict := dd, data := .seq ys m, slots := sl } ∧
      R (.ok (.ret Value.none)) { s with heap := s.heap.update l (Obj.mapSeq fun x => x ++ ys), toks := s.toks }) :=
  .of_wp fun prog w A R s h => by
    obtain ⟨hp, g, d, tk, os⟩ := s
    obtain ⟨hl, hb, h⟩ := h
    have f1 := idx_int
    have f2 := AutoSeq1.sub_tuple_tuple
    have f3 := AutoSeq1.sub_list_list
    have f4 := AutoSeq1.sub_tuple_list
    have f5 := AutoSeq1.sub_list_tuple
    have hz' : (xs ++ ys).size ≤ sizeLine + 1 := by rw [Array.size_append]; exact h2
    wp_walk using (wpAny_updateSeq hl rfl (hz := h1) (_hz' := hz')), wpAny_loadPart' hl, wpAny_loadPart' hb
    exact ⟨_, rfl, h⟩
def rExtA (K : PySem.W.Frag) : V → List V → Hp → VK → Prop := fun x vs H Q => ∃ l b xs zs, x = .ref l ∧ vs = [.ref b] ∧ H l = some (.lst xs) ∧ (H b = some (.lst zs) ∨ SqT K H b zs) ∧ xs.length + zs.length ≤ sizeLine ∧ Q .non (upd H l (.lst (xs ++ zs)))
theorem mt_extA {X : Cx} : MtM X "list.extend" (rExtA X.K) := by
  intro pins s σ H x vs v us Q I rx rv h
  obtain ⟨l, b, xs, zs, rfl, rfl, hH, hB, hz, q⟩ := h
  rcases hB with hB | hB
  · exact mt_extend pins s σ H _ _ v us Q I rx rv ⟨l, b, xs, zs, rfl, rfl, hH, hB, hz, q⟩
  · cases rx
    obtain ⟨u, rfl, ru⟩ := rv.one
    cases ru
    obtain ⟨z, its, n, r, hl, e⟩ := I.lstM hH
    obtain ⟨its2, r2, ⟨⟨cls, dd, data, sl⟩, e2, hc, m, hd⟩, hl2⟩ := I.tuple hB
    simp only at hc hd
    subst hc hd
    have len1 := r.length
    have len2 := r2.length
    have hsz : its.toArray.size + its2.toArray.size ≤ sizeLine := by rw [List.size_toArray, List.size_toArray]; omega
    have hlong : ¬ (!its.toArray.isEmpty && Builtin.List.listTooLong (its.toArray.size + its2.toArray.size)) = true := by
      rw [notLongL hsz, Bool.and_false]
      exact Bool.false_ne_true
    refine call_meets F.slot_list_extend ⟨_, e, rfl⟩ F.entry_list_extend (F.args_list_extend_2 _ _)
      (extend_tup l its.toArray n b its2.toArray m dd sl hlong (by rw [List.size_toArray]; omega) (by omega)) ⟨e, e2, ?_⟩
    refine ⟨.non, _, I.lset (its' := its ++ its2) hH e (by simp) (r.append r2) ?_, rfl, q⟩
    rw [List.length_append]
    omega
def mextend : T → List T → GH → TK → Prop := fun x xs G R => ∃ p ys zs, x = .ref p ∧ (xs = [.tup zs] ∨ ∃ q, xs = [.ref q] ∧ G q = some (.lst zs)) ∧ G p = some (.lst ys) ∧ ys.length + zs.length ≤ sizeLine ∧ R .non (gupd G p (.lst (ys ++ zs)))
theorem up_extend {K : PySem.W.Frag} : UpM K mextend (rExtA K) := by
  rintro x vx xs vs G H R Q rx rxs rg ⟨p, ys, zs, rfl, hx, e, hz, q⟩ k
  cases rx
  obtain ⟨ws, h1, r1⟩ := rg.lst e
  rcases hx with rfl | ⟨q', rfl, e'⟩
  · obtain ⟨v, rfl, r⟩ := rxs.of_one
    simp only [Rep] at r
    obtain ⟨a, va, rfl, hs, r⟩ := r
    exact ⟨_, a, ws, va, rfl, rfl, h1, .inr hs, by rw [r1.length, r.length]; exact hz, k .non .non _ _ rfl (rg.setL h1 (r1.append r)) (stay_upd (wr_lst h1)) q⟩
  · obtain ⟨v, rfl, r⟩ := rxs.of_one
    cases r
    obtain ⟨va, h2, r⟩ := rg.lst e'
    exact ⟨_, _, ws, va, rfl, rfl, h1, .inl h2, by rw [r1.length, r.length]; exact hz, k .non .non _ _ rfl (rg.setL h1 (r1.append r)) (stay_upd (wr_lst h1)) q⟩
theorem w_extend {X : Cx} {o e : Expr} {to : TTE} {t : TTA} {apos cpos : Pos} (ho : PE X o (LE X.K to)) (ha : PA X [e] (LA X.K t)) (hbase : attributeBase o "extend" X.env (eval o X.env) = eval o X.env := by rfl)
    (hfew : ((backTo cpos (starEach [e] X.env)).all (fun x => !x.1) && (backToKw cpos (keywordEach [] X.env)).all (fun x => x.1.isSome) && decide (([e] : List Expr).length + ([] : List Keyword).length + (if ([] : List Keyword).isEmpty then 0 else 1) < 30)) = true := by rfl)
    (hline : (apos.endLine == cpos.line) = true := by rfl) (hs : starEach [e] X.env = (false, eval e X.env) :: starEach [] X.env := by rfl) (hplain : (backTo cpos (starEach [] X.env)).any (·.1) = false := by rfl) :
    PE X (.Call (.Attribute o "extend" apos) [e] [] cpos) (LE X.K (tmeth mextend to t)) :=
  (pe_bm PySem.F.plainAttrs_list PySem.F.slot_list_extend PySem.F.type_list_extend mt_extA ho ha hbase hfew hline hs hplain).imp fun _ _ _ => LE_bm up_extend

/-- for k in d; d is not changed within -/
def lockD (p : Addr) (kvs : List (Key × T)) (r : HO) (D : TEnds) : TEnds :=
  ⟨fun st G => G p = some (.dKr kvs r) ∧ D.nx st (gupd G p (.dK kvs)), fun t G => G p = some (.dKr kvs r) ∧ D.rt t (gupd G p (.dK kvs)), fun st G => G p = some (.dKr kvs r) ∧ D.bk st (gupd G p (.dK kvs)), fun st G => G p = some (.dKr kvs r) ∧ D.ct st (gupd G p (.dK kvs))⟩
def tforD (i : Nat) (g : TTG) (tb : TTS) : TTS := fun D st G => ∃ p kvs, st[i]? = some (some (.ref p)) ∧ G p = some (.dK kvs) ∧ ∀ r,
  forGo (fun G' => G' p = some (.dKr kvs r)) g tb (lockD p kvs r D) (kvs.map fun kv => kT kv.1) st (gupd G p (.dKr kvs r))
theorem fits_keys {K : PySem.W.Frag} {H : Hp} {p : Addr} {kvs : List (Key × T)} {ws : List (Key × V)} {od : Obj} (r : KVR K H kvs ws) :
    Fits K (Itk p od ws) (kvs.map fun kv => kT kv.1) (fun G' => G' p = some (.dKr kvs (.frz od (.dK ws)))) H := by
  refine ⟨fun H1 G i t s rg kp e => ?_, fun H1 G i s rg kp hl => ⟨(rg p _ kp).1, by rw [r.length]; simpa using Nat.le_of_eq hl.symm⟩⟩
  rw [List.getElem?_map] at e
  cases ek : kvs[i]? with
  | none => rw [ek] at e; cases e
  | some kv =>
    rw [ek] at e
    cases e
    have hl : i < ws.length := by
      rw [r.length]
      rcases Nat.lt_or_ge i kvs.length with h' | h'
      · exact h'
      · rw [List.getElem?_eq_none h'] at ek; cases ek
    refine ⟨⟨(rg p _ kp).1, hl⟩, ?_⟩
    rintro x H' ⟨rfl, k, v, e1, rfl⟩
    have e2 : (kvs.map fun kv => kT kv.1)[i]? = some (kT kv.1) := by rw [List.getElem?_map, ek]; rfl
    obtain ⟨v2, e3, r2⟩ := (reps_keys r).get e2
    rw [List.getElem?_map, e1] at e3
    cases e3
    exact ⟨by
      have := r2.stay s
      exact this, rg, .refl⟩
theorem s_forD {X : Cx} {i : Nat} {tg iter : Expr} {g : TTG} {tb : TTS} {body : List Stmt} {pos : Pos} (hp : PassesOwn (model X.prog X.w) X.A X.env X.xe) (hc : X.calm = true) (hi : PE X iter (tVar i)) (hg : PG X tg (LG X.K g)) (hb : PSs X body (LS X.K tb))
    (hs : ∀ x, foldedSetIterable iter X.env x = pure x := by intro _; rfl) : PS X (.For tg iter body [] pos) (LS X.K (tforD i g tb)) := (ps_lock (ps_for hp hc (pi_keys hi) hg hb hs)).imp fun D σ H => by
  rintro ⟨st, G, R, rs, rg, ⟨p, kvs, e1, e2, q⟩, k⟩
  obtain ⟨v, e3, rv⟩ := rs.2 i _ e1
  cases rv
  obtain ⟨ws, h1, r⟩ := rg.dK e2
  refine ⟨p, .dK ws, h1, True.intro, fun od => ?_⟩
  have s1 : Stay X.K H (upd H p (.frz od (.dK ws))) := stay_upd (wr_dK h1)
  have rg1 : RG X.K (upd H p (.frz od (.dK ws))) (gupd G p (.dKr kvs (.frz od (.dK ws)))) := rg.put (wr_dK h1) ⟨upd_same, ws, .inr ⟨od, rfl⟩, r.stay s1⟩
  refine ⟨.ref p, e3, p, od, rfl, .inl ⟨ws, upd_same, for_core (fits_keys (r.stay s1)) (rs.stay s1) rg1 (q (.frz od (.dK ws))) ?_⟩⟩
  have un : ∀ {G' : GH} {H' : Hp}, RG X.K H' G' → Stay X.K (upd H p (.frz od (.dK ws))) H' → G' p = some (.dKr kvs (.frz od (.dK ws))) → H' p = some (.frz od (.dK ws)) ∧ Stay X.K H' (upd H' p (.dK ws)) ∧ RG X.K (upd H' p (.dK ws)) (gupd G' p (.dK kvs)) := fun {G' H'} rg' s' e' => by
    obtain ⟨h2, ws2, h3, r3⟩ := rg' p _ e'
    have w : Wr (H' p) := by rw [h2]; exact True.intro
    have s2 : Stay X.K H' (upd H' p (.dK ws)) := stay_upd w
    refine ⟨h2, s2, rg'.put w ⟨ws, upd_same, (r.stay s1).stay (s'.trans s2)⟩⟩
  refine ⟨?_, ?_, ?_, ?_⟩
  · rintro st' σ' G' H' rs' rg' s' ⟨e', q'⟩
    obtain ⟨h2, s2, rg2⟩ := un rg' s' e'
    exact ⟨h2, k.nx st' σ' _ _ (rs'.stay s2) rg2 (s1.trans (s'.trans s2)) q'⟩
  · rintro t v G' H' rv rg' s' ⟨e', q'⟩
    obtain ⟨h2, s2, rg2⟩ := un rg' s' e'
    exact ⟨h2, k.rt t v _ _ (rv.stay s2) rg2 (s1.trans (s'.trans s2)) q'⟩
  · rintro st' σ' G' H' rs' rg' s' ⟨e', q'⟩
    obtain ⟨h2, s2, rg2⟩ := un rg' s' e'
    exact ⟨h2, k.bk st' σ' _ _ (rs'.stay s2) rg2 (s1.trans (s'.trans s2)) q'⟩
  · rintro st' σ' G' H' rs' rg' s' ⟨e', q'⟩
    obtain ⟨h2, s2, rg2⟩ := un rg' s' e'
    exact ⟨h2, k.ct st' σ' _ _ (rs'.stay s2) rg2 (s1.trans (s'.trans s2)) q'⟩
end TL

namespace TL
open PySem PySem.Spec PyProof.Rows L2
/-- nothing is being shown around here -/
abbrev Qt (A : Around) : Prop := A.guards = some []
/-- room for k calls, one in the other -/
structure Room (k : Nat) (A : Around) : Prop where
  hd : A.handled = none
  dp : A.depth + k + 25 < recursionLimit
  un : A.units + 3 * k + 1500 < cLine
theorem Room.mono {j k : Nat} {A : Around} (r : Room k A) (h : j ≤ k) : Room j A := ⟨r.hd, by have := r.dp; omega, by have := r.un; omega⟩
theorem Room.deeper {k : Nat} {A : Around} (r : Room (k + 1) A) (env : Env) : Room k (A.deeper env) :=
  ⟨r.hd, by have := r.dp; show A.depth + 1 + k + 25 < _; omega, by have := r.un; show A.units + 3 + 3 * k + 1500 < _; omega⟩
theorem Room.depth {k : Nat} {A : Around} (r : Room k A) : A.depth < recursionLimit := by have := r.dp; omega
theorem Room.units {k : Nat} {A : Around} (r : Room k A) : A.units + 64 < cLine := by have := r.un; omega
/-- the hand layer's room -/
theorem Room.b {k : Nat} {A : Around} (r : Room k A) : L2.Room 4 A := ⟨r.hd, by have := r.dp; omega, by have := r.un; omega⟩
/-- a def's promise, kept wherever nothing is being shown -/
structure FnG (P : Program) (w : World) (K : PySem.W.Frag) (mg : Str → Option Value) (base : Heap) (k : Nat) (f : Addr) (fd : FuncData) (ps : List Str) (sp : Sp) : Prop where
  len : ∀ vs H Q E, sp vs H Q E → vs.length = ps.length
  run : ∀ A, Room k A → Qt A → ∀ outer s H, Env0 P w K mg base A outer s H → ∀ (args : Args) us vs, BindsTo s fd args (ps.zip us) → Vals vs us → ∀ Q E, sp vs H Q E →
    codeAny (model P w) A (.call (.ref f) args) (CR CX0 outer P w H s Q E) s
theorem FnG.imp {P : Program} {w : World} {K : PySem.W.Frag} {mg : Str → Option Value} {base : Heap} {k : Nat} {f : Addr} {fd : FuncData} {ps : List Str} {sp sp' : Sp} (F : FnG P w K mg base k f fd ps sp)
    (h : ∀ vs H Q E, sp' vs H Q E → sp vs H Q E) : FnG P w K mg base k f fd ps sp' :=
  ⟨fun vs H Q E q => F.len vs H Q E (h _ _ _ _ q), fun A hr hg outer s H e0 args us vs hb hv Q E hs => F.run A hr hg outer s H e0 args us vs hb hv Q E (h _ _ _ _ hs)⟩
section
variable {X : Cx} {k : Nat} {f : Addr} {fd : FuncData} {ps : List Str} {sp : Sp} {x : Str} {p pos : Pos} {e : Expr} {es : List Expr} {t : TA}
theorem FnG.at {pins : List (Addr × Obj)} {σ : L2.St} {H : Hp} {s : Shared} {Q : VK} {us : List Value} {vs : List V} (F : FnG X.prog X.w X.K X.mg X.base k f fd ps sp) (hr : Room k X.A) (hq : Qt X.A) (hb : Binds X.K fd ps [])
    (I : Inv X pins σ H s) (r : Vals vs us) (h : sp vs H Q fun _ _ _ => False) : wpAny (model X.prog X.w) X.A (call (.ref f) us) (EP X pins σ Q) X.xe s := by
  have hl : us.length = ps.length := r.length ▸ F.len _ _ _ _ h
  have bd : BindsTo s fd ⟨us, []⟩ (ps.zip us) := by
    have := hb s us I.kIn (by rw [List.append_nil]; exact hl)
    rwa [List.append_nil] at this
  have run := F.run X.A hr hq X.stack s H I.env0 ⟨us, []⟩ us vs bd r Q _ h
  refine wpAny_call (codeAny_mono run fun r s' hq => ?_)
  match r, hq with
  | .error e, hq => exact False.elim hq
  | .ok (.ret u), hq => exact I.after hq
end
/-- the locals' kinds, as a new frame wants them -/
theorem kinds_of {sc : Scope} {N ps : List Str} {n : Nat} {us : List Value} (S : FnScope N ps sc) (y : Str × Value) (hy : y ∈ ps.zip us) : sc.names.lookup y.1 = some .local ∨ (sc.names.lookup y.1 = some .cell ∧ ((cellsFrom n sc.names []).lookup y.1).isSome = true) := by
  obtain ⟨a, b⟩ := y
  refine (S.par a (List.of_mem_zip hy).1).imp id fun q => ⟨q, ?_⟩
  exact PySem.W.cellsFrom_some _ _ _ (.inl q)
theorem FnG.of {P : Program} {w : World} {K : PySem.W.Frag} {mg : Str → Option Value} {base : Heap} {k : Nat} {f : Addr} {nm ql : Str} {ar : Arguments} {bd : List Stmt} {sc : Scope} {v1 v2 v3 v4 cdv v5 v6 : Value} {o1 o2 : Option Addr}
    {sl : Array (Option Value)} {N ps : List Str} {sp : Sp} (lk : K.lookup f = some ⟨v6, o2, .func (PySem.W.fnOf nm ql ar bd sc v1 v2 v3 v4 o1 cdv v5), sl⟩) (hc : PySem.W.codeIn K cdv ql = true) (S : FnScope N ps sc) (len : ∀ vs H Q E, sp vs H Q E → vs.length = ps.length)
    (body : ∀ A outer s H E, Room k (A.deeper (envOfC ql sc s.heap.objs.size f cdv)) → Qt (A.deeper (envOfC ql sc s.heap.objs.size f cdv)) → ∀ vs Q, sp vs H Q E →
      ∃ t, PSs (cxOf CX0 P w K mg base N ql sc f cdv A outer s H E) bd t ∧ t { nx := fun _ H' => Q .non H', rt := Q } (L2.start N vs) H) :
    FnG P w K mg base (k + 1) f (PySem.W.fnOf nm ql ar bd sc v1 v2 v3 v4 o1 cdv v5) ps sp := by
  refine ⟨len, fun A hr hq outer s H e0 args us vs hb hv Q E hs => ?_⟩
  have up : ∀ b o, base.get? b = some o → s.heap.get? b = some o := fun b o e => (e0.bs b o e).1
  obtain ⟨t, ht, q⟩ := body A outer s H E (hr.deeper _) hq vs Q hs
  refine codeAny_call_function hr.depth (e0.mod.kin.keeps up _ _ lk) rfl S.co S.gen rfl (PySem.W.codeRec_of (e0.mod.kin.keeps up) hc) (hb _ _ _ _ ?_)
  refine wpAny_newFunctionEnv_cells S.kind (fun y hy => kinds_of S y hy) ?_
  intro env he s1 x
  subst he
  refine ⟨(e0.mod.nolimit.keeps up).keeps x.toInCall.keep, codeAny_func ?_⟩
  refine wpAny_mono (ht.run [] s1 _ H _ (inv_start S hr.hd e0 (len _ _ _ _ hs) hv x) q) ?_ fun _ _ h => h
  intro fl s' h
  match fl, h with
  | .ret u, ⟨v, _, H', J, r, z⟩ => exact ⟨v, H', J.os, J.bare, J.base, J.hok, r, z⟩
  | .next, ⟨_, H', J, z⟩ => exact ⟨.non, H', J.os, J.bare, J.base, J.hok, rfl, z⟩
  | .brk, ⟨_, _, _, z⟩ => exact z.elim
  | .cont, ⟨_, _, _, z⟩ => exact z.elim
end TL

namespace TL
open PySem PySem.Spec PyProof.Rows L2
/-- a list, a tuple, an empty table -/
def Odd (o : Obj) : Prop := (∃ vs n, o.data = .seq vs n) ∨ o.data = .fields #[]
/-- what is told at a law's start: the tables, the script where it may be written -/
structure Fst (P : Program) (w : World) (K : PySem.W.Frag) (h : Heap) (cs : List (Addr × Addr)) (a : Addr) (ns : List Int) (H : Hp) : Prop where
  tab : ∀ p ∈ cs, H p.2 = some (.tbl #[])
  own : ∀ b u, H b = some u → (∃ p ∈ cs, p.2 = b) ∨ (b = a ∧ K.lookup a = none ∧ ∃ o xs, u = .frz o (.lst xs))
  scr : SqL K H a (ns.map V.int)
  ok : HOk P w H h
section
variable {P : Program} {w : World} {K : PySem.W.Frag} {mg mb : Str → Option Value} {k : Nat} {fa a : Addr} {cs : List (Addr × Addr)} {fd : FuncData} {x : Str} {sp : Sp} {s : Shared} {vs : List Value} {ns : List Int} {H : Hp}
theorem Fst.odd (F : Fst P w K s.heap cs a ns H) (hT : ∀ p ∈ cs, s.heap.get? p.2 = some { cls := .none, data := .fields #[] }) (ha : s.heap.get? a = some { cls := .type "list", data := .seq vs.toArray }) {b : Addr} {o : Obj} (e : s.heap.get? b = some o) (n : ¬ Odd o) : H b = none := by
  cases q : H b with
  | none => rfl
  | some u =>
    refine absurd ?_ n
    rcases F.own b u q with ⟨p, hp, rfl⟩ | ⟨rfl, _⟩
    · rw [hT p hp] at e; cases e; exact .inr rfl
    · rw [ha] at e; cases e; exact .inl ⟨_, _, rfl⟩
theorem Fst.kin (F : Fst P w K s.heap cs a ns H) (KX : K.In s.heap) (nT : ∀ p ∈ cs, K.lookup p.2 = none) : K.In (hidT s.heap H) := by
  intro b o e
  refine hidT_get (KX b o e) ?_
  cases q : H b with
  | none => rfl
  | some u =>
    rcases F.own b u q with ⟨p, hp, rfl⟩ | ⟨rfl, z, _⟩
    · rw [nT p hp] at e; cases e
    · rw [z] at e; cases e
theorem odd_dict {o : Obj} {es : Array DictEntry} {n : Nat} (d : o.data = .dict es n) : ¬ Odd o := by
  rintro (⟨_, _, z⟩ | z) <;> (rw [d] at z; cases z)
theorem odd_plain {o : Obj} (d : o.data = .plain) : ¬ Odd o := by
  rintro (⟨_, _, z⟩ | z) <;> (rw [d] at z; cases z)
theorem odd_some {o : Obj} {vs : Array Value} {i : Nat} {v : Value} (d : o.data = .fields vs) (e : vs[i]? = some v) : ¬ Odd o := by
  rintro (⟨_, _, z⟩ | z)
  · rw [d] at z; cases z
  · rw [d] at z; cases z; simp at e
theorem Fst.run (F : Fst P w K s.heap cs a ns H) (KX : K.In s.heap) (hns : s.heap.Ns mainGlobals mg) (hb : s.heap.Ns builtinsNs mb) (hbb : ∀ y : Str, y ≠ "__name__" → mb y = bootBuiltins y) (hlim : s.heap.NoLimit) (hg : s.gens = #[])
    (hT : ∀ p ∈ cs, s.heap.get? p.2 = some { cls := .none, data := .fields #[] }) (nT : ∀ p ∈ cs, K.lookup p.2 = none) (C : ∀ p ∈ cs, PySem.W.CodeHd s.heap p.1 p.2)
    (hbm : ∃ (bm : Addr) (ob : Obj), mg "__builtins__" = some (.ref bm) ∧ bm ≠ builtinsNs ∧ s.heap.get? bm = some ob ∧ ob.cls = .type "module" ∧ ob.dict = some builtinsNs ∧ ob.data = .plain)
    (ha : s.heap.get? a = some { cls := .type "list", data := .seq vs.toArray }) (hr : Room k callerA)
    (hF : ∀ base : Heap, K.In base → base.Ns mainGlobals mg → (∀ p ∈ cs, LamX.TabB base mg p.1 p.2) → FnG P w K mg base k fa fd [x] sp) (bind : ∀ (s : Shared) (u : Value), BindsTo s fd ⟨[u], []⟩ [(x, u)])
    (hsp : ∀ E, sp [.ref a] H (fun v _ => v = .bl true) E) :
    codeAny (model P w) callerA (.call (.ref fa) ⟨[.ref a], []⟩) (fun r s' => r = .ok (.ret (.bool true)) ∧ OldK s.heap s'.heap ∧ s'.os = s.os ∧ AllBare s'.gens) s := by
  have see : ∀ {b o}, s.heap.get? b = some o → ¬ Odd o → (hidT s.heap H).get? b = some o := fun e n => hidT_get e (F.odd hT ha e n)
  have ns' : ∀ {b : Addr} {m : Str → Option Value}, s.heap.Ns b m → (hidT s.heap H).Ns b m := by
    rintro b m ⟨o, es, n, e, d, r⟩
    exact ⟨o, es, n, see e (odd_dict d), d, r⟩
  have mod : L2.Mod K mg (hidT s.heap H) := by
    obtain ⟨mc, l1, l2⟩ := hlim
    exact ⟨F.kin KX nT, ns' hns, ⟨mb, ns' hb, hbb⟩, ⟨mc, ns' l1, l2⟩⟩
  obtain ⟨og, eg, ng, g1, g2, _⟩ := id hns
  have tb : ∀ p ∈ cs, LamX.TabB (hidT s.heap H) mg p.1 p.2 := by
    intro p hp
    obtain ⟨bm, ob, m1, m2, m3, m4, m5, m6⟩ := hbm
    constructor
    · obtain ⟨o, us, fl, tf, gs, tg, bb, tx, tt, c1, c2, c3, c4⟩ := C p hp
      exact ⟨o, us, fl, tf, gs, tg, bb, tx, tt, see c1 (odd_some c3 c4.1), c2, c3, c4⟩
    · refine ⟨bm, ob, m1, m2, ?_, ?_, see m3 (odd_plain m6), m4, m5, m6⟩
      · rintro rfl
        rw [g1] at m3; cases m3; rw [g2] at m6; cases m6
      · rintro rfl
        rw [hT p hp] at m3; cases m3; cases m6
    · intro z
      rw [z, hT p hp] at g1; cases g1; cases g2
  have env : Env0 P w K mg (hidT s.heap H) callerA [] s H := by
    refine ⟨rfl, mod, fun b o e => of_hidT e, Nat.le_of_eq (hidT_size _ _), trivial, ?_, F.ok, .of_eq hg⟩
    intro b z
    cases (show b ∈ ([] : List Addr) from z)
  have run := (hF _ mod.kin mod.glob tb).run callerA hr rfl [] s H env ⟨[.ref a], []⟩ [.ref a] [.ref a] (bind s _) (.cons rfl .nil) _ (fun _ _ _ => False) (hsp _)
  refine codeAny_mono run fun r s' h => ?_
  match r, h with
  | .error e, h => exact False.elim h
  | .ok (.ret u), h =>
    obtain ⟨v, H', os, bare, un, ok', rv, rfl⟩ := h
    obtain rfl : u = Value.bool true := rv
    have kept : ∀ b o, s.heap.get? b = some o → (∀ p ∈ cs, p.2 ≠ b) → s'.heap.get? b = some o := by
      intro b o e nt
      cases q : H b with
      | none => exact un.keep b o e q (fun z => by cases (show b ∈ ([] : List Addr) from z)) (fun z => by cases z)
      | some u =>
        rcases F.own b u q with ⟨p, hp, z⟩ | ⟨_, _, ob, xs, rfl⟩
        · exact absurd z (nt p hp)
        · obtain ⟨e1, _⟩ := F.ok b _ q
          obtain ⟨e2, _⟩ := ok' b _ (un.frzs b ob _ q)
          rw [e1] at e; cases e
          exact e2
    have grew : ∀ p ∈ cs, ∃ more : Array Value, s'.heap.get? p.2 = some { cls := .none, data := .fields more } := fun p hp => (un.tbls p.2 #[] (F.tab p hp)).imp fun more z => by
      have := ok' p.2 _ z
      rw [Array.empty_append] at this
      exact this
    refine ⟨rfl, ⟨fun b o e => ?_, fun b o e => ?_⟩, os, bare⟩ <;> by_cases hm : ∃ p ∈ cs, p.2 = b
    · obtain ⟨p, hp, rfl⟩ := hm
      rw [hT p hp] at e; cases e
      obtain ⟨more, hm⟩ := grew p hp
      refine .inr (.inl ⟨((C p hp).tab (hT p hp)).isCodeTable, rfl, #[], more, rfl, ?_⟩)
      rw [Array.empty_append]; exact hm
    · exact .inl (kept b o e fun p hp z => hm ⟨p, hp, z⟩)
    · obtain ⟨p, hp, rfl⟩ := hm
      obtain ⟨more, hm⟩ := grew p hp
      exact ⟨_, hm⟩
    · exact ⟨o, kept b o e fun p hp z => hm ⟨p, hp, z⟩⟩
/-- there are such things -/
theorem Fst.ex (KX : K.In s.heap) (hT : ∀ p ∈ cs, s.heap.get? p.2 = some { cls := .none, data := .fields #[] }) (ha : s.heap.get? a = some { cls := .type "list", data := .seq vs.toArray }) (hi : IntsAre vs ns) (hl : ns.length ≤ sizeLine) : ∃ H, Fst P w K s.heap cs a ns H := by
  have rv := vals_ints hi
  have na : ∀ p ∈ cs, p.2 ≠ a := by
    intro p hp z
    have := hT p hp
    rw [z, ha] at this; cases this
  cases hk : K.lookup a with
  | some o =>
    have e := KX a o hk
    rw [ha] at e; cases e
    refine ⟨fun b => if ∃ q ∈ cs, q.2 = b then some (.tbl #[]) else none, fun p hp => if_pos ⟨p, hp, rfl⟩, fun b u z => ?_, .inr ⟨_, vs.toArray, _, hk, rfl, rfl, rfl, ?_, by simpa using rv⟩, fun b u z => ?_⟩
    · split at z
      · exact .inl (by assumption)
      · cases z
    · rw [List.size_toArray, hi.length]; exact hl
    · split at z
      · rename_i hm
        obtain ⟨p, hp, rfl⟩ := hm
        cases z
        exact hT p hp
      · cases z
  | none =>
    refine ⟨fun b => if ∃ q ∈ cs, q.2 = b then some (.tbl #[]) else if b = a then some (.frz { cls := .type "list", data := .seq vs.toArray } (.lst (ns.map V.int))) else none, fun p hp => if_pos ⟨p, hp, rfl⟩, fun b u z => ?_, .inl (.inr ⟨{ cls := .type "list", data := .seq vs.toArray }, ?_⟩), fun b u z => ?_⟩
    · split at z
      · exact .inl (by assumption)
      · split at z
        · cases z
          exact .inr ⟨by assumption, hk, _, _, rfl⟩
        · cases z
    · exact (if_neg fun ⟨p, hp, z⟩ => na p hp z).trans (if_pos rfl)
    · split at z
      · rename_i hm
        obtain ⟨p, hp, rfl⟩ := hm
        cases z
        exact hT p hp
      · split at z
        · rename_i hb
          subst hb
          cases z
          exact ⟨ha, by rw [List.length_map]; exact hl, vs, _, rv, ha⟩
        · cases z
end
end TL

namespace TL
open PySem PySem.Spec PyProof.Rows L2
/-- a def of the text -/
abbrev dOf (x : Str) (st : Stmt) : He.DefD := ⟨(x, none), x, x, defArgs st, defBody st, defScope st, [], []⟩
/-- what is asked of the text: names, defs, tables of code objects (with the name that their objects bear), more -/
structure Fx where
  fa : List He.Fa
  fn : List He.DefD
  tf : List (He.Defn × Str) := []
  /-- dicts of the top: texts to numbers; tuples of texts of the top -/
  dk : List (Str × List (Str × Int)) := []
  tk : List (Str × List Str) := []
  ex : PySem.W.Frag → Bool := fun _ => true
def strsB : List Value → List Str → Bool
  | [], [] => true
  | .str y _ :: r, z :: zs => decide (y = z) && strsB r zs
  | _, _ => false
theorem strsB_ok : ∀ {us : List Value} {zs : List Str}, strsB us zs = true → Vals (zs.map V.str) us
  | [], [], _ => .nil
  | u :: r, [], h => by cases u <;> cases h
  | [], _ :: _, h => by cases h
  | u :: r, z :: zs, h => by
    cases u with
    | str y t =>
      obtain ⟨h1, h2⟩ := Bool.and_eq_true_iff.mp (show (decide (y = z) && strsB r zs) = true from h)
      exact .cons ⟨t, by rw [of_decide_eq_true h1]⟩ (strsB_ok h2)
    | _ => cases h
/-- the tuple of the texts zs stands in the written part -/
def tupB (K : PySem.W.Frag) (x : Str) (zs : List Str) : Bool := match K.lookup (He.ga K x) with
  | some ⟨.type c, _, .seq its _, _⟩ => decide (c = "tuple") && (decide (its.size ≤ 64) && strsB its.toList zs)
  | _ => false
theorem tupB_ok {K : PySem.W.Frag} {x : Str} {zs : List Str} (h : tupB K x zs = true) (H : Hp) : Rep K H (.tup (zs.map T.str)) (.ref (He.ga K x)) := by
  unfold tupB at h
  split at h
  · rename_i c d its n sl e
    obtain ⟨h1, h2⟩ := Bool.and_eq_true_iff.mp h
    obtain ⟨h3, h4⟩ := Bool.and_eq_true_iff.mp h2
    obtain rfl := of_decide_eq_true h1
    simp only [Rep]
    refine ⟨_, zs.map V.str, rfl, .inr ⟨_, its, n, e, rfl, rfl, Nat.le_trans (of_decide_eq_true h3) (by decide), strsB_ok h4⟩, ?_⟩
    clear h h2 h4 e
    induction zs with
    | nil => exact .nil
    | cons z zs ih => exact .cons rfl ih
  · cases h
/-- no two tables are one; and what else is asked -/
def Fx.exB (D : Fx) (K : PySem.W.Frag) : Bool := decide ((D.tf.map fun p => (He.cT K p.1).2).Nodup) && ((D.dk.all fun p => He.valsB K (He.ga K p.1) (p.2.map fun q => (q.1, .int q.2))) && ((D.tk.all fun p => tupB K p.1 p.2) && D.ex K))
/-- the dicts, as a head tells them -/
def Fx.ts (D : Fx) : List He.Tab := D.dk.map fun p => (fun K => He.ga K p.1, p.2.map (·.1))
/-- the text's facts -/
structure Tx (D : Fx) (w : World) (K : PySem.W.Frag) (mg : Str → Option Value) (h : Heap) : Prop where
  X : K.In h
  G : h.Ns mainGlobals mg
  t : He.SaysT D.fa D.fn D.ts w K
  more : D.exB K = true
  tabs : ∀ p ∈ D.tf, LamX.TabB h mg (He.cT K p.1).1 (He.cT K p.1).2
/-- the tables -/
def Fx.TT (D : Fx) (K : PySem.W.Frag) : List (Addr × Str) := D.tf.map fun p => ((He.cT K p.1).2, p.2)
def frB (fa : List He.Fa) (x : Str) : Bool := fa.any fun f => match f with | .free y => decide (y = x) | _ => false
def glB (fa : List He.Fa) (x : Str) : Bool := fa.any fun f => match f with | .glo y => decide (y = x) | _ => false
def stB (fa : List He.Fa) (x z : Str) : Bool := fa.any fun f => match f with | .str y u => decide (y = x) && decide (u = z) | _ => false
def inB (fa : List He.Fa) (x : Str) (z : Int) : Bool := fa.any fun f => match f with | .int y u => decide (y = x) && decide (u = z) | _ => false
section
variable {D : Fx} {w : World} {K : PySem.W.Frag} {mg : Str → Option Value} {h : Heap}
theorem nodup_map {α β : Type} {f : α → β} : ∀ {l : List α}, (l.map f).Nodup → ∀ a ∈ l, ∀ b ∈ l, f a = f b → a = b
  | [], _, a, ha, _, _, _ => absurd ha (by simp)
  | c :: l, h, a, ha, b, hb, e => by
    rw [List.map_cons, List.nodup_cons] at h
    rcases List.mem_cons.mp ha with h1 | h1 <;> rcases List.mem_cons.mp hb with h2 | h2
    · rw [h1, h2]
    · exact absurd (h1 ▸ e ▸ List.mem_map_of_mem h2) h.1
    · exact absurd (h2 ▸ e ▸ List.mem_map_of_mem h1) h.1
    · exact nodup_map h.2 a h1 b h2 e
theorem Tx.memT {D : Fx} {K : PySem.W.Frag} (p : He.Defn × Str) (hp : p ∈ D.tf) : ((He.cT K p.1).2, p.2) ∈ D.TT K := List.mem_map_of_mem (f := fun p : He.Defn × Str => ((He.cT K p.1).2, p.2)) hp
theorem Tx.uni (T : Tx D w K mg h) (p : He.Defn × Str) (hp : p ∈ D.tf) : ∀ r ∈ D.TT K, r.1 = (He.cT K p.1).2 → r.2 = p.2 := by
  intro r hr e
  obtain ⟨q, hq, rfl⟩ := List.mem_map.mp hr
  have hn := (Bool.and_eq_true_iff.mp T.more).1
  rw [nodup_map (of_decide_eq_true hn) q hq p hp e]
theorem Tx.fr (T : Tx D w K mg h) (x : Str) (e : frB D.fa x = true := by decide +kernel) : mg x = none := by
  obtain ⟨f, hf, q⟩ := List.any_eq_true.mp e
  split at q
  · rename_i y
    obtain rfl : y = x := of_decide_eq_true q
    exact He.free_ok T.X T.G (T.t.d.facts hf)
  · cases q
theorem Tx.gl (T : Tx D w K mg h) (x : Str) (e : glB D.fa x = true := by decide +kernel) : mg x = some (.ref (He.ga K x)) := by
  obtain ⟨f, hf, q⟩ := List.any_eq_true.mp e
  split at q
  · rename_i y
    obtain rfl : y = x := of_decide_eq_true q
    exact He.glo_ok T.X T.G (T.t.d.facts hf)
  · cases q
theorem Tx.str (T : Tx D w K mg h) (x z : Str) (e : stB D.fa x z = true := by decide +kernel) : ∃ t, mg x = some (.str z t) := by
  obtain ⟨f, hf, q⟩ := List.any_eq_true.mp e
  split at q
  · rename_i y u
    simp only [Bool.and_eq_true, decide_eq_true_eq] at q
    obtain ⟨rfl, rfl⟩ := q
    exact He.str_ok T.X T.G (T.t.d.facts hf)
  · cases q
theorem Tx.int (T : Tx D w K mg h) (x : Str) (z : Int) (e : inB D.fa x z = true := by decide +kernel) : ∃ t, mg x = some (.int z t) := by
  obtain ⟨f, hf, q⟩ := List.any_eq_true.mp e
  split at q
  · rename_i y u
    simp only [Bool.and_eq_true, decide_eq_true_eq] at q
    obtain ⟨rfl, rfl⟩ := q
    exact He.int_ok T.X T.G (T.t.d.facts hf)
  · cases q
end
/-- += of whole numbers -/
def vaddI : TR2 := fun x y G R => match x, y with
  | .int i, .int j => R (.int (i + j)) G
  | _, _ => False
theorem up_addI {K : PySem.W.Frag} : Up2 K vaddI (ipI fun i j => i + j) := by
  intro x y vx vy G H R Q rx ry rg h k
  unfold vaddI at h
  split at h
  · cases rx; cases ry
    exact ⟨_, _, rfl, rfl, k (.int _) _ G H rfl rg .refl h⟩
  · exact h.elim
/-- a dict of the top -/
def KTbl (K : PySem.W.Frag) (w : World) (x : Str) (tbl : List (Str × Int)) : Prop := ∀ z i, (z, i) ∈ tbl → KDct K w (He.ga K x) z (.int i)
theorem Tx.kd {D : Fx} {w : World} {K : PySem.W.Frag} {mg : Str → Option Value} {h : Heap} (T : Tx D w K mg h) {x : Str} {tbl : List (Str × Int)} (i : Nat) (e : D.dk[i]? = some (x, tbl)) : KTbl K w x tbl := by
  intro z j hz
  have hm := Bool.and_eq_true_iff.mp (Bool.and_eq_true_iff.mp T.more).2
  have hv := List.all_eq_true.mp hm.1 (x, tbl) (List.mem_of_getElem? e)
  obtain ⟨u, h1, h2⟩ := He.valsB_ok hv (q := (z, .int j)) (List.mem_map_of_mem (f := fun q : Str × Int => (q.1, He.Dv.int q.2)) hz)
  obtain ⟨es, n, h3, h4, _⟩ := T.t.tab i (t := (fun K => He.ga K x, tbl.map (·.1))) (by unfold Fx.ts; rw [List.getElem?_map, e]; rfl)
  exact ⟨es, n, u, h3, h4, h1, h2⟩
theorem Tx.tk {D : Fx} {w : World} {K : PySem.W.Frag} {mg : Str → Option Value} {h : Heap} (T : Tx D w K mg h) {x : Str} {zs : List Str} (i : Nat) (e : D.tk[i]? = some (x, zs)) (H : Hp) : Rep K H (.tup (zs.map TL.T.str)) (.ref (He.ga K x)) := by
  have hm := Bool.and_eq_true_iff.mp (Bool.and_eq_true_iff.mp (Bool.and_eq_true_iff.mp T.more).2).2
  exact tupB_ok (List.all_eq_true.mp hm.1 (x, zs) (List.mem_of_getElem? e)) H
/-- T[e], T such a dict -/
def tkd (tbl : List (Str × Int)) (te : TTE) : TTE := fun st G R => te st G fun y G1 => ∃ z i, y = .str z ∧ (z, i) ∈ tbl ∧ R (.int i) G1
theorem w_kdict {X : Cx} {pos p : Pos} {b : Expr} {tb : TTE} {x : Str} {tbl : List (Str × Int)} (hg : Gl X x) (hm : X.mg x = some (.ref (He.ga X.K x))) (hk : KTbl X.K X.w x tbl) (hb : PE X b (LE X.K tb)) (hs : PlainIx b) (hd : (x == ("__debug__" : Str)) = false := by decide) :
    PE X (.Subscript (.Name x p) b pos) (LE X.K (tkd tbl tb)) := (pe_ix ix_kdict (pe_glob hg hm (v := .ref (He.ga X.K x)) rfl hd) hb hs).imp fun σ H Q => by
  rintro ⟨st, G, R, rs, rg, q, k⟩
  refine ⟨st, G, _, rs, rg, q, fun y vy G1 H1 ry rg1 s1 ⟨z, i, ey, hz, q1⟩ => ?_⟩
  subst ey
  cases ry
  exact ⟨_, _, _, rfl, rfl, hk z i hz, k (.int i) (.int i) G1 H1 rfl rg1 s1 q1⟩
/-- a tuple of texts of the top -/
theorem w_gtup {X : Cx} {pos : Pos} {x : Str} {zs : List Str} (hg : Gl X x) (hm : X.mg x = some (.ref (He.ga X.K x))) (hr : ∀ H, Rep X.K H (.tup (zs.map T.str)) (.ref (He.ga X.K x))) (hd : (x == ("__debug__" : Str)) = false := by decide) : PE X (.Name x pos) (LE X.K (tcon (.tup (zs.map T.str)))) :=
  (pe_glob hg hm (v := .ref (He.ga X.K x)) rfl hd).imp fun _ _ _ => LE_con hr
/-- a def of the text keeps its promise -/
structure FnK (P : Program) (w : World) (K : PySem.W.Frag) (mg : Str → Option Value) (base : Heap) (x : Str) (k : Nat) (ps : List Str) (sp : TSp) : Prop where
  gl : mg x = some (.ref (He.ga K x))
  kp : PySem.W.keepIn K (.ref (He.ga K x)) = true
  ex : ∃ fd, FnG P w K mg base k (He.ga K x) fd ps (LSp K sp) ∧ Binds K fd ps [] ∧ ∃ oc od osl, K.lookup (He.ga K x) = some ⟨oc, od, .func fd, osl⟩
theorem FnK.imp {P : Program} {w : World} {K : PySem.W.Frag} {mg : Str → Option Value} {base : Heap} {x : Str} {k : Nat} {ps : List Str} {sp sp' : TSp} (h : FnK P w K mg base x k ps sp) (m : ∀ ts G R, sp' ts G R → sp ts G R) : FnK P w K mg base x k ps sp' := by
  obtain ⟨fd, h1, h2⟩ := h.ex
  refine ⟨h.gl, h.kp, fd, ?_, h2⟩
  exact h1.imp fun vs H Q E ⟨ts, G, R, a, b, c, d⟩ => ⟨ts, G, R, a, b, m _ _ _ c, d⟩
section
variable {X : Cx} {pos p : Pos} {e : Expr} {es : List Expr} {t : TTA} {x : Str} {k : Nat} {ps : List Str} {sp : TSp}
theorem w_callF (F : FnK X.prog X.w X.K X.mg X.base x k ps sp) (hr : Room k X.A) (hq : Qt X.A) (hg : Gl X x) (ha : PA X (e :: es) (LA X.K t)) (hd : (x == ("__debug__" : Str)) = false := by decide)
    (hs : starEach (e :: es) X.env = (false, eval e X.env) :: starEach es X.env := by rfl) (hpl : (backTo pos (starEach es X.env)).any (·.1) = false := by rfl) : PE X (.Call (.Name x p) (e :: es) [] pos) (LE X.K (tcall sp t)) := by
  obtain ⟨fd, h1, h2⟩ := F.ex
  refine ⟨fun pins s σ H Q I h => ?_⟩
  have h := LE_call (E := fun _ _ _ => False) h
  refine wpAny_Call_Name_kw (ld_glob I hg F.gl (PySem.W.callWith_K (h₀ := X.base) I.ok.mod.kin F.kp (thn (ha.run pos pins s σ H _ I h) fun us s1 q => ?_) hs hpl) hd)
  obtain ⟨vs, H1, I1, r, q⟩ := q
  rw [List.append_nil] at q
  exact ⟨I1.kIn, h1.at hr hq h2.1 I1 r q⟩
theorem w_callF0 (F : FnK X.prog X.w X.K X.mg X.base x k ps sp) (hr : Room k X.A) (hq : Qt X.A) (hg : Gl X x) (hd : (x == ("__debug__" : Str)) = false := by decide) : PE X (.Call (.Name x p) [] [] pos) (LE X.K (tcall sp tanil)) := by
  obtain ⟨fd, h1, h2⟩ := F.ex
  refine ⟨fun pins s σ H Q I h => ?_⟩
  have h := LE_call_nil (E := fun _ _ _ => False) h
  exact wpAny_Call_Name_kw (ld_glob I hg F.gl (PySem.W.callWith_K0 I.kIn F.kp (h1.at (us := []) (vs := []) hr hq h2.1 I .nil h)) hd)
/-- a text, a number of the top -/
theorem w_gstr {z : Str} (hg : Gl X x) (hm : ∃ t, X.mg x = some (.str z t)) (hd : (x == ("__debug__" : Str)) = false := by decide) : PE X (.Name x pos) (LE X.K (tcon (.str z))) := by
  obtain ⟨t, hm⟩ := hm
  exact (pe_glob hg hm (v := .str z) ⟨_, rfl⟩ hd).imp fun _ _ _ => LE_con fun _ => rfl
theorem w_gint {z : Int} (hg : Gl X x) (hm : ∃ t, X.mg x = some (.int z t)) (hd : (x == ("__debug__" : Str)) = false := by decide) : PE X (.Name x pos) (LE X.K (tcon (.int z))) := by
  obtain ⟨t, hm⟩ := hm
  exact (pe_glob hg hm (v := .int z) ⟨_, rfl⟩ hd).imp fun _ _ _ => LE_con fun _ => rfl
theorem s_augAdd {i : Nat} {te : TTE} {pos' : Pos} (hN : X.N.Nodup) (hi : X.N[i]? = some x) (hx : Loc X.env.scope x) (he : PE X e (LE X.K te)) (hf : X.fn x = true ∨ X.env.scope.names.lookup x = some .local := by first | exact .inl rfl | exact .inr rfl | assumption) :
    PS X (.AugAssign (.Name x pos') .Add e pos) (LS X.K (taug i te vaddI)) := s_aug hN hi hx he ip_add up_addI hf
end
/-- one def from its body's reading -/
theorem fn_mk {D : Fx} {P : Program} {w : World} {K : PySem.W.Frag} {mg : Str → Option Value} {base : Heap} (T : Tx D w K mg base) {x : Str} {st : Stmt} {N ps : List Str} {k : Nat} {sp : TSp} (i : Nat) (hi : D.fn[i]? = some (dOf x st)) (gl : glB D.fa x = true) (S : FnScope N ps (defScope st))
    (hb : ∀ (kV doc pm : Value) (an : Option Addr) (cdv ct : Value) (us : List Value), us.length = ps.length → bindArgs (PySem.W.fnOf x x (defArgs st) (defBody st) (defScope st) .none kV doc pm an cdv ct) ⟨us, []⟩ = pure (ps.zip us))
    (len : ∀ ts G R, sp ts G R → ts.length = ps.length) {τ : TTS}
    (hbody : ∀ (cdv : Value) (A : Around) (outer : List Env) (s : Shared) (H : Hp) (E : XK), Room k (A.deeper (envOfC x (defScope st) s.heap.objs.size (He.ga K x) cdv)) → Qt (A.deeper (envOfC x (defScope st) s.heap.objs.size (He.ga K x) cdv)) → cdv = .ref (He.codeOf K (x, none)) →
      PSs (cxOf CX0 P w K mg base N x (defScope st) (He.ga K x) cdv A outer s H E).nox (defBody st) (LS K τ))
    (hp : ∀ ts G R, sp ts G R → τ { nx := fun _ G' => WkR R .non G', rt := WkR R } (startT N ts) G) : FnK P w K mg base x (k + 1) ps sp := by
  obtain ⟨fd, F⟩ := T.t.d.def_ i hi
  have F' : FunD K x x (defArgs st) (defBody st) (defScope st) [] [] (He.ga K x) fd := F
  have F2 := F'
  obtain ⟨oc, od, dV, kV, doc, pm, an, cdv, ct, osl, e, l, c, hd, _⟩ := F2.ex
  refine ⟨T.gl x gl, F'.kp, fd, ?_, F'.bindsN hb, oc, od, osl, l⟩
  have hcd : cdv = .ref (He.codeOf K (x, none)) := by
    obtain ⟨c0, e0⟩ := He.codeIn_ref c
    have l2 : K.lookup (He.fAd K (x, none)) = some ⟨oc, od, .func fd, osl⟩ := l
    rw [He.codeOf_eq l2 (by rw [e]; exact e0)]
    exact e0
  subst e
  refine FnG.of l c S (fun vs H Q E h => ?_) fun A outer s H E hr hq vs Q h => ?_
  · obtain ⟨ts, G, R, r, rg, q, k⟩ := h
    rw [r.length]
    exact len _ _ _ q
  · obtain ⟨ts, G, R, r, rg, q, k⟩ := h
    refine ⟨_, (hbody cdv A outer s H E hr hq hcd).nox, startT N ts, G, _, rs_start r, rg, hp ts G R q, ⟨?_, ?_, ?_, ?_⟩⟩
    · rintro st σ G' H' rs rg' s' ⟨G0, sb, q'⟩
      exact k .non .non G0 H' rfl (rg'.sub sb) s' q'
    · rintro t v G' H' rv rg' s' ⟨G0, sb, q'⟩
      exact k t v G0 H' rv (rg'.sub sb) s' q'
    · exact fun _ _ _ _ _ _ _ h => h.elim
    · exact fun _ _ _ _ _ _ _ h => h.elim
/-- no promise -/
def spNo : TSp := fun _ _ _ => False
theorem fn_no {D : Fx} {P : Program} {w : World} {K : PySem.W.Frag} {mg : Str → Option Value} {base : Heap} (T : Tx D w K mg base) {x : Str} {st : Stmt} {ps : List Str} (k : Nat) (i : Nat) (hi : D.fn[i]? = some (dOf x st)) (gl : glB D.fa x = true)
    (hb : ∀ (kV doc pm : Value) (an : Option Addr) (cdv ct : Value) (us : List Value), us.length = ps.length → bindArgs (PySem.W.fnOf x x (defArgs st) (defBody st) (defScope st) .none kV doc pm an cdv ct) ⟨us, []⟩ = pure (ps.zip us)) : FnK P w K mg base x k ps spNo := by
  obtain ⟨fd, F⟩ := T.t.d.def_ i hi
  have F' : FunD K x x (defArgs st) (defBody st) (defScope st) [] [] (He.ga K x) fd := F
  obtain ⟨oc, od, dV, kV, doc, pm, an, cdv, ct, osl, e, l, c, hd, _⟩ := F'.ex
  refine ⟨T.gl x gl, F'.kp, fd, ⟨fun vs H Q E h => ?_, fun A hr hq outer s H e0 args us vs hb r Q E h => ?_⟩, F'.bindsN hb, oc, od, osl, l⟩
  · obtain ⟨ts, G, R, _, _, q, _⟩ := h
    exact q.elim
  · obtain ⟨ts, G, R, _, _, q, _⟩ := h
    exact q.elim
end TL

namespace TL
open PySem PySem.Spec PyProof.Rows L2
section
variable {X : Cx} {K : PySem.W.Frag} {a b c e : Expr} {pos : Pos} {ta tb tc : TTE}
theorem LT_test {t : TTE} {t' : TE} (u : ∀ σ H Q, LE K t σ H Q → t' σ H Q) {σ H Q} (h : LT K (tbool t) σ H Q) : tTest t' σ H Q := by
  obtain ⟨st, G, R, rs, rg, q, k⟩ := h
  refine u _ _ _ ⟨st, G, _, rs, rg, q, fun x vx G1 H1 rx rg1 s1 ⟨c, e, q1⟩ => ?_⟩
  subst e
  cases rx
  exact ⟨c, rfl, k c G1 H1 rg1 s1 q1⟩
theorem wt_cmp {op : CmpOp} {r : TR2} {r' : R2} (o : OpR X (compareOp op) r') (u : Up2 X.K r r') (ha : PE X a (LE X.K ta)) (hb : PE X b (LE X.K tb)) (h1 : behindInMarks op b = false) : PT X (.Compare a [op] [b] pos) (LT X.K (tbool (top r ta tb))) :=
  (pt_cmpR o ha hb h1).imp fun _ _ _ => LT_test fun _ _ _ => LE_op u
theorem wt_lt (ha : PE X a (LE X.K ta)) (hb : PE X b (LE X.K tb)) : PT X (.Compare a [.Lt] [b] pos) (LT X.K (tbool (top (vcmp fun i j => decide (i < j)) ta tb))) := wt_cmp op_lt up_cmp ha hb (nomark _)
theorem wt_le (ha : PE X a (LE X.K ta)) (hb : PE X b (LE X.K tb)) : PT X (.Compare a [.LtE] [b] pos) (LT X.K (tbool (top (vcmp fun i j => decide (i ≤ j)) ta tb))) := wt_cmp op_le up_cmp ha hb (nomark _)
theorem wt_gt (ha : PE X a (LE X.K ta)) (hb : PE X b (LE X.K tb)) : PT X (.Compare a [.Gt] [b] pos) (LT X.K (tbool (top (vcmp fun i j => decide (j < i)) ta tb))) := wt_cmp op_gt up_cmp ha hb (nomark _)
theorem wt_ge (ha : PE X a (LE X.K ta)) (hb : PE X b (LE X.K tb)) : PT X (.Compare a [.GtE] [b] pos) (LT X.K (tbool (top (vcmp fun i j => decide (j ≤ i)) ta tb))) := wt_cmp op_ge up_cmp ha hb (nomark _)
theorem wt_eq {n : Nat} (hr : L2.Room n X.A) (ha : PE X a (LE X.K ta)) (hb : PE X b (LE X.K tb)) : PT X (.Compare a [.Eq] [b] pos) (LT X.K (tbool (top veq ta tb))) := wt_cmp (op_eq.or (op_eqD hr.units)) up_eq ha hb (nomark _)
theorem wt_ne {n : Nat} (hr : L2.Room n X.A) (ha : PE X a (LE X.K ta)) (hb : PE X b (LE X.K tb)) : PT X (.Compare a [.NotEq] [b] pos) (LT X.K (tbool (top vne ta tb))) := wt_cmp (op_ne.or (op_neD hr.units)) up_ne ha hb (nomark _)
theorem wt_in {n : Nat} (hr : L2.Room n X.A) (ha : PE X a (LE X.K ta)) (hb : PE X b (LE X.K tb)) (h1 : behindInMarks .In b = false) : PT X (.Compare a [.In] [b] pos) (LT X.K (tbool (top (vin false) ta tb))) := wt_cmp (op_in_seq.or ((op_inDN (hu_of hr)).or op_in_sign)) up_in ha hb h1
theorem wt_notin {n : Nat} (hr : L2.Room n X.A) (ha : PE X a (LE X.K ta)) (hb : PE X b (LE X.K tb)) (h1 : behindInMarks .NotIn b = false) : PT X (.Compare a [.NotIn] [b] pos) (LT X.K (tbool (top (vin true) ta tb))) := wt_cmp (op_notIn_seq.or ((op_notInDN (hu_of hr)).or op_notIn_sign)) up_in ha hb h1
theorem ct_isN {j pos'} (ha : PE X a (LE X.K ta)) : PT X (.Compare a [.Is] [.Constant .none j pos'] pos) (LT X.K (tbool (tisN ta))) := (pt_cmpR op_isN ha pe_non (nomark _)).imp fun _ _ _ => LT_test fun σ H Q => by
  rintro ⟨st, G, R, rs, rg, q, k⟩
  refine ⟨st, G, _, rs, rg, q, fun x vx G1 H1 rx rg1 s1 q1 => ?_⟩
  refine ⟨rfl, k _ _ G1 H1 ?_ rg1 s1 q1⟩
  show V.bl _ = V.bl _
  rw [rx.isN]
theorem ct_notN {j pos'} (ha : PE X a (LE X.K ta)) : PT X (.Compare a [.IsNot] [.Constant .none j pos'] pos) (LT X.K (tbool (tnotN ta))) := (pt_cmpR op_notN ha pe_non (nomark _)).imp fun _ _ _ => LT_test fun σ H Q => by
  rintro ⟨st, G, R, rs, rg, q, k⟩
  refine ⟨st, G, _, rs, rg, q, fun x vx G1 H1 rx rg1 s1 q1 => ?_⟩
  refine ⟨rfl, k _ _ G1 H1 ?_ rg1 s1 q1⟩
  show V.bl _ = V.bl _
  rw [rx.isN]
def tchain (r r' : TR2) (ta tb tc : TTE) : TTE := fun st G R => ta st G fun x G1 => tb st G1 fun y G2 => r x y G2 fun z G3 => ∃ k, z = .bl k ∧ if k = true then tc st G3 fun w G4 => r' y w G4 R else R (.bl false) G3
theorem LE_chain {r r' : TR2} {p p' : R2} (u : Up2 K r p) (u' : Up2 K r' p') {σ H Q} (h : LE K (tchain r r' ta tb tc) σ H Q) : tChain p p' (LE K ta) (LE K tb) (LE K tc) σ H Q := by
  obtain ⟨st, G, R, rs, rg, q, k⟩ := h
  refine ⟨st, G, _, rs, rg, q, fun x vx G1 H1 rx rg1 s1 q1 => ?_⟩
  refine ⟨st, G1, _, rs.stay s1, rg1, q1, fun y vy G2 H2 ry rg2 s2 q2 => ?_⟩
  refine u x y vx vy G2 H2 _ _ (rx.stay s2) ry rg2 q2 fun z vz G3 H3 rz rg3 s3 ⟨kk, e, q3⟩ => ?_
  subst e
  cases rz
  refine ⟨kk, rfl, ?_⟩
  cases kk with
  | false => exact k (.bl false) _ G3 H3 rfl rg3 (s1.trans (s2.trans s3)) q3
  | true =>
    refine ⟨st, G3, _, rs.stay (s1.trans (s2.trans s3)), rg3, q3, fun w vw G4 H4 rw' rg4 s4 q4 => ?_⟩
    exact u' y w vy vw G4 H4 R Q (ry.stay (s3.trans s4)) rw' rg4 q4 (k.stay (s1.trans (s2.trans (s3.trans s4))))
abbrev vle : TR2 := vcmp fun i j => decide (i ≤ j)
theorem w_chainLe (ha : PE X a (LE X.K ta)) (hb : PE X b (LE X.K tb)) (hc : PE X c (LE X.K tc)) (hm : lastMarks [.LtE, .LtE] [b, c] = false := by with_unfolding_all rfl) : PE X (.Compare a [.LtE, .LtE] [b, c] pos) (LE X.K (tchain vle vle ta tb tc)) :=
  (pe_chain op_le op_le ha hb hc hm).imp fun _ _ _ => LE_chain up_cmp up_cmp
theorem wt_chainLe (ha : PE X a (LE X.K ta)) (hb : PE X b (LE X.K tb)) (hc : PE X c (LE X.K tc)) (hm : lastMarks [.LtE, .LtE] [b, c] = false := by with_unfolding_all rfl) : PT X (.Compare a [.LtE, .LtE] [b, c] pos) (LT X.K (tbool (tchain vle vle ta tb tc))) :=
  (pt_chain op_le op_le ha hb hc hm).imp fun _ _ _ => LT_test fun _ _ _ => LE_chain up_cmp up_cmp

def tpair (trs : List (TTE × TTE)) : TSt → GH → (List (T × T) → GH → Prop) → Prop := match trs with
  | [] => fun _ G R => R [] G
  | (k, v) :: r => fun st G R => k st G fun x G1 => v st G1 fun y G2 => tpair r st G2 fun ps G3 => R ((x, y) :: ps) G3
def mergeT (kvs : List (Key × T)) : List (Key × T) → List (Key × T)
  | [] => kvs
  | (k, v) :: r => mergeT (putT kvs k v) r
def keysT : List (T × T) → Option (List (Key × T))
  | [] => some []
  | (x, y) :: r => match keyT x, keysT r with
    | some k, some ks => some ((k, y) :: ks)
    | _, _ => none
def tdisp (trs : List (TTE × TTE)) : TTE := fun st G R => ∀ p, G p = none → tpair trs st (gupd G p (.dK [])) fun ps G2 => G2 p = some (.dK []) ∧ ∃ kvs, keysT ps = some kvs ∧ kvs.length ≤ 15 ∧ R (.ref p) (gupd G2 p (.dK (mergeT [] kvs)))
def LP (K : PySem.W.Frag) (trs : List (TTE × TTE)) : List (TE × TE) := trs.map fun p => (LE K p.1, LE K p.2)
def Reps2 (K : PySem.W.Frag) (H : Hp) (ps : List (T × T)) (vs : List (V × V)) : Prop := Paired (fun p q => Rep K H p.1 q.1 ∧ Rep K H p.2 q.2) ps vs
theorem Reps2.stay {H H' : Hp} {ps : List (T × T)} {vs : List (V × V)} (S : Stay K H H') (h : Reps2 K H ps vs) : Reps2 K H' ps vs := Paired.mapP h fun _ _ q => ⟨q.1.stay S, q.2.stay S⟩
theorem tpairs_up : ∀ (trs : List (TTE × TTE)) {st : TSt} {σ : St} {G : GH} {H : Hp} {R : List (T × T) → GH → Prop} {Q : List (V × V) → Hp → Prop}, RS K H st σ → RG K H G → tpair trs st G R →
    (∀ ps vs G' H', Reps2 K H' ps vs → RG K H' G' → Stay K H H' → R ps G' → Q vs H') → tPairs (LP K trs) σ H Q
  | [], st, σ, G, H, R, Q, rs, rg, q, k => k [] [] G H .nil rg .refl q
  | (a, b) :: r, st, σ, G, H, R, Q, rs, rg, q, k => by
    refine ⟨st, G, _, rs, rg, q, fun x vx G1 H1 rx rg1 s1 q1 => ?_⟩
    refine ⟨st, G1, _, rs.stay s1, rg1, q1, fun y vy G2 H2 ry rg2 s2 q2 => ?_⟩
    refine tpairs_up r (rs.stay (s1.trans s2)) rg2 q2 fun ps vs G3 H3 rp rg3 s3 q3 => ?_
    exact k ((x, y) :: ps) ((vx, vy) :: vs) G3 H3 (.cons ⟨rx.stay (s2.trans s3), ry.stay s3⟩ rp) rg3 (s1.trans (s2.trans s3)) q3
theorem keysT_up {H : Hp} : ∀ {ps : List (T × T)} {vs : List (V × V)} {kvs : List (Key × T)}, Reps2 K H ps vs → keysT ps = some kvs → ∃ ws : List (Key × V), vs = ws.map (fun kv => (kV kv.1, kv.2)) ∧ KVR K H kvs ws
  | _, _, _, .nil, e => by cases e; exact ⟨[], rfl, .nil⟩
  | _, _, kvs, .cons (a := a) (b := b) q r, e => by
    obtain ⟨x, y⟩ := a
    obtain ⟨vx, vy⟩ := b
    unfold keysT at e
    split at e
    · rename_i k ks e1 e2
      cases e
      obtain ⟨ws, rfl, h⟩ := keysT_up r e2
      obtain rfl := keyT_up q.1 e1
      exact ⟨(k, vy) :: ws, rfl, .cons ⟨rfl, q.2⟩ h⟩
    · cases e
theorem merge_up {H : Hp} : ∀ {kvs : List (Key × T)} {ws : List (Key × V)} {k0 : List (Key × T)} {w0 : List (Key × V)}, KVR K H k0 w0 → KVR K H kvs ws → KVR K H (mergeT k0 kvs) (mergeK w0 ws)
  | _, _, _, _, h0, .nil => h0
  | _, _, _, _, h0, .cons (a := a) (b := b) q r => by
    obtain ⟨k, t⟩ := a
    obtain ⟨k', v⟩ := b
    obtain ⟨q1, q2⟩ := q
    have q1 : k = k' := q1
    subst q1
    have := merge_up (put_up (k := k) h0 q2) r
    exact this
theorem pp_nil : PPs X pos [] [] (LP X.K []) := pps_nil
theorem pp_cons {k v : Expr} {ks : List (Option Expr)} {vs : List Expr} {tk tv : TTE} {trs : List (TTE × TTE)} (hk : PE X k (LE X.K tk)) (hv : PE X v (LE X.K tv)) (hr : PPs X pos ks vs (LP X.K trs)) :
    PPs X pos (some k :: ks) (v :: vs) (LP X.K ((tk, tv) :: trs)) := pps_cons hk hv hr
theorem w_disp {keys : List (Option Expr)} {values : List Expr} {trs : List (TTE × TTE)} (h : PPs X pos keys values (LP X.K trs)) (hall : keys.all (·.isSome) = true := by rfl) (hl : keys.length = values.length := by rfl) (h0 : keys ≠ [] := by intro z; cases z)
    (h15 : keys.length ≤ 15 := by decide) : PE X (.Dict keys values pos) (LE X.K (tdisp trs)) := (pe_disp h hall hl h0 h15).imp fun σ H Q => by
  rintro ⟨st, G, R, rs, rg, q, k⟩
  intro p hp
  have s0 : Stay X.K H (upd H p (.dK [])) := stay_upd (wr_none hp)
  refine tpairs_up trs (rs.stay s0) (rg.newD hp .nil) (q p (rg.free hp)) fun ps vs G2 H2 rp rg2 s2 q2 => ?_
  obtain ⟨e, kvs, ek, hl15, q3⟩ := q2
  obtain ⟨ws, hw, r2⟩ := rg2.dK e
  cases r2
  obtain ⟨ws2, rfl, h2⟩ := keysT_up rp ek
  refine ⟨hw, ws2, rfl, by rw [h2.length]; exact hl15, ?_⟩
  have s3 : Stay X.K H2 (upd H2 p (.dK (mergeK [] ws2))) := stay_upd (wr_dK hw)
  exact k (.ref p) _ _ _ rfl (rg2.setD hw (merge_up .nil h2)) (s0.trans (s2.trans s3)) q3
theorem m2_by {o f : Expr} {m : Str} {apos cpos : Pos} (h1 : attributeBase o m X.env (eval o X.env) = eval o X.env := by rfl)
    (h2 : ((backTo cpos (starEach [e, f] X.env)).all (fun x => !x.1) && (backToKw cpos (keywordEach [] X.env)).all (fun x => x.1.isSome) && decide (([e, f] : List Expr).length + ([] : List Keyword).length + (if ([] : List Keyword).isEmpty then 0 else 1) < 30)) = true := by rfl)
    (h3 : (apos.endLine == cpos.line) = true := by rfl) (h4 : backTo cpos (starEach [e, f] X.env) = [(false, eval e X.env), (false, eval f X.env)] := by rfl) : M2 X o m apos e f cpos := ⟨h1, h2, h3, h4⟩
end
end TL

namespace TL
open PySem PySem.Spec PyProof.Rows L2
structure Tbs (TT : List (Addr × Str)) (G : GH) : Prop where
  has : ∀ p ∈ TT, G p.1 = some (.tab p.2)
  only : ∀ a q, G a = some (.tab q) → (a, q) ∈ TT
theorem Tbs.put {TT : List (Addr × Str)} {G : GH} {p : Addr} {o : GO} (h : Tbs TT G) (n : ∀ q, G p ≠ some (.tab q)) (no : ∀ q, o ≠ .tab q) : Tbs TT (gupd G p o) := by
  refine ⟨fun r hr => ?_, fun a q e => ?_⟩
  · have z : r.1 ≠ p := fun z => n r.2 (by rw [← z]; exact h.has r hr)
    rw [gupd_ne z]
    exact h.has r hr
  · by_cases z : a = p
    · rw [z, gupd_same] at e
      exact absurd (Option.some.inj e) (no q)
    · rw [gupd_ne z] at e
      exact h.only a q e
theorem Tbs.newL {TT : List (Addr × Str)} {G : GH} {p : Addr} {xs} (h : Tbs TT G) (n : G p = none) : Tbs TT (gupd G p (.lst xs)) := h.put (fun q e => by rw [n] at e; cases e) (fun q z => by cases z)
theorem Tbs.setL {TT : List (Addr × Str)} {G : GH} {p : Addr} {xs ys} (h : Tbs TT G) (n : G p = some (.lst ys)) : Tbs TT (gupd G p (.lst xs)) := h.put (fun q e => by rw [n] at e; cases e) (fun q z => by cases z)
theorem Tbs.newD {TT : List (Addr × Str)} {G : GH} {p : Addr} {xs} (h : Tbs TT G) (n : G p = none) : Tbs TT (gupd G p (.dK xs)) := h.put (fun q e => by rw [n] at e; cases e) (fun q z => by cases z)
theorem Tbs.setD {TT : List (Addr × Str)} {G : GH} {p : Addr} {xs ys} (h : Tbs TT G) (n : G p = some (.dK ys)) : Tbs TT (gupd G p (.dK xs)) := h.put (fun q e => by rw [n] at e; cases e) (fun q z => by cases z)
theorem stay_extN {K : PySem.W.Frag} {H H1 : Hp} (x : LamX.ExtN H H1) : Stay K H H1 := by
  refine ⟨fun a xs h => ?_, fun a xs h => ?_, fun a φ h => x _ _ h fun ps z => (by cases z), fun a o xs h => x _ _ h fun ps z => nomatch z⟩
  · rcases h with (h | ⟨o, h⟩) | h
    · exact .inl (.inl (x _ _ h fun ps z => by cases z))
    · exact .inl (.inr ⟨o, x _ _ h fun ps z => by cases z⟩)
    · exact .inr h
  · rcases h with ⟨o, h⟩ | h
    · exact .inl ⟨o, x _ _ h fun ps z => by cases z⟩
    · exact .inr h
theorem rg_extN {K : PySem.W.Frag} {H H1 : Hp} {G : GH} {TT : List (Addr × Str)} (rg : RG K H G) (tb : Tbs TT G) (x : LamX.ExtN H H1) (t1 : LamX.Tabs TT H1) : RG K H1 G := fun a g e => by
  have S : Stay K H H1 := stay_extN x
  have r := rg a g e
  cases g with
  | lst xs => obtain ⟨vs, h, q⟩ := r; exact ⟨vs, x _ _ h (fun ps z => nomatch z), q.stay S⟩
  | dK xs => obtain ⟨vs, h, q⟩ := r; exact ⟨vs, x _ _ h (fun ps z => nomatch z), q.stay S⟩
  | dKr xs u =>
    obtain ⟨h, ws, h2, q⟩ := r
    refine ⟨x _ _ h fun ps z => ?_, ws, h2, q.stay S⟩
    rcases h2 with rfl | ⟨o, rfl⟩ <;> cases z
  | dT xs => obtain ⟨vs, h, q⟩ := r; exact ⟨vs, x _ _ h (fun ps z => nomatch z), q.stay S⟩
  | ins C fs => obtain ⟨dx, ws, h, h2, q⟩ := r; exact ⟨dx, ws, x _ _ h (fun ps z => nomatch z), x _ _ h2 (fun ps z => nomatch z), q.stay S⟩
  | tab q => exact t1 _ (tb.only a q e)

section
variable {prog : Program} {w : World} {A : Around} {E : Value → Shared → Prop} {s : Shared}
theorem cloFrom_nil {cells : List (Str × Addr)} : ∀ {l : List (Str × NameKind)}, (∀ y ∈ l, y.2 ≠ .free) → cloFrom cells l [] = []
  | [], _ => rfl
  | (n, k) :: r, h => by
    unfold cloFrom
    have hk : (k == NameKind.free) = false := by
      have := h (n, k) (by simp)
      cases k <;> first | rfl | exact absurd rfl this
    rw [hk]
    exact cloFrom_nil fun y hy => h y (by simp [hy])
structure LamOk (x : Str) (params : Arguments) (scope : Scope) : Prop where
  kind : scope.kind = .function
  co : scope.isCoroutine = false
  gen : scope.isGenerator = false
  nf : ∀ y ∈ scope.names, y.2 ≠ .free
  nc : ∀ y ∈ scope.names, y.2 ≠ .cell
  lc : scope.names.lookup x = some .local
theorem lam0_call {f c' a : Addr} {q x : Str} {params : Arguments} {scope : Scope} {pm ctv : Value} {k0 : Nat} {p1 p2 p3 : Pos} {z : Str} {tk : Tok} {its : List Value} (L : LamOk x params scope)
    (hf : s.heap.get? f = some (PySem.W.kla_obj "<lambda>" q params (.Subscript (.Name x p1) (.Constant (.int 0) k0 p2) p3) scope [] pm c' ctv))
    (hcode : ∃ (oc : Obj) (vs : Array Value) (t : Tok), s.heap.get? c' = some oc ∧ oc.data = .fields vs ∧ vs[1]? = some (.str q t))
    (hbind : ∀ v : Value, bindArgs (PySem.W.kla_fn "<lambda>" q params (.Subscript (.Name x p1) (.Constant (.int 0) k0 p2) p3) scope [] pm (.ref c') ctv) ⟨[v], []⟩ = pure [(x, v)])
    (hd : A.depth < recursionLimit) (hlim : s.heap.NoLimit) (ht : IsTup s.heap a (Value.str z tk :: its).toArray) (hdb : (x == ("__debug__" : Str)) = false) :
    wpAny (model prog w) A (call (.ref f) [.ref a]) (PySem.W.KeyPure (.str z) s) (fun _ _ => False) s := by
  obtain ⟨oc, vs, t, h1, h2, h3⟩ := hcode
  refine wpAny_call ?_
  refine PySem.W.kla_callFunE hd hf rfl L.co L.gen rfl ⟨c', oc, vs, t, rfl, h1, h2, h3⟩ ?_
  rw [hbind]
  refine wpAny_pure (wpAny_newFunctionEnv L.nc (fun y hy => ?_) (fun h' hns hsb => ⟨hlim.fresh _ hsb, ?_⟩) L.kind)
  · obtain rfl : y = (x, Value.ref a) := by simpa using hy
    exact L.lc
  have kp : ∀ b o, s.heap.get? b = some o → h'.get? b = some o := fun b o e => hsb.extBut b o (Nat.ne_of_lt (Heap.lt_size e)) (Heap.get?_push_of_some _ e)
  refine PySem.W.kla_codeExpr ?_
  refine Subscript_Constant (wpAny_Name ?_ hdb)
  refine wpAny_loadName_local (m := fun y => [(x, Value.ref a)].reverse.lookup y) (v := .ref a) L.kind L.lc hns ?_ ?_
  · simp [List.lookup]
  refine wpAny_Constant_int ?_
  refine ⟨"tuple", _, slot_tuple_getitem.lookup, (ht.keeps kp).typeIs, ?_⟩
  refine getItem_tuple (j := 0) (x := .str z tk) (ht.keeps kp) (by decide) (by decide) ?_ ?_ ?_
  · have hn : (Value.str z tk :: its).toArray.size = its.length + 1 := by simp
    rw [hn]
    unfold seqIndex?
    simp
    try omega
  · rfl
  exact ⟨h', _, rfl, kp, .str _ _⟩

theorem collectT {l : Addr} {vs : List Value} {Q : List Value → Shared → Prop} (hl : IsTup s.heap l vs.toArray) (hsz : vs.length ≤ sizeLine)
    (h : Q vs { s with heap := (s.heap.push (seqObj "list" #[] 0)).update s.heap.objs.size (Obj.mapSeq (· ++ vs.toArray)) }) : wpAny (model prog w) A (collect (.ref l)) Q E s := by
  obtain ⟨o, ho, hc, n, hd⟩ := id hl
  unfold collect
  refine wpAny_bind (wpAny_runValue (codeAny_builtin entry_proto_collect' ?_))
  refine wpAny_bind (wpAny_newList (wpAny_pure ⟨Code.quiet_builtin _ (by decide +kernel), codeAny_builtin entry_list_iadd' ?_⟩))
  change wpAny _ _ (Builtin.List.listExtendWith (.ref s.heap.objs.size) (.ref l) (.ref s.heap.objs.size)) _ _ { s with heap := s.heap.push (seqObj "list" #[] 0) }
  have hl2 : (s.heap.push (seqObj "list" #[] 0)).get? l = some o := Heap.get?_push_of_some _ ho
  unfold Builtin.List.listExtendWith
  refine wpAny_bind (wpAny_typeOf (T := "tuple") ⟨o, hl2, hc⟩ ?_)
  have te : (Value.type "tuple" == Value.type "tuple") = true := by decide
  rw [if_pos (by rw [te, Bool.or_true])]
  refine wpAny_bind (listItems_at hl2 hd (wpAny_bind (listItems_at (xs := #[]) (n := 0) (Heap.get?_push_size _ rfl) rfl ?_)))
  rw [if_neg (by simp)]
  have hz2 : (#[] ++ vs.toArray).size ≤ sizeLine + 1 := by simp; omega
  refine wpAny_bind (listUpdate_at (xs := #[]) (n := 0) (Heap.get?_push_size _ rfl) rfl (wpAny_pure ?_) (Nat.zero_le _) hz2)
  refine wpAny_bind (wpAny_load (get?_update_seq (Heap.get?_push_size _ rfl) _) ?_)
  have hv : ((#[] : Array Value) ++ vs.toArray).toList = vs := by simp
  change wpAny _ _ (pure ((#[] : Array Value) ++ vs.toArray).toList) Q E _
  rw [hv]
  exact wpAny_pure h
/-- sorted by a key of which the call is told, of a list or a tuple -/
theorem sorted_any {l : Addr} {f : Value} {kw : List (Str × Value)} {β : Type} {vs : List Value} {bs : List β} {R : Value → β → Prop} {Q : Value → Shared → Prop} (k : β → PyData) (hl : s.heap.IsList l vs.toArray ∨ IsTup s.heap l vs.toArray) (e : PySem.W.EachIs R vs bs)
    (hal : PySem.W.AllAlike (bs.map k)) (hk : PySem.W.Sortable (bs.map k)) (hL : bs.length ≤ sizeLine) (hu : ∀ x, x ∈ bs → A.units + 2 + (k x).depth < cLine) (ha1 : argsOk "sorted" ⟨[.ref l], kw⟩) (ha2 : ∀ x, argsOk "list.sort" ⟨[.ref x], kw⟩)
    (ht : ∀ x, Builtin.«list.sort» ⟨[.ref x], kw⟩ = ksk_tree x f false)
    (turn : ∀ (v : Value) (x : β), R v x → x ∈ bs → ∀ (h : Heap) (tk : Nat), (∀ b o, s.heap.get? b = some o → h.get? b = some o) → wpAny (model prog w) A.in1.in1 (call f [v]) (PySem.W.KeyPure (k x) { s with heap := h, toks := tk }) (fun _ _ => False) { s with heap := h, toks := tk })
    (h : ∀ out c h' tk, (∀ b o, s.heap.get? b = some o → h'.get? b = some o) → h'.get? (s.heap.objs.size + 1) = some (seqObj "list" (List.toArray out) c) → out.length = bs.length → PySem.W.EachIs R out (bs.mergeSort (PySem.W.dataLe false k)) → Q (.ref (s.heap.objs.size + 1)) { s with heap := h', toks := tk }) :
    wpAny (model prog w) A (call (.builtin "sorted") [.ref l] kw) Q E s := by
  have hL2 : vs.length ≤ sizeLine := by rw [e.length]; exact hL
  have up : ∀ {g : Heap}, PySem.W.KeepsBut (s.heap.objs.size + 1) (PySem.W.copyHeap s.heap vs) g → ∀ b o, s.heap.get? b = some o → g.get? b = some o := fun {g} kp b o q => kp b o (Nat.ne_of_lt (Nat.lt_succ_of_lt (Heap.lt_size q))) (PySem.W.copyHeap_old q)
  have hsz : ((s.heap.push (seqObj "list" #[] 0)).update s.heap.objs.size (Obj.mapSeq (· ++ vs.toArray))).objs.size = s.heap.objs.size + 1 := by rw [Heap.size_update, size_push']
  refine call_function_entry_kw kind_sorted plain_sorted entry_sorted ha1 ?_
  unfold Builtin.«sorted»
  refine wpAny_bind (m := checkCount "sorted" 1 1 _) (wpAny_pure ?_)
  have go : wpAny (model prog w) A.in1 (newList vs >>= fun o => holding [o] (call (.builtin "list.sort") [o] kw) >>= fun _ => ret o) (fun f s' => ∃ v, f = .done (.ret v) ∧ Q v s') E { s with heap := (s.heap.push (seqObj "list" #[] 0)).update s.heap.objs.size (Obj.mapSeq (· ++ vs.toArray)) } := by
    refine wpAny_bind (wpAny_newList ?_ hL2)
    change wpAny _ _ _ _ _ { s with heap := PySem.W.copyHeap s.heap vs }
    rw [hsz]
    refine wpAny_bind (wpAny_holding (wpAny_call_entry_kw slot_list_sort ⟨_, PySem.W.copyHeap_at s.heap vs, rfl⟩ entry_list_sort ?_ (ha2 _)))
    rw [show (⟨[.ref (s.heap.objs.size + 1)], kw⟩ : Args) = ⟨[.ref (s.heap.objs.size + 1)], kw⟩ from rfl, ht]
    refine PySem.W.keyH_tree (kz := bs.map k) (s := { s with heap := PySem.W.copyHeap s.heap vs }) (PySem.W.copyHeap_at s.heap vs) (by rw [List.length_map]; exact e.length.symm) hL2 hal hk (fun d hd => ?_)
      (PySem.W.keyH_turns (s := { s with heap := PySem.W.copyHeap s.heap vs }) e fun v x hR hx h tk kp => turn v x hR hx h tk (up kp)) fun h' tk out c kp hD ko => ⟨_, rfl, wpAny_pure ⟨_, rfl, ?_⟩⟩
    · obtain ⟨x, hx, rfl⟩ := List.mem_map.mp hd
      exact hu x hx
    · exact h out c h' tk (up kp) hD ((ko.length (by rw [List.length_map]; exact e.length.symm)).trans e.length) (PySem.W.keyedOut_each k ko e)
  rcases hl with hl | hl
  · exact wpAny_bind (collect_list hl go hL2)
  · exact wpAny_bind (collectT hl hL2 go)
end

def keyT0 : T → Str
  | .tup (.str z :: _) => z
  | _ => Str.empty
def okKey : T → Bool
  | .tup (.str _ :: _) => true
  | _ => false
def leT0 (a b : T) : Bool := decide ((keyT0 a).cps.toList ≤ (keyT0 b).cps.toList)
/-- what sorted(xs, key=lambda x: x[0]) has -/
def sortT0 (xs : List T) : List T := xs.mergeSort leT0
def itemsOf (G : GH) : T → List T → Prop
  | .tup xs, ys => xs = ys
  | .fl xs, ys => xs = ys
  | .ref p, ys => G p = some (.lst ys)
  | _, _ => False
def tsortk (TT : List (Addr × Str)) (te : TTE) : TTE := fun st G R => te st G fun x G1 => Tbs TT G1 ∧ ∃ xs, itemsOf G1 x xs ∧ xs.all okKey = true ∧ xs.length ≤ sizeLine ∧ ∀ p, G1 p = none → R (.ref p) (gupd G1 p (.lst (sortT0 xs)))
theorem itemsOf_up {K : PySem.W.Frag} {H : Hp} {G : GH} {x : T} {xs : List T} {v : V} (rg : RG K H G) (r : Rep K H x v) (h : itemsOf G x xs) : ∃ a vs, v = .ref a ∧ (SqL K H a vs ∨ SqT K H a vs) ∧ Reps K H xs vs := by
  cases x with
  | tup ys =>
    obtain rfl : ys = xs := h
    simp only [Rep] at r
    obtain ⟨a, vs, rfl, h1, h2⟩ := r
    exact ⟨a, vs, rfl, .inr h1, h2⟩
  | fl ys =>
    obtain rfl : ys = xs := h
    simp only [Rep] at r
    obtain ⟨a, vs, rfl, h1, h2⟩ := r
    exact ⟨a, vs, rfl, .inl h1.seq, h2⟩
  | ref p =>
    cases r
    obtain ⟨vs, h1, h2⟩ := rg.lst h
    exact ⟨_, vs, rfl, .inl (.of h1), h2⟩
  | _ => exact h.elim
/-- what is known of an item: its tree, and where it begins with a text -/
def ItR (K : PySem.W.Frag) (H : Hp) (h : Heap) (u : Value) (t : T) : Prop := (∃ v, Rep K H t v ∧ RelV v u) ∧ ∃ a tk its, u = .ref a ∧ IsTup h a (Value.str (keyT0 t) tk :: its).toArray
theorem itR_of {X : Cx} {pins : List (Addr × Obj)} {σ : St} {H : Hp} {s : Shared} (I : Inv X pins σ H s) {t : T} {v : V} {u : Value} (r : Rep X.K H t v) (rv : RelV v u) (ok : okKey t = true) : ItR X.K H s.heap u t := by
  refine ⟨⟨v, r, rv⟩, ?_⟩
  unfold okKey at ok
  split at ok
  · rename_i z zs
    simp only [Rep] at r
    obtain ⟨a, vs, rfl, h1, h2⟩ := r
    obtain ⟨v1, r', rfl, q1, q2⟩ := h2.of_cons
    cases q1
    obtain ⟨its, rs, ht, hz⟩ := I.tuple h1
    cases rv
    cases rs with
    | cons ha hr =>
      obtain ⟨tk, rfl⟩ := ha
      exact ⟨a, tk, _, rfl, ht⟩
  · cases ok
theorem eachR {X : Cx} {pins : List (Addr × Obj)} {σ : St} {H : Hp} {s : Shared} (I : Inv X pins σ H s) : ∀ {xs : List T} {vs : List V} {us : List Value}, Reps X.K H xs vs → Vals vs us → xs.all okKey = true → PySem.W.EachIs (ItR X.K H s.heap) us xs
  | [], _, us, r, rv, _ => by
    cases r.of_nil
    cases rv
    exact .nil
  | t :: ts, _, us, r, rv, ok => by
    obtain ⟨v, r', rfl, q1, q2⟩ := r.of_cons
    simp only [List.all_cons, Bool.and_eq_true] at ok
    cases rv with
    | cons ha hr => exact .cons (itR_of I q1 ha ok.1) (eachR I q2 hr ok.2)
theorem each_reps {K : PySem.W.Frag} {H : Hp} {h : Heap} : ∀ {us : List Value} {xs : List T}, PySem.W.EachIs (ItR K H h) us xs → ∃ vs, Reps K H xs vs ∧ Vals vs us
  | _, _, .nil => ⟨[], .nil, .nil⟩
  | _, _, .cons q r => by
    obtain ⟨⟨v, q1, q2⟩, _⟩ := q
    obtain ⟨vs, r1, r2⟩ := each_reps r
    exact ⟨v :: vs, .cons q1 r1, .cons q2 r2⟩
theorem dataLe_key : PySem.W.dataLe false (fun t => PyData.str (keyT0 t)) = leT0 := PySem.W.dataLe_str keyT0
section
variable {X : Cx} {e : Expr} {te : TTE}
theorem w_sortk {TT : List (Addr × Str)} {c P : Addr} {q x : Str} {params : Arguments} {scope : Scope} {k0 : Nat} {p p1 p2 p3 lpos kpos pos : Pos} (hr : L2.Room 2 X.A) (TB : LamX.TabB X.base X.mg c P) (hcode : X.env.code = .ref c) (hq : X.env.qual ++ "<lambda>" = q) (hT : (P, q) ∈ TT) (hT1 : ∀ r ∈ TT, r.1 = P → r.2 = q)
    (hg : Gl X "sorted") (hm : X.mg "sorted" = none) (he : PE X e (LE X.K te)) (L : LamOk x params scope) (hdef : defaultsOf params X.env = ([], []) := by rfl)
    (hbind : ∀ (c' : Addr) (pm ctv v : Value), bindArgs (PySem.W.kla_fn "<lambda>" q params (.Subscript (.Name x p1) (.Constant (.int 0) k0 p2) p3) scope [] pm (.ref c') ctv) ⟨[v], []⟩ = pure [(x, v)] := by intro _ _ _ _; rfl) (hdb : (x == ("__debug__" : Str)) = false := by decide)
    (hs0 : starEach [e] X.env = (false, eval e X.env) :: starEach [] X.env := by rfl) (hst : backTo pos (starEach [e] X.env) = (false, eval e X.env) :: backTo pos (starEach [] X.env) := by rfl) (hpl : (backTo pos (starEach [e] X.env)).any (·.1) = false := by rfl) :
    PE X (.Call (.Name "sorted" p) [e] [⟨some "key", .Lambda params (.Subscript (.Name x p1) (.Constant (.int 0) k0 p2) p3) scope lpos, kpos⟩] pos) (LE X.K (tsortk TT te)) := by
  refine ⟨fun pins s σ H Q I h => ?_⟩
  obtain ⟨st, G, R, rs, rg, q0, kk⟩ := h
  refine wpAny_Call_Name_kw (ld_blt I hg hm (show bootBuiltins "sorted" = some (.builtin "sorted") by decide +kernel) ?_ (by decide) (by decide))
  refine callWith_kw (thn ((pa_cons he pa_nil hs0).run pos pins s σ H (fun vs H1 => ∃ v x G1, vs = [v] ∧ Rep X.K H1 x v ∧ RG X.K H1 G1 ∧ Stay X.K H H1 ∧ (Tbs TT G1 ∧ ∃ xs, itemsOf G1 x xs ∧ xs.all okKey = true ∧ xs.length ≤ sizeLine ∧ ∀ p, G1 p = none → R (.ref p) (gupd G1 p (.lst (sortT0 xs))))) I
    ⟨st, G, _, rs, rg, q0, fun x v G1 H1 rx rg1 s1 q1 => ⟨v, x, G1, rfl, rx, rg1, s1, q1⟩⟩) fun us s1 ⟨vs, H1, I1, r1, v, x0, G1, ev, rx, rg1, st1, tb, xs, hx, hok, hz, hR⟩ => ?_) hst hpl rfl rfl
  subst ev
  obtain ⟨u, rfl, ru⟩ := r1.one
  obtain ⟨a, ws, rfl, hseq, hreps⟩ := itemsOf_up rg1 rx hx
  cases ru
  have hTabs : LamX.Tabs TT H1 := fun r hr => rg1 _ _ (tb.has r hr)
  change wpAny _ _ (evalAll [(do let v ← eval (.Lambda params (.Subscript (.Name x p1) (.Constant (.int 0) k0 p2) p3) scope lpos) X.env; standAt pos; pure v)]) _ _ s1
  refine wpAny_evalAll_cons (wpAny_bind (LamX.lam_make2 I1 TB hcode (by rw [hq]; exact hT) (fun r hr e => (hT1 r hr e).trans hq.symm) hTabs hdef (fun y hy z => absurd z (L.nf y hy)) fun f c' pm ctv H2 s2 I2 xN T2 hf hfn hfr hco => wpAny_bind (wpAny_standAt (wpAny_pure (wpAny_evalAll_nil ?_)))))
  have S2 : Stay X.K H1 H2 := stay_extN xN
  have rg2 : RG X.K H2 G1 := rg_extN rg1 tb xN T2
  have hcl : cloFrom X.env.cells scope.names [] = [] := cloFrom_nil L.nf
  rw [hcl, hq] at hf
  rw [hq] at hco
  have hreps2 := hreps.stay S2
  have hseq2 : ∃ its, Vals ws its ∧ (s2.heap.IsList a its.toArray ∨ IsTup s2.heap a its.toArray) := by
    rcases hseq with hs | hs
    · obtain ⟨its, rv, pl, _⟩ := I2.list (show SqL X.K H2 a ws from by
        rcases hs with (h | ⟨o, h⟩) | h
        · exact .inl (.inl (xN _ _ h fun ps z => nomatch z))
        · exact .inl (.inr ⟨o, xN _ _ h fun ps z => nomatch z⟩)
        · exact .inr h)
      exact ⟨its, rv, .inl pl.isList⟩
    · obtain ⟨its, rv, pl, _⟩ := I2.tuple (S2.t _ _ hs)
      exact ⟨its, rv, .inr pl⟩
  obtain ⟨its, rv, hseq2⟩ := hseq2
  have hE := eachR I2 hreps2 rv hok
  have hcode2 : ∃ (oc : Obj) (vs : Array Value) (t : Tok), s2.heap.get? c' = some oc ∧ oc.data = .fields vs ∧ vs[1]? = some (.str q t) := (I2.hok c' _ hco).1
  have hlim : s2.heap.NoLimit := I2.nolimit
  refine sorted_any (fun t => PyData.str (keyT0 t)) hseq2 hE ?_ ?_ hz ?_ (ksk_s1 _ _) (fun y => ?_) (fun y => ksk_t1 f y) ?_ ?_
  · intro d hd d' hd'
    obtain ⟨t, _, rfl⟩ := List.mem_map.mp hd
    obtain ⟨t', _, rfl⟩ := List.mem_map.mp hd'
    rfl
  · refine .inr fun d hd => ?_
    obtain ⟨t, _, rfl⟩ := List.mem_map.mp hd
    exact ⟨fun z => (nomatch z), fun xs z => (nomatch z)⟩
  · intro t _
    have hd : (PyData.str (keyT0 t)).depth ≤ 1 := by first | exact Nat.le_refl _ | exact Nat.zero_le _
    have := hr.units
    omega
  · exact ksk_l1 _ _
  · intro v t hv _ h tk kp
    obtain ⟨_, a2, tk2, its2, rfl, ht⟩ := hv
    obtain ⟨oc, vs2, t2, g1, g2, g3⟩ := hcode2
    exact lam0_call (s := { s2 with heap := h, toks := tk }) L (kp _ _ hf) ⟨oc, vs2, t2, kp _ _ g1, g2, g3⟩ (hbind c' pm ctv) hr.in1.in1.depth (hlim.keeps kp) (ht.keeps kp) hdb
  · intro out cc h' tk kp hat hlen hout
    rw [dataLe_key] at hout
    obtain ⟨vs3, r3, v3⟩ := each_reps hout
    have hp : H2 (s2.heap.objs.size + 1) = none := I2.hok.fresh (Nat.le_succ _)
    refine ⟨.ref (s2.heap.objs.size + 1), _, I2.laid (t' := tk) (o := .lst vs3) kp (Nat.le_succ _) ⟨?_, _, _, v3, hat⟩, rfl, ?_⟩
    · rw [r3.length, List.length_mergeSort]
      exact hz
    · have s3 : Stay X.K H2 (upd H2 (s2.heap.objs.size + 1) (.lst vs3)) := stay_upd (wr_none hp)
      exact kk (.ref _) _ _ _ rfl (rg2.newL hp r3) (st1.trans (S2.trans s3)) (hR _ (rg2.free hp))
end
end TL

namespace TL
open PySem PySem.Spec PyProof.Rows L2
/-- what the head tells -/
abbrev Yp (D : Fx) (ts : List He.Tab) (w : World) (h : Heap) : Prop := ∃ K : PySem.W.Frag, K.In h ∧ He.SaysX D.fa D.fn ts (D.tf.map (·.1)) D.exB w h K
/-- the things at the law's start: the tables, the script where it may be written -/
def startG (TT : List (Addr × Str)) (a : Addr) (o : Option GO) : GH := fun b => match TT.find? fun p => decide (p.1 = b) with
  | some p => some (.tab p.2)
  | none => if b = a then o else none
/-- the law's promise: True, whatever the script -/
def spEnd (TT : List (Addr × Str)) (sp : TSp) : Prop := ∀ (x : T) (ns : List Int) (G : GH) (R : TK), ns.length ≤ 63 → (x = .fl (ns.map T.int) ∨ ∃ a, x = .ref a ∧ G a = some (.lst (ns.map T.int))) → Tbs TT G → (∀ G', R (.bl true) G') → sp [x] G R
theorem reps_ints {K : PySem.W.Frag} {H : Hp} : ∀ ns : List Int, Reps K H (ns.map T.int) (ns.map V.int)
  | [] => .nil
  | n :: r => .cons (t := .int n) rfl (reps_ints r)
theorem walk_tx {l : PySem.W.OpenLaw} {k : Nat} {q : Program} {loose : List Str} {XP : (Str → Option Value) → Heap → Prop} {D : Fx} {d : DefRec} {sp : PySem.W.Frag → TSp} {st : Stmt}
    (hn : l.most = some 63) (hdf : d.params.defaults = []) (hnm : d.name = "law") (hr : Room k callerA) (i : Nat) (hi : D.fn[i]? = some (dOf "law" st)) (gl : glB D.fa "law" = true)
    (hb : ∀ (kV doc pm : Value) (an : Option Addr) (cdv ct : Value) (us : List Value), us.length = (["script"] : List Str).length → bindArgs (PySem.W.fnOf "law" "law" (defArgs st) (defBody st) (defScope st) .none kV doc pm an cdv ct) ⟨us, []⟩ = pure ((["script"] : List Str).zip us))
    (F : ∀ (w : World) (K : PySem.W.Frag) (mg : Str → Option Value) (base : Heap), Tx D w K mg base → FnK l.prog w K mg base "law" k ["script"] (sp K)) (hsp : ∀ K, spEnd (D.TT K) (sp K)) :
    PySem.W.WalkO q loose XP (Yp D D.ts) l.row.toRowW d [] (fun f vs => PySem.call f vs) := by
  refine Att.attach_callB hn hdf fun w s₀ s₁ mg mb fa o pm cd doc a vs ns G Y ho hd hcd hmg hobj hints hlen hbits hg => ?_
  obtain ⟨K, KX, c⟩ := Y
  have hmg2 : mg "law" = some (.ref fa) := by rw [← hnm]; exact hmg
  obtain ⟨fd, Fd⟩ := c.t.d.def_ i hi
  have F' : FunD K "law" "law" (defArgs st) (defBody st) (defScope st) [] [] (He.ga K "law") fd := Fd
  obtain ⟨oc, od, dV, kV, doc', pm', an, cdv, ct, osl, e, lk, _⟩ := F'.ex
  have hga : fa = He.ga K "law" := by
    obtain ⟨f, hf, qf⟩ := List.any_eq_true.mp gl
    split at qf
    · rename_i y
      obtain rfl : y = "law" := of_decide_eq_true qf
      have := He.glo_ok KX G.T.g (c.t.d.facts hf)
      rw [hmg2] at this
      cases this
      rfl
    · cases qf
  subst hga
  have hz : 63 ≤ sizeLine := by decide
  have cT : ∀ p ∈ D.tf.map (fun p => He.cT K p.1), s₁.heap.get? p.2 = some { cls := .none, data := .fields #[] } := by
    intro p hp
    obtain ⟨r, hr, rfl⟩ := List.mem_map.mp hp
    exact c.empty _ (List.mem_map_of_mem hr)
  obtain ⟨H, FS⟩ := Fst.ex (P := l.prog) (w := w) (K := K) (cs := D.tf.map fun p => He.cT K p.1) KX cT hobj hints (Nat.le_trans hlen hz)
  have hH := FS.tab
  have hS := FS.scr
  refine FS.run (k := k) (fd := fd) (x := "script") (sp := LSp K (sp K)) KX G.T.g G.T.b G.T.builtins G.T.nolimit hg cT (fun p hp => ?_) (fun p hp => ?_) G.T.bmain hobj hr
    (fun base hK hG hT => ?_) (fun s u => F'.bindsA hb s [u] rfl) (fun E => ?_)
  · obtain ⟨r, hr, rfl⟩ := List.mem_map.mp hp
    exact c.out _ (List.mem_map_of_mem hr)
  · obtain ⟨r, hr, rfl⟩ := List.mem_map.mp hp
    exact PySem.W.codeHd_of_K KX (c.hd _ (List.mem_map_of_mem hr))
  · obtain ⟨fd2, h1, h2, oc2, od2, osl2, lk2⟩ := (F w K mg base ⟨hK, hG, c.t, c.more, fun p hp => hT _ (List.mem_map_of_mem hp)⟩).ex
    rw [lk] at lk2
    cases lk2
    exact h1
  · have hTT : ∀ p ∈ D.TT K, H p.1 = some (.tbl #[]) := fun p hp => by
      obtain ⟨r, hr, rfl⟩ := List.mem_map.mp hp
      exact hH _ (List.mem_map_of_mem hr)
    have hex := c.more
    have hnd : ((D.TT K).map (·.1)).Nodup := by
      have := of_decide_eq_true (Bool.and_eq_true_iff.mp hex).1
      unfold Fx.TT
      rw [List.map_map]
      exact this
    have hfind : ∀ (b : Addr) (p : Addr × Str), (D.TT K).find? (fun p => decide (p.1 = b)) = some p → p ∈ D.TT K ∧ p.1 = b := fun b p h => ⟨List.mem_of_find?_eq_some h, by have := List.find?_some h; exact of_decide_eq_true this⟩
    have hget : ∀ p ∈ D.TT K, (D.TT K).find? (fun r => decide (r.1 = p.1)) = some p := fun p hp => by
      cases hf : (D.TT K).find? (fun r => decide (r.1 = p.1)) with
      | none => exact absurd (decide_eq_true rfl) (List.find?_eq_none.mp hf p hp)
      | some r =>
        obtain ⟨h1, h2⟩ := hfind _ _ hf
        rw [nodup_map hnd r h1 p hp h2]
    have tb : ∀ o, (∀ q, o ≠ some (.tab q)) → Tbs (D.TT K) (startG (D.TT K) a o) := fun o ho => by
      refine ⟨fun p hp => ?_, fun b q hq => ?_⟩
      · unfold startG
        rw [hget p hp]
      · unfold startG at hq
        split at hq
        · rename_i p hf
          cases hq
          obtain ⟨h1, h2⟩ := hfind _ _ hf
          rw [← h2]
          exact h1
        · split at hq
          · exact absurd hq (ho q)
          · cases hq
    have rg : ∀ o, (∀ g, o = some g → RO K H a g) → RG K H (startG (D.TT K) a o) := fun o ho b g hq => by
      unfold startG at hq
      split at hq
      · rename_i p hf
        cases hq
        obtain ⟨h1, h2⟩ := hfind _ _ hf
        rw [← h2]
        exact LamX.TabS.nil (hTT p h1)
      · split at hq
        · rename_i hb
          subst hb
          exact ho g hq
        · cases hq
    have ka : Kont K H (fun t _ => t = .bl true) (fun v _ => v = V.bl true) := fun t v G' H' r _ _ e => by
      subst e
      cases r
      rfl
    rcases hS with (hS | ⟨ob, hS⟩) | hS
    · refine ⟨[.ref a], startG (D.TT K) a (some (.lst (ns.map T.int))), fun t _ => t = .bl true, .one rfl, rg _ fun g hg => ?_, ?_, ka⟩
      · cases hg
        exact ⟨_, hS, reps_ints ns⟩
      · refine hsp K _ ns _ _ hlen (.inr ⟨a, rfl, ?_⟩) (tb _ fun q z => by cases z) fun _ => rfl
        unfold startG
        split
        · rename_i p hf
          obtain ⟨h1, h2⟩ := hfind _ _ hf
          have := hTT p h1
          rw [h2, hS] at this
          cases this
        · rw [if_pos rfl]
    · refine ⟨[.fl (ns.map T.int)], startG (D.TT K) a none, fun t _ => t = .bl true, .one ?_, rg none (fun g hg => by cases hg), hsp K _ ns _ _ hlen (.inl rfl) (tb none fun q z => by cases z) fun _ => rfl, ka⟩
      simp only [Rep]
      exact ⟨a, _, rfl, .inl ⟨ob, hS⟩, reps_ints ns⟩
    · refine ⟨[.fl (ns.map T.int)], startG (D.TT K) a none, fun t _ => t = .bl true, .one ?_, rg none (fun g hg => by cases hg), hsp K _ ns _ _ hlen (.inl rfl) (tb none fun q z => by cases z) fun _ => rfl, ka⟩
      simp only [Rep]
      exact ⟨a, _, rfl, .inr hS, reps_ints ns⟩
end TL

namespace TL
open PySem PySem.Spec PyProof.Rows L2
theorem gupd_free {G : GH} {p q : Addr} {o : GO} (hp : G p = none) (hq : (G q).isSome = true) : gupd G p o q = G q := gupd_ne fun z => by subst z; rw [hp] at hq; cases hq
theorem gupd_none {G : GH} {p q : Addr} {o : GO} (hp : (G p).isSome = true) (hq : G q = none) : gupd G p o q = none := by
  rw [gupd_ne fun z => by subst z; rw [hq] at hp; cases hp]; exact hq
theorem ne_none {G : GH} {p q : Addr} {o : GO} (h : gupd G p o q = none) : q ≠ p ∧ G q = none := by
  by_cases z : q = p
  · subst z; rw [gupd_same] at h; cases h
  · rw [gupd_ne z] at h; exact ⟨z, h⟩
theorem Sub.drop {G0 G : GH} {p : Addr} {o : GO} (n : G0 p = none) (s : Sub G0 G) : Sub G0 (TL.gupd G p o) := fun a u e => by
  rw [gupd_ne fun z => by subst z; rw [n] at e; cases e]
  exact s a u e
theorem Sub.at {G0 G : GH} {p : Addr} {o : GO} (s : ∀ a u, a ≠ p → G0 a = some u → G a = some u) : Sub (TL.gupd G0 p o) (TL.gupd G p o) := fun a u e => by
  by_cases z : a = p
  · subst z; rw [gupd_same] at e ⊢; exact e
  · rw [gupd_ne z] at e ⊢; exact s a u z e
theorem wkR_new {R : TK} {v : T} {G : GH} {p : Addr} {o : GO} (n : G p = none) (h : R v G) : WkR R v (gupd G p o) := ⟨G, .gupd n, h⟩
theorem atI_lt {α : Type} {xs : List α} {i : Nat} {x : α} (h : xs[i]? = some x) : atI xs (i : Int) = some x := by
  have hl : i < xs.length := by
    rcases Nat.lt_or_ge i xs.length with h' | h'
    · exact h'
    · rw [List.getElem?_eq_none h'] at h; cases h
  unfold atI ixN
  rw [if_pos (by omega), if_pos (by omega)]
  simpa using h
theorem atI0 {α : Type} {x : α} {xs : List α} : atI (x :: xs) 0 = some x := atI_lt (i := 0) rfl
theorem atI1 {α : Type} {x y : α} {xs : List α} : atI (x :: y :: xs) 1 = some y := atI_lt (i := 1) rfl
theorem atI2 {α : Type} {x y z : α} {xs : List α} : atI (x :: y :: z :: xs) 2 = some z := atI_lt (i := 2) rfl
theorem atI3 {α : Type} {x y z u : α} {xs : List α} : atI (x :: y :: z :: u :: xs) 3 = some u := atI_lt (i := 3) rfl
theorem vix_tup {xs : List T} {i : Int} {G : GH} {R : TK} : vix (.tup xs) (.int i) G R = ∃ t, atI xs i = some t ∧ R t G := rfl
theorem vix_fl {xs : List T} {i : Int} {G : GH} {R : TK} : vix (.fl xs) (.int i) G R = ∃ t, atI xs i = some t ∧ R t G := rfl
theorem vix_lst {p : Addr} {xs : List T} {i : Int} {G : GH} {R : TK} {t : T} (h : G p = some (.lst xs)) (e : atI xs i = some t) (q : R t G) : vix (.ref p) (.int i) G R := ⟨t, .inl ⟨i, xs, rfl, h, e⟩, q⟩
theorem vix_dK {p : Addr} {kvs : List (Key × T)} {k : Key} {y : T} {G : GH} {R : TK} {t : T} (h : gd G p kvs) (ek : keyT y = some k) (e : lookT kvs k = some t) (q : R t G) : vix (.ref p) y G R := ⟨t, .inr ⟨kvs, k, h, ek, e⟩, q⟩
theorem veq_str {a b : Str} {G : GH} {R : TK} : veq (.str a) (.str b) G R = R (.bl (decide (a = b))) G := rfl
theorem vne_str {a b : Str} {G : GH} {R : TK} : vne (.str a) (.str b) G R = R (.bl (!decide (a = b))) G := rfl
theorem veq_int {a b : Int} {G : GH} {R : TK} : veq (.int a) (.int b) G R = R (.bl (decide (a = b))) G := rfl
theorem vne_int {a b : Int} {G : GH} {R : TK} : vne (.int a) (.int b) G R = R (.bl (!decide (a = b))) G := rfl
theorem vcmp_int {p : Int → Int → Bool} {a b : Int} {G : GH} {R : TK} : vcmp p (.int a) (.int b) G R = R (.bl (p a b)) G := rfl
theorem vadd_int {a b : Int} {G : GH} {R : TK} : vadd (.int a) (.int b) G R = R (.int (a + b)) G := rfl
theorem vaddI_int {a b : Int} {G : GH} {R : TK} : vaddI (.int a) (.int b) G R = R (.int (a + b)) G := rfl
theorem vadd_tup {a b : List T} {G : GH} {R : TK} : vadd (.tup a) (.tup b) G R = (a.length + b.length ≤ sizeLine ∧ R (.tup (a ++ b)) G) := rfl
theorem vadd_str {a b : Str} {G : GH} {R : TK} : vadd (.str a) (.str b) G R = (a.length + b.length ≤ sizeLine ∧ R (.str (a ++ b)) G) := rfl
theorem vsub_int {a b : Int} {G : GH} {R : TK} : vsub (.int a) (.int b) G R = R (.int (a - b)) G := rfl
theorem vI_int {C : Int → Int → Prop} {f : Int → Int → Int} {a b : Int} {G : GH} {R : TK} : vI C f (.int a) (.int b) G R = (C a b ∧ R (.int (f a b)) G) := rfl
theorem vlen_tup {xs : List T} {G : GH} {R : TK} : vlen [.tup xs] G R = R (.int xs.length) G := rfl
theorem vlen_fl {xs : List T} {G : GH} {R : TK} : vlen [.fl xs] G R = R (.int xs.length) G := rfl
theorem vlen_str {z : Str} {G : GH} {R : TK} : vlen [.str z] G R = (z.length ≤ sizeLine ∧ R (.int z.length) G) := rfl
theorem vtuple_tup {xs : List T} {G : GH} {R : TK} : vtuple [.tup xs] G R = R (.tup xs) G := rfl
theorem vtuple_ref {p : Addr} {G : GH} {R : TK} : vtuple [.ref p] G R = ∃ ys, G p = some (.lst ys) ∧ R (.tup ys) G := rfl
theorem vint_int {i : Int} {G : GH} {R : TK} : vint [.int i] G R = R (.int i) G := rfl
theorem vsl_tup {xs : List T} {lo hi : Option Int} {G : GH} {R : TK} : vsl (.tup xs) lo hi G R = R (.tup (cutT xs lo hi)) G := rfl
theorem cut_from1 {x : T} {xs : List T} : cutT (x :: xs) (some 1) none = xs := by
  unfold cutT
  have h : HT.sIx (x :: xs).length 0 (some 1) = 1 := by simp [HT.sIx]
  rw [h, HT.sIx_none]
  simp
theorem items_tup {xs : List T} {G : GH} {RT : List T → (GH → Prop) → GH → Prop} : items G RT (.tup xs) = RT xs (fun _ => True) G := rfl
theorem items_fl {xs : List T} {G : GH} {RT : List T → (GH → Prop) → GH → Prop} : items G RT (.fl xs) = RT xs (fun _ => True) G := rfl
theorem items_ref {p : Addr} {G : GH} {RT : List T → (GH → Prop) → GH → Prop} : items G RT (.ref p) = ∃ xs, G p = some (.lst xs) ∧ RT xs (fun G' => G' p = some (.lst xs)) G := rfl
theorem gcons_cons {t : TTG} {u : TTGs} {x : T} {r : List T} {st : TSt} {G : GH} {R : TSt → GH → Prop} : gcons t u (x :: r) st G R = t x st G fun st' G' => u r st' G' R :=
  propext ⟨fun ⟨x', r', e, h⟩ => by cases e; exact h, fun h => ⟨x, r, rfl, h⟩⟩
theorem gnil_nil {st : TSt} {G : GH} {R : TSt → GH → Prop} : gnil [] st G R = R st G := propext ⟨fun h => h.2, fun h => ⟨rfl, h⟩⟩
theorem gtup_tup {n : Nat} {t : TTGs} {xs : List T} {st : TSt} {G : GH} {R : TSt → GH → Prop} : gtup n t (.tup xs) st G R = (xs.length = n ∧ t xs st G R) :=
  propext ⟨fun ⟨x', e, h⟩ => by cases e; exact h, fun h => ⟨xs, rfl, h⟩⟩
theorem truth_bl {G : GH} {b c : Bool} : truth G (.bl b) c = (c = b) := rfl
theorem truth_non {G : GH} {c : Bool} : truth G .non c = (c = false) := rfl
theorem truth_int {G : GH} {i : Int} {c : Bool} : truth G (.int i) c = (c = (i != 0)) := rfl
theorem truth_tup {G : GH} {xs : List T} {c : Bool} : truth G (.tup xs) c = (c = !xs.isEmpty) := rfl
theorem truth_fl {G : GH} {xs : List T} {c : Bool} : truth G (.fl xs) c = (c = !xs.isEmpty) := rfl
/-- what zip walks -/
def zipP (vs : List T) (G : GH) (RT : List T → (GH → Prop) → GH → Prop) : Prop := ∃ x y xs ys kx ky, vs = [x, y] ∧ Sqn G x xs kx ∧ Sqn G y ys ky ∧ RT (List.zipWith (fun a b => T.tup [a, b]) xs ys) (fun G' => kx G' ∧ ky G') G
theorem izip_eq {t : TTA} {st : TSt} {G : GH} {RT : List T → (GH → Prop) → GH → Prop} : izip t st G RT = t st G fun vs G1 => zipP vs G1 RT := rfl
theorem zipP_mk {x y : T} {xs ys : List T} {kx ky : GH → Prop} {G : GH} {RT : List T → (GH → Prop) → GH → Prop} (hx : Sqn G x xs kx) (hy : Sqn G y ys ky) (h : RT (List.zipWith (fun a b => T.tup [a, b]) xs ys) (fun G' => kx G' ∧ ky G') G) : zipP [x, y] G RT := ⟨x, y, xs, ys, kx, ky, rfl, hx, hy, h⟩
theorem isL {G : GH} {p : Addr} : (∃ q xs, p = q ∧ G q = some (.lst xs)) = ∃ xs, G p = some (.lst xs) := propext ⟨fun ⟨q, xs, e, h⟩ => (by cases e; exact ⟨xs, h⟩), fun ⟨xs, h⟩ => ⟨p, xs, rfl, h⟩⟩
theorem mappend_ref {p : Addr} {t : T} {G : GH} {R : TK} : mappend (.ref p) [t] G R = ∃ ys, G p = some (.lst ys) ∧ ys.length < sizeLine ∧ R .non (gupd G p (.lst (ys ++ [t]))) :=
  propext ⟨fun ⟨q, ys, t', e, e2, h⟩ => (by cases e; cases e2; exact ⟨ys, h⟩), fun ⟨ys, h⟩ => ⟨p, ys, t, rfl, rfl, h⟩⟩
theorem mpop_ref {p : Addr} {G : GH} {R : TK} : mpop (.ref p) [] G R = ∃ ys t, G p = some (.lst ys) ∧ ys[ys.length - 1]? = some t ∧ R t (gupd G p (.lst ys.dropLast)) :=
  propext ⟨fun ⟨q, ys, t', e, e2, h⟩ => (by cases e; exact ⟨ys, t', h⟩), fun ⟨ys, t', h⟩ => ⟨p, ys, t', rfl, rfl, h⟩⟩
theorem pop_mk {p : Addr} {G : GH} {R : TK} {ys : List T} {t : T} (h : G p = some (.lst (ys ++ [t]))) (q : R t (gupd G p (.lst ys))) : mpop (.ref p) [] G R := ⟨p, _, t, rfl, rfl, h, by simp, by simpa using q⟩
theorem mextend_tup {p : Addr} {zs : List T} {G : GH} {R : TK} : mextend (.ref p) [.tup zs] G R = ∃ ys, G p = some (.lst ys) ∧ ys.length + zs.length ≤ sizeLine ∧ R .non (gupd G p (.lst (ys ++ zs))) :=
  propext ⟨fun ⟨q, ys, t', e, e2, h⟩ => (by
    cases e
    rcases e2 with e2 | ⟨r, e2, _⟩
    · cases e2; exact ⟨ys, h⟩
    · cases e2), fun ⟨ys, h⟩ => ⟨p, ys, zs, rfl, .inl rfl, h⟩⟩
/-- o[i] = v, by values -/
def putP (x y v : T) (st : TSt) (nx : TSt → GH → Prop) (G : GH) : Prop := ∃ p, x = .ref p ∧ ((∃ kvs k, G p = some (.dK kvs) ∧ keyT y = some k ∧ kvs.length < sizeLine ∧ nx st (gupd G p (.dK (putT kvs k v)))) ∨ ∃ xs k j, y = .int k ∧ G p = some (.lst xs) ∧ ixN xs.length k = some j ∧ nx st (gupd G p (.lst (xs.set j v))))
theorem tput_eq {to ti tv : TTE} {D : TEnds} {st : TSt} {G : GH} : tput to ti tv D st G = tv st G fun v G1 => to st G1 fun x G2 => ti st G2 fun y G3 => putP x y v st D.nx G3 := rfl
theorem put_dK {p : Addr} {y v : T} {st : TSt} {nx : TSt → GH → Prop} {G : GH} {kvs : List (Key × T)} {k : Key} (h : G p = some (.dK kvs)) (e : keyT y = some k) (l : kvs.length < sizeLine) (q : nx st (gupd G p (.dK (putT kvs k v)))) : putP (.ref p) y v st nx G := ⟨p, rfl, .inl ⟨kvs, k, h, e, l, q⟩⟩
theorem put_lst {p : Addr} {v : T} {i : Int} {st : TSt} {nx : TSt → GH → Prop} {G : GH} {xs : List T} {j : Nat} (h : G p = some (.lst xs)) (e : ixN xs.length i = some j) (q : nx st (gupd G p (.lst (xs.set j v)))) : putP (.ref p) (.int i) v st nx G := ⟨p, rfl, .inr ⟨xs, i, j, rfl, h, e, q⟩⟩
theorem list_dK {p : Addr} {kvs : List (Key × T)} {G : GH} {R : TK} (h : G p = some (.dK kvs)) (q : ∀ l, G l = none → R (.ref l) (gupd G l (.lst (kvs.map fun kv => kT kv.1)))) : vlist [.ref p] G R := .inr ⟨kvs, .inl h, q⟩
theorem list_lst {p : Addr} {xs : List T} {G : GH} {R : TK} (h : G p = some (.lst xs)) (q : ∀ l, G l = none → R (.ref l) (gupd G l (.lst xs))) : vlist [.ref p] G R := .inl ⟨xs, h, q⟩
theorem vlist_tup {xs : List T} {G : GH} {R : TK} : vlist [.tup xs] G R = ∀ l, G l = none → R (.ref l) (gupd G l (.lst xs)) := rfl
def rng1 (xs : List T) (G : GH) (RT : List T → (GH → Prop) → GH → Prop) : Prop := ∃ j : Int, xs = [.int j] ∧ -(2 ^ 62) ≤ j ∧ j < 2 ^ 62 ∧ RT (rangeT 0 j.toNat) (fun _ => True) G
def rng2 (xs : List T) (G : GH) (RT : List T → (GH → Prop) → GH → Prop) : Prop := ∃ i j : Int, xs = [.int i, .int j] ∧ (-(2 ^ 62) ≤ i ∧ i < 2 ^ 62 ∧ -(2 ^ 62) ≤ j ∧ j < 2 ^ 62) ∧ RT (rangeT i (j - i).toNat) (fun _ => True) G
theorem irange1_eq {t : TTA} {st : TSt} {G : GH} {RT : List T → (GH → Prop) → GH → Prop} : irange1 t st G RT = t st G fun xs G1 => rng1 xs G1 RT := rfl
theorem irange2_eq {t : TTA} {st : TSt} {G : GH} {RT : List T → (GH → Prop) → GH → Prop} : irange2 t st G RT = t st G fun xs G1 => rng2 xs G1 RT := rfl
theorem rng1_nat {n : Nat} {G : GH} {RT : List T → (GH → Prop) → GH → Prop} (h : n < 2 ^ 62) (q : RT ((List.range n).map fun (i : Nat) => T.int (i : Int)) (fun _ => True) G) : rng1 [.int (n : Int)] G RT := by
  refine ⟨n, rfl, by omega, by omega, ?_⟩
  have e : rangeT 0 ((n : Int)).toNat = (List.range n).map fun (i : Nat) => T.int (i : Int) := by
    unfold rangeT
    rw [Int.toNat_natCast]
    refine List.map_congr_left fun i _ => ?_
    rw [Int.zero_add]
  rw [e]
  exact q
theorem rng1_lit {j : Int} {G : GH} {RT : List T → (GH → Prop) → GH → Prop} (n : Nat) (e : j = (n : Int)) (h : n < 2 ^ 62) (q : RT ((List.range n).map fun (i : Nat) => T.int (i : Int)) (fun _ => True) G) : rng1 [.int j] G RT := by
  subst e; exact rng1_nat h q
theorem rng2_nat {a b : Nat} {G : GH} {RT : List T → (GH → Prop) → GH → Prop} (h : b < 2 ^ 62) (ha : a < 2 ^ 62) (q : RT ((List.range (b - a)).map fun (i : Nat) => T.int ((a + i : Nat) : Int)) (fun _ => True) G) : rng2 [.int (a : Int), .int (b : Int)] G RT := by
  refine ⟨a, b, rfl, ⟨by omega, by omega, by omega, by omega⟩, ?_⟩
  have e : rangeT (a : Int) ((b : Int) - (a : Int)).toNat = (List.range (b - a)).map fun (i : Nat) => T.int ((a + i : Nat) : Int) := by
    unfold rangeT
    rw [show ((b : Int) - (a : Int)).toNat = b - a by omega]
    refine List.map_congr_left fun i _ => ?_
    rw [Int.natCast_add]
  rw [e]
  exact q
theorem g2_p {G : GH} {p q : Addr} {A B : GO} (h : q ≠ p) : gupd (gupd G p A) q B p = some A := by rw [gupd_ne (Ne.symm h), gupd_same]
theorem g2_setp {G : GH} {p q : Addr} {A B A' : GO} (h : q ≠ p) : gupd (gupd (gupd G p A) q B) p A' = gupd (gupd G p A') q B := by
  rw [gupd_comm h, gupd_gupd]
theorem g2_setq {G : GH} {p q : Addr} {A B B' : GO} : gupd (gupd (gupd G p A) q B) q B' = gupd (gupd G p A) q B' := gupd_gupd
theorem truth_ref {G : GH} {p : Addr} {xs : List T} {c : Bool} (h : G p = some (.lst xs)) (hc : c = !xs.isEmpty) : truth G (.ref p) c := .inl ⟨xs, h, hc⟩
theorem truth_dK {G : GH} {p : Addr} {xs : List (Key × T)} {c : Bool} (h : G p = some (.dK xs)) (hc : c = !xs.isEmpty) : truth G (.ref p) c := .inr ⟨xs, h, hc⟩
theorem last_app {α : Type} {xs : List α} {x : α} : (xs ++ [x])[(xs ++ [x]).length - 1]? = some x := by simp
theorem Less.nil : Less [] [] := ⟨rfl, fun i t e => by simp at e⟩
theorem Less.same {a b : TSt} {x : Option T} (h : Less a b) : Less (x :: a) (x :: b) := by
  refine ⟨by simp [h.1], fun i t e => ?_⟩
  cases i with
  | zero => exact e
  | succ i => exact h.2 i t (by simpa using e)
theorem Less.none {a b : TSt} {x : Option T} (h : Less a b) : Less (Option.none :: a) (x :: b) := by
  refine ⟨by simp [h.1], fun i t e => ?_⟩
  cases i with
  | zero => simp at e
  | succ i => exact h.2 i t (by simpa using e)
theorem Less.blank : ∀ {n : Nat} {st : TSt}, st.length = n → Less (List.replicate n Option.none) st
  | 0, [], _ => .nil
  | n + 1, x :: r, h => by
    rw [List.replicate_succ]
    exact .none (Less.blank (by simpa using h))
theorem Wk.mk {P : TSt → GH → Prop} {st0 st : TSt} {G0 G : GH} (h : P st0 G0) (l : Less st0 st) (s : Sub G0 G) : Wk P st G := ⟨st0, G0, l, s, h⟩
/-- for: I: what holds ahead of the turns that are left -/
theorem for_inv {α : Type} {keep : GH → Prop} {g : TTG} {tb : TTS} {D : TEnds} (enc : α → T) (I : List α → TSt → GH → Prop)
    (step : ∀ x xs st G (N : TSt → GH → Prop), (∀ st G, Wk (I xs) st G → N st G) → I (x :: xs) st G → keep G ∧ g (enc x) st G fun st2 G2 => tb { D with nx := N, ct := N, bk := D.nx } st2 G2)
    (fin : ∀ st G, I [] st G → keep G ∧ D.nx st G) : ∀ xs st G, I xs st G → forGo keep g tb D (xs.map enc) st G
  | [], st, G, h => fin st G h
  | x :: xs, st, G, h => step x xs st G _ (fun st' G' ⟨st0, G0, l, s, q⟩ => ⟨st0, G0, l, s, for_inv enc I step fin xs st0 G0 q⟩) h
/-- a comprehension: I: what holds ahead of the turns that are left, acc being made -/
theorem lc_inv {α : Type} {keep : GH → Prop} {g : TTG} {tt : TTT} {te : TTE} {vs : List Nat} {D : Addr} {R : TK} {st : TSt} (enc : α → T) (I : List α → List T → GH → Prop)
    (step : ∀ x xs acc G (N : GH → Prop), (∀ acc G, WkG (I xs acc) G → N G) → I (x :: xs) acc G → keep G ∧ g (enc x) (twipe st vs) G fun st2 G2 => tt st2 G2 fun b G3 =>
      if b = true then te st2 G3 fun y G4 => ∃ acc, G4 D = some (.lst acc) ∧ acc.length < sizeLine ∧ N (gupd G4 D (.lst (acc ++ [y]))) else N G3)
    (fin : ∀ acc G, I [] acc G → keep G ∧ R (.ref D) G) : ∀ xs acc G, I xs acc G → lcGo keep g tt te vs D R st (xs.map enc) G
  | [], acc, G, h => fin acc G h
  | x :: xs, acc, G, h => step x xs acc G _ (fun acc' G' ⟨G0, s, q⟩ => ⟨G0, s, lc_inv enc I step fin xs acc' G0 q⟩) h
/-- [f(x) for x in xs]: an element that changes nothing -/
theorem lc_map {α : Type} {keep : GH → Prop} {g : TTG} {te : TTE} {vs : List Nat} {D : Addr} {R : TK} {st : TSt} {G : GH} (enc : α → T) (f : α → T) (xs : List α) (hk : ∀ acc, keep (gupd G D (.lst acc))) (hlen : xs.length ≤ sizeLine)
    (hx : ∀ x ∈ xs, ∀ acc (N : TK), N (f x) (gupd G D (.lst acc)) → g (enc x) (twipe st vs) (gupd G D (.lst acc)) fun st2 G2 => te st2 G2 N) (hR : R (.ref D) (gupd G D (.lst (xs.map f)))) :
    lcGo keep g tyes te vs D R st (xs.map enc) (gupd G D (.lst [])) := by
  refine lc_inv (α := α) enc (fun ys acc G' => G' = gupd G D (.lst acc) ∧ ∃ zs, xs = zs ++ ys ∧ acc = zs.map f) ?_ ?_ xs [] _ ⟨rfl, [], rfl, rfl⟩
  · rintro x ys acc G' N hN ⟨rfl, zs, e, rfl⟩
    refine ⟨hk _, ?_⟩
    refine hx x (by rw [e]; simp) (zs.map f) _ ⟨_, gupd_same, ?_, ?_⟩
    · rw [e] at hlen
      simp at hlen ⊢
      omega
    · rw [gupd_gupd]
      exact hN (zs.map f ++ [f x]) _ (.of ⟨rfl, zs ++ [x], by rw [e]; simp, by simp⟩)
  · rintro acc G' ⟨rfl, zs, e, rfl⟩
    simp at e
    subst e
    exact ⟨hk _, hR⟩
end TL

namespace TL
open PySem PySem.Spec PyProof.Rows L2
local macro_rules | `(tactic| walk_at "tl") => `(tactic| try simp +decide only [tseq, tasg, tifs, tbool, tret, tretN, tdrop, tnext, tcont, tbreak, gname, gtup_tup, gcons_cons, gnil_nil, GO.lst.injEq, GO.dK.injEq, top, tvar, tcon, tun, ttup, tlst, tacons, tanil, tcb, tcall, tife, tand, tor, tnot, tandV, torV, tnotV, tisN, tnotN, T.isNon, ttruth, truth_bl, truth_non, truth_int, truth_tup, truth_fl, tsl, tpart, tnopart, tsortk, tlc, tfor, iany, irev, irange1_eq, irange2_eq, items_tup, items_fl, items_ref, twipe, List.set, izip_eq, tput_eq, vlist_tup, tmeth, isL, mappend_ref, mextend_tup, trev, exists_eq, exists_eq', 
  vix_tup, vix_fl, veq_str, vne_str, veq_int, vne_int, vcmp_int, vadd_int, vaddI_int, vadd_tup, vadd_str, vsub_int, vI_int, vlen_tup, vlen_fl, vlen_str, vtuple_tup, vtuple_ref, vint_int, vsl_tup, cut_from1, atI0, atI1, atI2, atI3, taug,
  startT, List.map_cons, List.map_nil, List.length_cons, List.length_nil, List.cons_append, List.nil_append, List.getElem?_cons_zero, List.getElem?_cons_succ, List.set_cons_zero, List.set_cons_succ, List.replicate, Option.some.injEq, exists_eq_left', exists_eq_left, T.bl.injEq, T.int.injEq, T.str.injEq, T.tup.injEq, T.ref.injEq, if_true, if_false, ite_true, ite_false, true_and, and_true, reduceCtorEq, gupd_same, gupd_gupd, Option.map_some, Option.map_none, Option.isSome_some, Option.isSome_none, Bool.not_true, Bool.not_false, Bool.true_eq_false, Bool.false_eq_true, List.cons.injEq, decide_true, decide_false])
inductive Ty where
  | num | tru | var (a : Str) | fn (a b : Ty) | rcd (fs : List (Str × Ty)) (e : Option Str)
def encE : Option Str → T
  | none => .non
  | some r => .str r
mutual
def Ty.enc : Ty → T
  | .num => .tup [.str "number"]
  | .tru => .tup [.str "truth"]
  | .var a => .tup [.str "var", .str a]
  | .fn a b => .tup [.str "fun", a.enc, b.enc]
  | .rcd fs e => .tup [.str "record", .tup (encFs fs), encE e]
def encFs : List (Str × Ty) → List T
  | [] => []
  | (l, t) :: r => .tup [.str l, t.enc] :: encFs r
end
theorem encFs_map (fs : List (Str × Ty)) : encFs fs = fs.map fun p => T.tup [.str p.1, p.2.enc] := by
  induction fs with
  | nil => rfl
  | cons p r ih => obtain ⟨l, t⟩ := p; rw [encFs, ih]; rfl
def Ty.kids : Ty → List Ty
  | .fn a b => [a, b]
  | .rcd fs _ => fs.map (·.2)
  | _ => []
def t_type_parts : TTS :=
  (tseq (tifs (tbool (top veq (top vix (tvar 0) (tcon (.int 0))) (tcon (.str "fun"))))
  (tret (tsl (tvar 0) (tpart (tcon (.int 1))) tnopart))
  tnext)
  (tseq (tifs (tbool (top veq (top vix (tvar 0) (tcon (.int 0))) (tcon (.str "record"))))
  (tret (tcb vtuple (tacons (tlc (iany (top vix (tvar 0) (tcon (.int 1)))) (gtup 2 (gcons (gname 1) (gcons (gname 2) gnil))) tyes (tvar 2) [1, 2]) tanil)))
  tnext)
  (tret (ttup tanil))))

def sp_type_parts : TSp := fun ts G R => (∃ t : Ty, ts = [t.enc] ∧ t.kids.length ≤ sizeLine ∧ R (.tup (t.kids.map Ty.enc)) G) ∨ ∃ r, ts = [.tup [.str "end", .str r]] ∧ R (.tup []) G
theorem pure_type_parts (ts : List T) (G : GH) (R : TK) (h : sp_type_parts ts G R) : t_type_parts { nx := fun _ G' => WkR R .non G', rt := WkR R } (startT ["given", "_", "inner"] ts) G := by
  unfold t_type_parts
  obtain ⟨t, rfl, hl, h⟩ | ⟨r, rfl, h⟩ := h
  case inr => walk_at "tl"; exact .of h
  cases t with
  | num => simp only [Ty.enc]; walk_at "tl"; exact .of h
  | tru => simp only [Ty.enc]; walk_at "tl"; exact .of h
  | var a => simp only [Ty.enc]; walk_at "tl"; exact .of h
  | fn a b => simp only [Ty.enc]; walk_at "tl"; exact .of h
  | rcd fs e =>
    simp only [Ty.enc]; walk_at "tl"
    intro D hD
    rw [encFs_map]
    refine lc_map (α := Str × Ty) _ (fun p => p.2.enc) fs (fun _ => trivial) (by simpa [Ty.kids] using hl) (fun p _ acc N hN => ?_) ?_
    · walk_at "tl"; exact hN
    · walk_at "tl"
      refine wkR_new hD ?_
      simpa [Ty.kids, Function.comp_def] using h
/-- the type with other kids -/
def Ty.withK : Ty → List Ty → Ty
  | .fn _ _, [a, b] => .fn a b
  | .rcd fs e, ks => .rcd (List.zipWith (fun p k => (p.1, k)) fs ks) e
  | t, _ => t
theorem zip_enc (fs : List (Str × Ty)) (ks : List Ty) : List.zipWith (fun a b => T.tup [a, b]) (encFs fs) (ks.map Ty.enc) = (fs.zip ks).map fun p => T.tup [.tup [.str p.1.1, p.1.2.enc], p.2.enc] := by
  rw [encFs_map]
  induction fs generalizing ks with
  | nil => rfl
  | cons p r ih => cases ks with
    | nil => rfl
    | cons k ks => simp only [List.map_cons, List.zipWith_cons_cons, List.zip_cons_cons, ih]
def t_with_parts : TTS :=
  (tseq (tifs (tbool (top veq (top vix (tvar 0) (tcon (.int 0))) (tcon (.str "fun"))))
  (tret (ttup (tacons (tcon (.str "fun")) (tacons (top vix (tvar 1) (tcon (.int 0))) (tacons (top vix (tvar 1) (tcon (.int 1))) tanil)))))
  tnext)
  (tseq (tifs (tbool (top veq (top vix (tvar 0) (tcon (.int 0))) (tcon (.str "record"))))
  (tseq (tasg (tlc (izip (tacons (top vix (tvar 0) (tcon (.int 1))) (tacons (tvar 1) tanil))) (gtup 2 (gcons (gtup 2 (gcons (gname 3) (gcons (gname 4) gnil))) (gcons (gname 5) gnil))) tyes (ttup (tacons (tvar 3) (tacons (tvar 5) tanil))) [5, 3, 4]) (gname 2))
  (tret (ttup (tacons (tcon (.str "record")) (tacons (tcb vtuple (tacons (tvar 2) tanil)) (tacons (top vix (tvar 0) (tcon (.int 2))) tanil))))))
  tnext)
  (tret (tvar 0))))

def sp_with_parts : TSp := fun ts G R => ∃ (t : Ty) (ks : List Ty) (p : Addr), ts = [t.enc, .ref p] ∧ G p = some (.lst (ks.map Ty.enc)) ∧ ks.length = t.kids.length ∧ ks.length ≤ sizeLine ∧ R (t.withK ks).enc G
theorem pure_with_parts (ts : List T) (G : GH) (R : TK) (h : sp_with_parts ts G R) : t_with_parts { nx := fun _ G' => WkR R .non G', rt := WkR R } (startT ["given", "parts", "fields", "label", "_", "inner"] ts) G := by
  obtain ⟨t, ks, p, rfl, hp, hk, hl, h⟩ := h
  unfold t_with_parts
  cases t with
  | num => simp only [Ty.enc]; walk_at "tl"; exact .of h
  | tru => simp only [Ty.enc]; walk_at "tl"; exact .of h
  | var a => simp only [Ty.enc]; walk_at "tl"; exact .of h
  | fn a b =>
    obtain ⟨x, y, rfl⟩ : ∃ x y, ks = [x, y] := by
      match ks, hk with
      | [x, y], _ => exact ⟨x, y, rfl⟩
    simp only [Ty.enc]; walk_at "tl"
    refine vix_lst hp atI0 (vix_lst hp atI1 ?_)
    exact .of h
  | rcd fs e =>
    simp only [Ty.enc]; walk_at "tl"
    refine zipP_mk (.tup _) (.ref hp) fun D hD => ?_
    rw [zip_enc]
    refine lc_map (α := (Str × Ty) × Ty) _ (fun p => T.tup [.str p.1.1, p.2.enc]) (fs.zip ks) (fun acc => ⟨trivial, ?_⟩) ?_ (fun q _ acc N hN => ?_) ?_
    · rw [gupd_free hD (by rw [hp]; rfl)]; exact hp
    · rw [List.length_zip]; omega
    · walk_at "tl"; exact hN
    · walk_at "tl"
      refine wkR_new hD ?_
      have e1 : List.map (fun q : (Str × Ty) × Ty => T.tup [.str q.1.1, q.2.enc]) (fs.zip ks) = encFs (List.zipWith (fun p k => (p.1, k)) fs ks) := by
        rw [encFs_map, List.zip_eq_zipWith, List.map_zipWith, List.map_zipWith]
      rw [e1]
      exact h
mutual
def Ty.pre : Ty → List Ty
  | .fn a b => .fn a b :: (a.pre ++ b.pre)
  | .rcd fs e => .rcd fs e :: presF fs
  | t => [t]
def presF : List (Str × Ty) → List Ty
  | [] => []
  | (_, t) :: r => t.pre ++ presF r
end
theorem presF_eq (fs : List (Str × Ty)) : presF fs = (fs.map (·.2)).flatMap Ty.pre := by
  induction fs with
  | nil => rfl
  | cons p r ih => obtain ⟨l, t⟩ := p; rw [presF, ih]; rfl
theorem Ty.pre_eq (t : Ty) : t.pre = t :: t.kids.flatMap Ty.pre := by
  cases t with
  | fn a b => simp [Ty.pre, Ty.kids]
  | rcd fs e => rw [Ty.pre, presF_eq]; rfl
  | _ => rfl
theorem Ty.pre_pos (t : Ty) : 1 ≤ t.pre.length := by rw [t.pre_eq]; simp
theorem flat_len (ts : List Ty) : ts.length ≤ (ts.flatMap Ty.pre).length := by
  induction ts with
  | nil => simp
  | cons t r ih => have := t.pre_pos; simp only [List.flatMap_cons, List.length_append, List.length_cons]; omega
theorem Ty.kids_len (t : Ty) : t.kids.length < t.pre.length := by rw [t.pre_eq]; have := flat_len t.kids; simp only [List.length_cons]; omega
def t_all_types : TTS :=
  (tseq (tasg (tlst tanil) (gname 1))
  (tseq (tasg (tlst (tacons (tvar 0) tanil)) (gname 2))
  (tseq (twhile (ttruth (tvar 2))
  (tseq (tasg (tmeth mpop (tvar 2) tanil) (gname 3))
  (tseq (tdrop (tmeth mappend (tvar 1) (tacons (tvar 3) tanil)))
  (tdrop (tmeth mextend (tvar 2) (tacons (trev (tcall sp_type_parts (tacons (tvar 3) tanil))) tanil))))))
  (tret (tvar 1)))))

def sp_all_types : TSp := fun ts G R => ∃ t : Ty, ts = [t.enc] ∧ t.pre.length ≤ sizeLine ∧ ∀ p, G p = none → R (.ref p) (gupd G p (.lst (t.pre.map Ty.enc)))
theorem pure_all_types (ts : List T) (G : GH) (R : TK) (h : sp_all_types ts G R) : t_all_types { nx := fun _ G' => WkR R .non G', rt := WkR R } (startT ["given", "found", "waiting", "part"] ts) G := by
  obtain ⟨t, rfl, hl, h⟩ := h
  unfold t_all_types
  walk_at "tl"
  intro p hp q hq0
  obtain ⟨hqp, hq⟩ := ne_none hq0
  refine ⟨fun m st G' => ∃ F W : List Ty, st = [some t.enc, some (.ref p), some (.ref q), none] ∧ G' = gupd (gupd G p (.lst (F.map Ty.enc))) q (.lst (W.map Ty.enc)) ∧ F ++ W.reverse.flatMap Ty.pre = t.pre ∧ m = (W.reverse.flatMap Ty.pre).length, ⟨_, [], [t], rfl, rfl, by simp, rfl⟩, ?_⟩
  rintro m st G' ⟨F, W, rfl, rfl, hF, rfl⟩
  have hlen := congrArg List.length hF
  rw [List.length_append] at hlen
  walk_at "tl"
  refine ⟨_, truth_ref gupd_same rfl, ?_⟩
  rcases List.eq_nil_or_concat W with rfl | ⟨W', u, rfl⟩
  · walk_at "tl"
    have eF : F = t.pre := by simpa using hF
    subst eF
    exact ⟨_, Sub.gupd (by rw [gupd_ne hqp]; exact hq), h p hp⟩
  · have hk : (W' ++ [u]).reverse.flatMap Ty.pre = u :: (u.kids.flatMap Ty.pre ++ W'.reverse.flatMap Ty.pre) := by
      simp only [List.reverse_append, List.reverse_cons, List.reverse_nil, List.nil_append, List.cons_append, List.flatMap_cons]
      rw [u.pre_eq]
      rfl
    rw [List.concat_eq_append] at *
    rw [hk] at hlen
    simp only [List.length_cons, List.length_append] at hlen
    have w1 := flat_len u.kids
    have w2 := flat_len W'.reverse
    rw [List.length_reverse] at w2
    have e1 : (!(List.map Ty.enc (W' ++ [u])).isEmpty) = true := by simp
    rw [e1]
    walk_at "tl"
    refine pop_mk (t := u.enc) (ys := W'.map Ty.enc) (by rw [gupd_same, List.map_append]; rfl) ?_
    rw [g2_setq]
    walk_at "tl"
    refine ⟨⟨_, g2_p hqp⟩, _, g2_p hqp, by rw [List.length_map]; omega, ?_⟩
    rw [g2_setp hqp]
    walk_at "tl"
    refine .inl ⟨u, rfl, by omega, ?_⟩
    walk_at "tl"
    refine ⟨by rw [List.length_reverse, List.length_map, List.length_map]; omega, (u.kids.flatMap Ty.pre ++ W'.reverse.flatMap Ty.pre).length, by rw [hk]; simp, ?_⟩
    refine Wk.mk ⟨F ++ [u], W' ++ u.kids.reverse, rfl, ?_, ?_, ?_⟩ (.same (.same (.same (.none .nil)))) .refl
    · simp
    · rw [hk] at hF
      simpa using hF
    · simp
end TL

namespace TL
open PySem PySem.Spec PyProof.Rows L2
local macro_rules | `(tactic| walk_at "tl") => `(tactic| try simp +decide only [tseq, tasg, tifs, tbool, tret, tretN, tdrop, tnext, tcont, tbreak, gname, gtup_tup, gcons_cons, gnil_nil, GO.lst.injEq, GO.dK.injEq, top, tvar, tcon, tun, ttup, tlst, tacons, tanil, tcb, tcall, tife, tand, tor, tnot, tandV, torV, tnotV, tisN, tnotN, T.isNon, ttruth, truth_bl, truth_non, truth_int, truth_tup, truth_fl, tsl, tpart, tnopart, tsortk, tlc, tfor, iany, irev, irange1_eq, irange2_eq, items_tup, items_fl, items_ref, twipe, List.set, izip_eq, tput_eq, vlist_tup, tmeth, isL, mappend_ref, mextend_tup, trev, exists_eq, exists_eq', 
  vix_tup, vix_fl, veq_str, vne_str, veq_int, vne_int, vcmp_int, vadd_int, vaddI_int, vadd_tup, vadd_str, vsub_int, vI_int, vlen_tup, vlen_fl, vlen_str, vtuple_tup, vtuple_ref, vint_int, vsl_tup, cut_from1, atI0, atI1, atI2, atI3, taug,
  startT, List.map_cons, List.map_nil, List.length_cons, List.length_nil, List.cons_append, List.nil_append, List.getElem?_cons_zero, List.getElem?_cons_succ, List.set_cons_zero, List.set_cons_succ, List.replicate, Option.some.injEq, exists_eq_left', exists_eq_left, T.bl.injEq, T.int.injEq, T.str.injEq, T.tup.injEq, T.ref.injEq, if_true, if_false, ite_true, ite_false, true_and, and_true, reduceCtorEq, gupd_same, gupd_gupd, Option.map_some, Option.map_none, Option.isSome_some, Option.isSome_none, Bool.not_true, Bool.not_false, Bool.true_eq_false, Bool.false_eq_true, List.cons.injEq, decide_true, decide_false])
def occE : Option Str → List (Str × Bool)
  | none => []
  | some r => [(r, true)]
mutual
def Ty.occ : Ty → List (Str × Bool)
  | .var a => [(a, false)]
  | .fn a b => a.occ ++ b.occ
  | .rcd fs e => occF fs ++ occE e
  | _ => []
def occF : List (Str × Ty) → List (Str × Bool)
  | [] => []
  | (_, t) :: r => t.occ ++ occF r
end
theorem occF_eq (fs : List (Str × Ty)) : occF fs = (fs.map (·.2)).flatMap Ty.occ := by
  induction fs with
  | nil => rfl
  | cons p r ih => obtain ⟨l, t⟩ := p; rw [occF, ih]; rfl
/-- what the stack of occurrences holds -/
inductive OI where
  | ty (t : Ty) | en (r : Str)
def OI.enc : OI → T
  | .ty t => t.enc
  | .en r => .tup [.str "end", .str r]
def OI.occ : OI → List (Str × Bool)
  | .ty t => t.occ
  | .en r => [(r, true)]
def OI.wt : OI → Nat
  | .ty t => 2 * t.pre.length
  | .en _ => 1
def encO (o : Str × Bool) : T := .tup [.str o.1, .bl o.2]
def wts (W : List OI) : Nat := (W.map OI.wt).sum
theorem wts_app (a b : List OI) : wts (a ++ b) = wts a + wts b := by simp [wts]
theorem wts_kids (ts : List Ty) : wts (ts.map OI.ty) = 2 * (ts.flatMap Ty.pre).length := by
  induction ts with
  | nil => rfl
  | cons t r ih => rw [List.map_cons, ← List.singleton_append, wts_app, ih, List.flatMap_cons, List.length_append]; simp [wts, OI.wt]; omega
theorem wts_rev (W : List OI) : wts W.reverse = wts W := by
  unfold wts; rw [List.map_reverse]; exact List.sum_reverse _
theorem wts_len (W : List OI) : W.length ≤ wts W := by
  induction W with
  | nil => simp
  | cons x r ih =>
    have : 1 ≤ x.wt := by
      cases x with
      | ty t => have := t.pre_pos; simp only [OI.wt]; omega
      | en r => exact Nat.le_refl _
    rw [← List.singleton_append, wts_app]
    simp only [List.length_append, List.length_singleton]
    have : wts [x] = x.wt := by simp [wts]
    omega
def t_occurrences_r1 : TTS :=
  (tdrop (tmeth mextend (tvar 2) (tacons (trev (tcall sp_type_parts (tacons (tvar 3) tanil))) tanil)))
def t_occurrences : TTS :=
  (tseq (tasg (tlst tanil) (gname 1))
  (tseq (tasg (tlst (tacons (tvar 0) tanil)) (gname 2))
  (tseq (twhile (ttruth (tvar 2))
  (tseq (tasg (tmeth mpop (tvar 2) tanil) (gname 3))
  (tseq (tifs (tbool (top veq (top vix (tvar 3) (tcon (.int 0))) (tcon (.str "end"))))
  (tdrop (tmeth mappend (tvar 1) (tacons (ttup (tacons (top vix (tvar 3) (tcon (.int 1))) (tacons (tcon (.bl true)) tanil))) tanil)))
  (tifs (tbool (top veq (top vix (tvar 3) (tcon (.int 0))) (tcon (.str "var"))))
  (tdrop (tmeth mappend (tvar 1) (tacons (ttup (tacons (top vix (tvar 3) (tcon (.int 1))) (tacons (tcon (.bl false)) tanil))) tanil)))
  (tifs (tand (tbool (top veq (top vix (tvar 3) (tcon (.int 0))) (tcon (.str "record")))) (tbool (tnotN (top vix (tvar 3) (tcon (.int 2))))))
  (tdrop (tmeth mappend (tvar 2) (tacons (ttup (tacons (tcon (.str "end")) (tacons (top vix (tvar 3) (tcon (.int 2))) tanil))) tanil)))
  tnext)))
  t_occurrences_r1)))
  (tret (tvar 1)))))

def sp_occurrences : TSp := fun ts G R => ∃ t : Ty, ts = [t.enc] ∧ 2 * t.pre.length ≤ sizeLine ∧ ∀ p, G p = none → R (.ref p) (gupd G p (.lst (t.occ.map encO)))
theorem pure_occurrences (ts : List T) (G : GH) (R : TK) (h : sp_occurrences ts G R) : t_occurrences { nx := fun _ G' => WkR R .non G', rt := WkR R } (startT ["given", "found", "waiting", "part"] ts) G := by
  obtain ⟨t, rfl, hl, h⟩ := h
  unfold t_occurrences t_occurrences_r1
  walk_at "tl"
  intro p hp q hq0
  obtain ⟨hqp, hq⟩ := ne_none hq0
  refine ⟨fun m st G' => ∃ (F : List (Str × Bool)) (W : List OI), st = [some t.enc, some (.ref p), some (.ref q), none] ∧ G' = gupd (gupd G p (.lst (F.map encO))) q (.lst (W.map OI.enc)) ∧ F ++ W.reverse.flatMap OI.occ = t.occ ∧ m = wts W ∧ F.length + wts W ≤ sizeLine, ⟨_, [], [.ty t], rfl, rfl, by simp [OI.occ], rfl, by simp [wts, OI.wt]; exact hl⟩, ?_⟩
  rintro m st G' ⟨F, W, rfl, rfl, hF, rfl, hz⟩
  walk_at "tl"
  refine ⟨_, truth_ref gupd_same rfl, ?_⟩
  rcases List.eq_nil_or_concat W with rfl | ⟨W', u, rfl⟩
  · walk_at "tl"
    have eF : F = t.occ := by simpa using hF
    subst eF
    exact ⟨_, Sub.gupd (by rw [gupd_ne hqp]; exact hq), h p hp⟩
  · rw [List.concat_eq_append] at *
    have hk : F ++ (u.occ ++ W'.reverse.flatMap OI.occ) = t.occ := by simpa using hF
    rw [wts_app] at hz
    have hw := wts_len W'
    have hu : wts [u] = u.wt := by simp [wts]
    have e1 : (!(List.map OI.enc (W' ++ [u])).isEmpty) = true := by simp
    have tail : ∀ (X : T) (F' : List (Str × Bool)) (W2 : List OI), F' ++ W2.reverse.flatMap OI.occ = t.occ → wts W2 < wts (W' ++ [u]) → F'.length + wts W2 ≤ sizeLine →
        ∃ m', m' < wts (W' ++ [u]) ∧ Wk (fun st G' => ∃ (F : List (Str × Bool)) (W : List OI), st = [some t.enc, some (.ref p), some (.ref q), none] ∧ G' = gupd (gupd G p (.lst (F.map encO))) q (.lst (W.map OI.enc)) ∧ F ++ W.reverse.flatMap OI.occ = t.occ ∧ m' = wts W ∧ F.length + wts W ≤ sizeLine)
          [some t.enc, some (.ref p), some (.ref q), some X] (gupd (gupd G p (.lst (F'.map encO))) q (.lst (W2.map OI.enc))) :=
      fun X F' W2 h1 h2 h3 => ⟨_, h2, .mk ⟨F', W2, rfl, rfl, h1, rfl, h3⟩ (.same (.same (.same (.none .nil)))) .refl⟩
    rw [e1]
    walk_at "tl"
    refine pop_mk (t := u.enc) (ys := W'.map OI.enc) (by rw [gupd_same, List.map_append]; rfl) ?_
    rw [g2_setq]
    cases u with
    | en r =>
      simp only [OI.enc, OI.wt, OI.occ] at *
      walk_at "tl"
      refine ⟨⟨_, g2_p hqp⟩, _, g2_p hqp, by rw [List.length_map]; omega, ?_⟩
      rw [g2_setp hqp]
      walk_at "tl"
      refine .inr ⟨r, rfl, ?_⟩
      walk_at "tl"
      refine ⟨by rw [List.length_reverse, List.length_map]; simp; omega, ?_⟩
      have := tail (.tup [.str "end", .str r]) (F ++ [(r, true)]) W' (by simpa using hk) (by rw [wts_app]; omega) (by simp; omega)
      simpa [encO] using this
    | ty v =>
      have hp1 := v.pre_pos
      have hkl := v.kids_len
      cases v with
      | var a =>
        simp only [OI.enc, OI.wt, OI.occ, Ty.enc, Ty.occ] at *
        walk_at "tl"
        refine ⟨⟨_, g2_p hqp⟩, _, g2_p hqp, by rw [List.length_map]; omega, ?_⟩
        rw [g2_setp hqp]
        walk_at "tl"
        refine .inl ⟨.var a, rfl, by omega, ?_⟩
        walk_at "tl"
        refine ⟨by simp [Ty.kids]; omega, ?_⟩
        have := tail (.tup [.str "var", .str a]) (F ++ [(a, false)]) W' (by simpa using hk) (by rw [wts_app]; omega) (by simp; omega)
        simpa [encO, Ty.kids] using this
      | num =>
        simp only [OI.enc, OI.wt, OI.occ, Ty.enc, Ty.occ] at *
        walk_at "tl"
        refine .inl ⟨.num, rfl, by omega, ?_⟩
        walk_at "tl"
        refine ⟨by simp [Ty.kids]; omega, ?_⟩
        have := tail (.tup [.str "number"]) F W' (by simpa using hk) (by rw [wts_app]; omega) (by omega)
        simpa [encO, Ty.kids] using this
      | tru =>
        simp only [OI.enc, OI.wt, OI.occ, Ty.enc, Ty.occ] at *
        walk_at "tl"
        refine .inl ⟨.tru, rfl, by omega, ?_⟩
        walk_at "tl"
        refine ⟨by simp [Ty.kids]; omega, ?_⟩
        have := tail (.tup [.str "truth"]) F W' (by simpa using hk) (by rw [wts_app]; omega) (by omega)
        simpa [encO, Ty.kids] using this
      | fn x y =>
        have hx := x.pre_pos
        have hpre : (Ty.fn x y).pre.length = x.pre.length + y.pre.length + 1 := by simp [Ty.pre]
        simp only [OI.enc, OI.wt, OI.occ, Ty.enc, Ty.occ] at *
        walk_at "tl"
        refine .inl ⟨.fn x y, rfl, by omega, ?_⟩
        walk_at "tl"
        refine ⟨by simp [Ty.kids]; omega, ?_⟩
        have hw2 : wts (W' ++ [.ty y, .ty x]) = wts W' + (2 * y.pre.length + 2 * x.pre.length) := by rw [wts_app]; simp [wts, OI.wt]
        have := tail (.tup [.str "fun", x.enc, y.enc]) F (W' ++ [.ty y, .ty x]) (by simpa [OI.occ] using hk) (by rw [hw2, wts_app]; omega) (by rw [hw2]; omega)
        simpa [encO, Ty.kids, OI.enc] using this
      | rcd fs e =>
        have hpre : (Ty.rcd fs e).pre.length = ((fs.map (·.2)).flatMap Ty.pre).length + 1 := by rw [Ty.pre, presF_eq]; simp
        have hkk : (Ty.rcd fs e).kids = fs.map (·.2) := rfl
        have hfl := flat_len (fs.map (·.2))
        simp only [List.length_map] at hfl
        simp only [OI.enc, OI.wt, OI.occ, Ty.enc, Ty.occ, occF_eq] at *
        cases e with
        | none =>
          simp only [encE, occE] at *
          walk_at "tl"
          refine .inl ⟨.rcd fs none, rfl, by omega, ?_⟩
          walk_at "tl"
          refine ⟨by simp [Ty.kids]; omega, ?_⟩
          have hw2 : wts (W' ++ ((fs.map (·.2)).map OI.ty).reverse) = wts W' + 2 * ((fs.map (·.2)).flatMap Ty.pre).length := by rw [wts_app, wts_rev, wts_kids]
          have := tail (Ty.rcd fs none).enc F (W' ++ ((fs.map (·.2)).map OI.ty).reverse) (by simpa [List.flatMap_map, OI.occ] using hk) (by rw [hw2, wts_app]; omega) (by rw [hw2]; omega)
          simpa [encO, Ty.kids, OI.enc, Ty.enc, encE, Function.comp_def] using this
        | some r =>
          simp only [encE, occE] at *
          walk_at "tl"
          refine ⟨by rw [List.length_map]; omega, .inl ⟨.rcd fs (some r), rfl, by omega, ?_⟩⟩
          walk_at "tl"
          refine ⟨by simp [Ty.kids]; omega, ?_⟩
          have hw2 : wts (W' ++ [.en r] ++ ((fs.map (·.2)).map OI.ty).reverse) = wts W' + 1 + 2 * ((fs.map (·.2)).flatMap Ty.pre).length := by rw [wts_app, wts_app, wts_rev, wts_kids]; rfl
          have := tail (Ty.rcd fs (some r)).enc F (W' ++ [.en r] ++ ((fs.map (·.2)).map OI.ty).reverse) (by simpa [List.flatMap_map, OI.occ] using hk) (by rw [hw2, wts_app]; omega) (by rw [hw2]; omega)
          simpa [encO, Ty.kids, OI.enc, Ty.enc, encE, Function.comp_def] using this
end TL

namespace TL
open PySem PySem.Spec PyProof.Rows L2
local macro_rules | `(tactic| walk_at "tl") => `(tactic| try simp +decide only [tseq, tasg, tifs, tbool, tret, tretN, tdrop, tnext, tcont, tbreak, gname, gtup_tup, gcons_cons, gnil_nil, GO.lst.injEq, GO.dK.injEq, top, tvar, tcon, tun, ttup, tlst, tacons, tanil, tcb, tcall, tife, tand, tor, tnot, tandV, torV, tnotV, tisN, tnotN, T.isNon, ttruth, truth_bl, truth_non, truth_int, truth_tup, truth_fl, tsl, tpart, tnopart, tsortk, tlc, tfor, iany, irev, irange1_eq, irange2_eq, items_tup, items_fl, items_ref, twipe, List.set, izip_eq, tput_eq, vlist_tup, tmeth, isL, mappend_ref, mextend_tup, trev, exists_eq, exists_eq', 
  vix_tup, vix_fl, veq_str, vne_str, veq_int, vne_int, vcmp_int, vadd_int, vaddI_int, vadd_tup, vadd_str, vsub_int, vI_int, vlen_tup, vlen_fl, vlen_str, vtuple_tup, vtuple_ref, vint_int, vsl_tup, cut_from1, atI0, atI1, atI2, atI3, taug,
  startT, List.map_cons, List.map_nil, List.length_cons, List.length_nil, List.cons_append, List.nil_append, List.getElem?_cons_zero, List.getElem?_cons_succ, List.set_cons_zero, List.set_cons_succ, List.replicate, Option.some.injEq, exists_eq_left', exists_eq_left, T.bl.injEq, T.int.injEq, T.str.injEq, T.tup.injEq, T.ref.injEq, if_true, if_false, ite_true, ite_false, true_and, and_true, reduceCtorEq, gupd_same, gupd_gupd, Option.map_some, Option.map_none, Option.isSome_some, Option.isSome_none, Bool.not_true, Bool.not_false, Bool.true_eq_false, Bool.false_eq_true, List.cons.injEq, decide_true, decide_false])
/-- each once, by its first place -/
def once (acc : List Str) : List Str → List Str
  | [] => acc
  | x :: r => once (if x ∈ acc then acc else acc ++ [x]) r
def nmD (xs : List Str) : List (Key × T) := xs.map fun x => (.inr x, .bl true)
theorem nmD_any (xs : List Str) (x : Str) : ((nmD xs).any fun kv => decide (kv.1 = Sum.inr x)) = decide (x ∈ xs) := by
  induction xs with
  | nil => rfl
  | cons y r ih =>
    simp only [nmD, List.map_cons, List.any_cons] at ih ⊢
    rw [ih]
    by_cases h : y = x
    · subst h; simp
    · have h2 : ¬ (Sum.inr y : Key) = Sum.inr x := fun z => h (Sum.inr.inj z)
      have h3 : ¬ x = y := fun z => h z.symm
      simp [h2, h3]
theorem nmD_put (xs : List Str) (x : Str) : putT (nmD xs) (.inr x) (.bl true) = nmD (if x ∈ xs then xs else xs ++ [x]) := by
  unfold putT
  rw [nmD_any]
  by_cases h : x ∈ xs
  · rw [if_pos (decide_eq_true h), if_pos h]
    unfold nmD
    rw [List.map_map]
    refine List.map_congr_left fun y _ => ?_
    show (if (Sum.inr y : Key) = Sum.inr x then _ else _) = _
    split
    · rfl
    · rfl
  · rw [if_neg (by simp [h]), if_neg h]
    simp [nmD]
theorem nmD_len (xs : List Str) : (nmD xs).length = xs.length := by simp [nmD]
theorem nmD_keys (xs : List Str) : ((nmD xs).map fun kv => kT kv.1) = xs.map T.str := by simp [nmD, kT]
theorem once_len (xs : List Str) : ∀ acc, (once acc xs).length ≤ acc.length + xs.length := by
  induction xs with
  | nil => intro acc; simp [once]
  | cons x r ih =>
    intro acc
    have := ih (if x ∈ acc then acc else acc ++ [x])
    rw [once, List.length_cons]
    have h2 : (if x ∈ acc then acc else acc ++ [x]).length ≤ acc.length + 1 := by split <;> simp
    omega
theorem once_app (ys : List Str) : ∀ xs acc, once acc (xs ++ ys) = once (once acc xs) ys
  | [], acc => rfl
  | x :: r, acc => by simp only [List.cons_append, once]; exact once_app ys r _
def Ty.vars (t : Ty) : List Str := once [] ((t.occ.filter fun o => !o.2).map (·.1))
def Ty.rows (t : Ty) : List Str := once [] ((t.occ.filter fun o => o.2).map (·.1))
def encS (xs : List Str) : List T := xs.map T.str
mutual
theorem occ_len : ∀ t : Ty, t.occ.length ≤ 2 * t.pre.length
  | .num => by simp [Ty.occ]
  | .tru => by simp [Ty.occ]
  | .var a => by simp [Ty.occ, Ty.pre]
  | .fn a b => by
    have h1 := occ_len a
    have h2 := occ_len b
    simp only [Ty.occ, Ty.pre, List.length_append, List.length_cons]; omega
  | .rcd fs e => by
    have h := occF_len fs
    have : (occE e).length ≤ 1 := by cases e <;> simp [occE]
    simp only [Ty.occ, Ty.pre, List.length_append, List.length_cons]; omega
theorem occF_len : ∀ fs : List (Str × Ty), (occF fs).length ≤ 2 * (presF fs).length
  | [] => by simp [occF]
  | (_, t) :: r => by
    have h1 := occ_len t
    have h2 := occF_len r
    simp only [occF, presF, List.length_append]; omega
end
def t_variables : TTS :=
  (tseq (tasg tdnew (gname 1))
  (tseq (tasg tdnew (gname 2))
  (tseq (tfor (iany (tcall sp_occurrences (tacons (tvar 0) tanil))) (gtup 2 (gcons (gname 3) (gcons (gname 4) gnil)))
  (tifs (ttruth (tvar 4))
  (tput (tvar 2) (tvar 3) (tcon (.bl true)))
  (tput (tvar 1) (tvar 3) (tcon (.bl true)))))
  (tret (ttup (tacons (tcb vlist (tacons (tvar 1) tanil)) (tacons (tcb vlist (tacons (tvar 2) tanil)) tanil)))))))

def sp_variables : TSp := fun ts G R => ∃ t : Ty, ts = [t.enc] ∧ 2 * t.pre.length ≤ sizeLine ∧ ∀ p q, G p = none → G q = none → p ≠ q → R (.tup [.ref p, .ref q]) (gupd (gupd G p (.lst (encS t.vars))) q (.lst (encS t.rows)))
theorem pure_variables (ts : List T) (G : GH) (R : TK) (h : sp_variables ts G R) : t_variables { nx := fun _ G' => WkR R .non G', rt := WkR R } (startT ["given", "kinds", "rows", "name", "ends_row"] ts) G := by
  obtain ⟨t, rfl, hl, h⟩ := h
  unfold t_variables tdnew
  walk_at "tl"
  intro p hp q hq0
  obtain ⟨hqp, hq⟩ := ne_none hq0
  refine ⟨t, rfl, hl, fun a ha => ?_⟩
  obtain ⟨haq, ha⟩ := ne_none ha
  obtain ⟨hap, ha⟩ := ne_none ha
  walk_at "tl"
  have ol := occ_len t
  refine for_inv (α := Str × Bool) encO (fun xs st G' => ∃ zs, t.occ = zs ++ xs ∧ st = [some t.enc, some (.ref p), some (.ref q), none, none] ∧ G' = gupd (gupd (gupd G p (.dK (nmD (once [] ((zs.filter fun o => !o.2).map (·.1)))))) q (.dK (nmD (once [] ((zs.filter fun o => o.2).map (·.1)))))) a (.lst (t.occ.map encO))) ?_ ?_ t.occ _ _ ⟨[], rfl, rfl, rfl⟩
  · rintro ⟨x, b⟩ xs st G' N hN ⟨zs, hz, rfl, rfl⟩
    refine ⟨gupd_same, ?_⟩
    simp only [encO]
    walk_at "tl"
    have hln := congrArg List.length hz
    simp at hln
    cases b with
    | true =>
      walk_at "tl"
      refine put_dK (k := .inr x) (by rw [gupd_ne (Ne.symm haq), gupd_same]) rfl ?_ ?_
      · rw [nmD_len]
        have := once_len ((zs.filter fun o => o.2).map (·.1)) []
        have h3 := List.length_filter_le (fun o : Str × Bool => o.2) zs
        simp only [List.length_map, List.length_nil] at this
        omega
      · rw [nmD_put]
        refine hN _ _ (.mk ⟨zs ++ [(x, true)], by simpa using hz, rfl, ?_⟩ (.same (.same (.same (.none (.none .nil))))) .refl)
        rw [gupd_comm haq, gupd_gupd]
        simp [once_app, once]
    | false =>
      walk_at "tl"
      refine put_dK (k := .inr x) (by rw [gupd_ne (Ne.symm hap), g2_p hqp]) rfl ?_ ?_
      · rw [nmD_len]
        have := once_len ((zs.filter fun o => !o.2).map (·.1)) []
        have h3 := List.length_filter_le (fun o : Str × Bool => !o.2) zs
        simp only [List.length_map, List.length_nil] at this
        omega
      · rw [nmD_put]
        refine hN _ _ (.mk ⟨zs ++ [(x, false)], by simpa using hz, rfl, ?_⟩ (.same (.same (.same (.none (.none .nil))))) .refl)
        rw [gupd_comm hap, g2_setp hqp]
        simp [once_app, once]
  · rintro st G' ⟨zs, hz, rfl, rfl⟩
    rw [List.append_nil] at hz
    subst hz
    refine ⟨gupd_same, ?_⟩
    walk_at "tl"
    refine list_dK (by rw [gupd_ne (Ne.symm hap), g2_p hqp]) fun u hu => ?_
    obtain ⟨hua, hu⟩ := ne_none hu
    obtain ⟨huq, hu⟩ := ne_none hu
    obtain ⟨hup, hu⟩ := ne_none hu
    refine list_dK (by rw [gupd_ne (Ne.symm huq), gupd_ne (Ne.symm haq), gupd_same]) fun v hv => ?_
    obtain ⟨hvu, hv⟩ := ne_none hv
    obtain ⟨hva, hv⟩ := ne_none hv
    obtain ⟨hvq, hv⟩ := ne_none hv
    obtain ⟨hvp, hv⟩ := ne_none hv
    rw [nmD_keys, nmD_keys]
    refine ⟨_, ?_, h u v hu hv (Ne.symm hvu)⟩
    refine Sub.at fun b o hb e => ?_
    by_cases z : b = u
    · subst z
      rw [gupd_same] at e ⊢
      exact e
    · rw [gupd_ne z] at e ⊢
      rw [gupd_ne (fun z => by subst z; rw [ha] at e; cases e), gupd_ne (fun z => by subst z; rw [hq] at e; cases e), gupd_ne (fun z => by subst z; rw [hp] at e; cases e)]
      exact e
def Ty.sym1 : Ty → Nat
  | .rcd fs e => 1 + fs.length + (match e with | none => 0 | some _ => 1)
  | _ => 1
def Ty.sym (t : Ty) : Nat := (t.pre.map Ty.sym1).sum
def t_symbols : TTS :=
  (tseq (tasg (tcon (.int 0)) (gname 1))
  (tseq (tfor (iany (tcall sp_all_types (tacons (tvar 0) tanil))) (gname 2)
  (tseq (taug 1 (tcon (.int 1)) vaddI)
  (tifs (tbool (top veq (top vix (tvar 2) (tcon (.int 0))) (tcon (.str "record"))))
  (tseq (taug 1 (tcb vlen (tacons (top vix (tvar 2) (tcon (.int 1))) tanil)) vaddI)
  (tifs (tbool (tnotN (top vix (tvar 2) (tcon (.int 2)))))
  (taug 1 (tcon (.int 1)) vaddI)
  tnext))
  tnext)))
  (tret (tvar 1))))

def sp_symbols : TSp := fun ts G R => ∃ t : Ty, ts = [t.enc] ∧ t.pre.length ≤ sizeLine ∧ R (.int t.sym) G
theorem pure_symbols (ts : List T) (G : GH) (R : TK) (h : sp_symbols ts G R) : t_symbols { nx := fun _ G' => WkR R .non G', rt := WkR R } (startT ["given", "many", "part"] ts) G := by
  obtain ⟨t, rfl, hl, h⟩ := h
  unfold t_symbols
  walk_at "tl"
  refine ⟨t, rfl, hl, fun a ha => ?_⟩
  walk_at "tl"
  refine for_inv (α := Ty) Ty.enc (fun xs st G' => ∃ zs, t.pre = zs ++ xs ∧ st = [some t.enc, some (.int ((zs.map Ty.sym1).sum : Nat)), none] ∧ G' = gupd G a (.lst (t.pre.map Ty.enc))) ?_ ?_ t.pre _ _ ⟨[], rfl, rfl, rfl⟩
  · rintro x xs st G' N hN ⟨zs, hz, rfl, rfl⟩
    refine ⟨gupd_same, ?_⟩
    have step : ∀ k : Nat, x.sym1 = k → ∀ X, N [some t.enc, some (.int (((zs.map Ty.sym1).sum : Nat) + (k : Int))), some X] (gupd G a (.lst (t.pre.map Ty.enc))) := fun k hk X => by
      refine hN _ _ (.mk ⟨zs ++ [x], by simpa using hz, rfl, rfl⟩ ?_ .refl)
      have e : (((zs ++ [x]).map Ty.sym1).sum : Nat) = (zs.map Ty.sym1).sum + k := by simp [hk]
      rw [e, Int.natCast_add]
      exact .same (.same (.none .nil))
    cases x with
    | rcd fs e =>
      cases e with
      | none =>
        simp only [Ty.enc, encE]
        walk_at "tl"
        have := step (1 + fs.length + 0) rfl (Ty.rcd fs none).enc
        rw [encFs_map, List.length_map]
        rw [show (((zs.map Ty.sym1).sum : Nat) : Int) + 1 + (fs.length : Int) = ((zs.map Ty.sym1).sum : Nat) + ((1 + fs.length + 0 : Nat) : Int) by omega, ← encFs_map]
        exact this
      | some r =>
        simp only [Ty.enc, encE]
        walk_at "tl"
        have := step (1 + fs.length + 1) rfl (Ty.rcd fs (some r)).enc
        rw [encFs_map, List.length_map]
        rw [show (((zs.map Ty.sym1).sum : Nat) : Int) + 1 + (fs.length : Int) + 1 = ((zs.map Ty.sym1).sum : Nat) + ((1 + fs.length + 1 : Nat) : Int) by omega, ← encFs_map]
        exact this
    | _ =>
      simp only [Ty.enc, encE]
      walk_at "tl"
      exact step 1 rfl _
  · rintro st G' ⟨zs, hz, rfl, rfl⟩
    rw [List.append_nil] at hz
    subst hz
    refine ⟨gupd_same, ?_⟩
    walk_at "tl"
    exact ⟨_, Sub.gupd ha, h⟩
def leF (a b : Str × Ty) : Bool := decide (a.1.cps.toList ≤ b.1.cps.toList)
def sortF (fs : List (Str × Ty)) : List (Str × Ty) := fs.mergeSort leF
def Ty.sortK : Ty → Ty
  | .rcd fs e => .rcd (sortF fs) e
  | t => t
theorem sortT0_enc (fs : List (Str × Ty)) : sortT0 (encFs fs) = encFs (sortF fs) := by
  rw [encFs_map, encFs_map]
  exact (List.map_mergeSort (f := fun p : Str × Ty => T.tup [.str p.1, p.2.enc]) fun a _ b _ => rfl).symm
theorem okKey_enc (fs : List (Str × Ty)) : (encFs fs).all okKey = true := by
  rw [encFs_map]; simp [okKey]
def t__sorted_fields (TT : List (Addr × Str)) : TTS :=
  (tseq (tifs (tbool (top vne (top vix (tvar 0) (tcon (.int 0))) (tcon (.str "record"))))
  (tret (tvar 0))
  tnext)
  (tseq (tasg (tsortk TT (top vix (tvar 0) (tcon (.int 1)))) (gname 1))
  (tret (ttup (tacons (tcon (.str "record")) (tacons (tcb vtuple (tacons (tvar 1) tanil)) (tacons (top vix (tvar 0) (tcon (.int 2))) tanil)))))))

def sp__sorted_fields (TT : List (Addr × Str)) : TSp := fun ts G R => ∃ t : Ty, ts = [t.enc] ∧ Tbs TT G ∧ t.kids.length ≤ sizeLine ∧ R t.sortK.enc G
theorem pure__sorted_fields (TT : List (Addr × Str)) (ts : List T) (G : GH) (R : TK) (h : sp__sorted_fields TT ts G R) : t__sorted_fields TT { nx := fun _ G' => WkR R .non G', rt := WkR R } (startT ["given", "fields"] ts) G := by
  obtain ⟨t, rfl, hT, hl, h⟩ := h
  unfold t__sorted_fields
  cases t with
  | rcd fs e =>
    simp only [Ty.enc, tsortk]
    walk_at "tl"
    refine ⟨hT, _, rfl, okKey_enc fs, ?_, fun p hp => ?_⟩
    · rw [encFs_map, List.length_map]
      simpa [Ty.kids] using hl
    · walk_at "tl"
      rw [sortT0_enc]
      exact wkR_new hp h
  | _ =>
    simp only [Ty.enc]
    walk_at "tl"
    exact .of h
end TL

namespace TL
open PySem PySem.Spec PyProof.Rows L2
local macro_rules | `(tactic| walk_at "tl") => `(tactic| try simp +decide only [tseq, tasg, tifs, tbool, tret, tretN, tdrop, tnext, tcont, tbreak, gname, gtup_tup, gcons_cons, gnil_nil, GO.lst.injEq, GO.dK.injEq, top, tvar, tcon, tun, ttup, tlst, tacons, tanil, tcb, tcall, tife, tand, tor, tnot, tandV, torV, tnotV, tisN, tnotN, T.isNon, ttruth, truth_bl, truth_non, truth_int, truth_tup, truth_fl, tsl, tpart, tnopart, tsortk, tlc, tfor, iany, irev, irange1_eq, irange2_eq, items_tup, items_fl, items_ref, twipe, List.set, izip_eq, tput_eq, vlist_tup, tmeth, isL, mappend_ref, mextend_tup, trev, exists_eq, exists_eq', 
  vix_tup, vix_fl, veq_str, vne_str, veq_int, vne_int, vcmp_int, vadd_int, vaddI_int, vadd_tup, vadd_str, vsub_int, vI_int, vlen_tup, vlen_fl, vlen_str, vtuple_tup, vtuple_ref, vint_int, vsl_tup, cut_from1, atI0, atI1, atI2, atI3, taug,
  startT, List.map_cons, List.map_nil, List.length_cons, List.length_nil, List.cons_append, List.nil_append, List.getElem?_cons_zero, List.getElem?_cons_succ, List.set_cons_zero, List.set_cons_succ, List.replicate, Option.some.injEq, exists_eq_left', exists_eq_left, T.bl.injEq, T.int.injEq, T.str.injEq, T.tup.injEq, T.ref.injEq, if_true, if_false, ite_true, ite_false, true_and, and_true, reduceCtorEq, gupd_same, gupd_gupd, Option.map_some, Option.map_none, Option.isSome_some, Option.isSome_none, Bool.not_true, Bool.not_false, Bool.true_eq_false, Bool.false_eq_true, List.cons.injEq, decide_true, decide_false])
theorem mem_sum {x : Nat} : ∀ {xs : List Nat}, x ∈ xs → x ≤ xs.sum
  | [], h => absurd h (by simp)
  | y :: r, h => by
    rcases List.mem_cons.mp h with rfl | h
    · simp
    · have := mem_sum h; simp; omega
theorem pre_loop {β : Type} {P : List β → List Ty → Prop} (g : Ty → β) (root : Ty) (step : ∀ u S rest, u ∈ root.pre → P (S ++ [g u]) rest → P (S ++ (u.kids.map g).reverse) (u :: rest)) : ∀ S rest, P (S ++ [g root]) rest → P S (root.pre.reverse ++ rest) := by
  have forest : ∀ ts : List Ty, (∀ t ∈ ts, ∀ S rest, P (S ++ [g t]) rest → P S (t.pre.reverse ++ rest)) → ∀ S rest, P (S ++ (ts.map g).reverse) rest → P S ((ts.flatMap Ty.pre).reverse ++ rest) := by
    intro ts
    induction ts with
    | nil => intro _ S rest h; simpa using h
    | cons t ts ih =>
      intro hs S rest h
      rw [List.flatMap_cons, List.reverse_append, List.append_assoc]
      refine ih (fun u hu => hs u (by simp [hu])) S _ (hs t (by simp) _ _ ?_)
      simpa using h
  have all : ∀ n (t : Ty), t.pre.length ≤ n → (∀ u ∈ t.pre, u ∈ root.pre) → ∀ S rest, P (S ++ [g t]) rest → P S (t.pre.reverse ++ rest) := by
    intro n
    induction n with
    | zero => intro t h; have := t.pre_pos; omega
    | succ n ih =>
      intro t hn hs S rest h
      have e := t.pre_eq
      rw [e, List.reverse_cons, List.append_assoc]
      refine forest t.kids (fun u hu => ih u ?_ ?_) S _ (step t S rest (hs t (by rw [e]; simp)) h)
      · have h1 : u.pre.length ≤ (t.kids.flatMap Ty.pre).length := by
          rw [List.length_flatMap]
          exact mem_sum (List.mem_map_of_mem hu)
        rw [e] at hn
        simp only [List.length_cons] at hn
        omega
      · intro v hv
        refine hs v ?_
        rw [e]
        exact List.mem_cons_of_mem _ (List.mem_flatMap.mpr ⟨u, hu, hv⟩)
  exact fun S rest h => all _ root (Nat.le_refl _) (fun _ h => h) S rest h
mutual
def Ty.norm : Ty → Ty
  | .fn a b => .fn a.norm b.norm
  | .rcd fs e => .rcd (sortF (normF fs)) e
  | t => t
def normF : List (Str × Ty) → List (Str × Ty)
  | [] => []
  | (l, t) :: r => (l, t.norm) :: normF r
end
theorem normF_eq (fs : List (Str × Ty)) : normF fs = fs.map fun p => (p.1, p.2.norm) := by
  induction fs with
  | nil => rfl
  | cons p r ih => obtain ⟨l, t⟩ := p; rw [normF, ih]; rfl
theorem zip_map_self {α β γ : Type} (f : α → β) (h : α → β → γ) (xs : List α) : List.zipWith h xs (xs.map f) = xs.map fun x => h x (f x) := by
  induction xs with
  | nil => rfl
  | cons x r ih => simp [ih]
theorem norm_step (t : Ty) : (t.withK (t.kids.map Ty.norm)).sortK = t.norm := by
  cases t with
  | fn a b => rfl
  | rcd fs e =>
    simp only [Ty.kids, List.map_map, Ty.withK, Ty.sortK, Ty.norm, normF_eq]
    rw [show (Ty.norm ∘ fun x : Str × Ty => x.2) = fun p : Str × Ty => p.2.norm from rfl, zip_map_self (fun p : Str × Ty => p.2.norm)]
  | _ => rfl
theorem pre_kids {t u : Ty} (h : u ∈ t.pre) : u.kids.length ≤ t.pre.length ∧ u.pre.length ≤ t.pre.length := by
  suffices H : ∀ n (t : Ty), t.pre.length ≤ n → u ∈ t.pre → u.pre.length ≤ t.pre.length by
    have := H _ t (Nat.le_refl _) h
    have := u.kids_len
    omega
  intro n
  induction n with
  | zero => intro t h; have := t.pre_pos; omega
  | succ n ih =>
    intro t hn hu
    have e := t.pre_eq
    rw [e] at hu hn ⊢
    rcases List.mem_cons.mp hu with rfl | hu
    · rw [← e]; exact Nat.le_refl _
    · obtain ⟨v, hv, huv⟩ := List.mem_flatMap.mp hu
      have h1 : v.pre.length ≤ (t.kids.flatMap Ty.pre).length := by
        rw [List.length_flatMap]
        exact mem_sum (List.mem_map_of_mem hv)
      simp only [List.length_cons] at hn ⊢
      have := ih v (by omega) huv
      omega
theorem withK_len (t : Ty) (ks : List Ty) : (t.withK ks).kids.length ≤ t.kids.length := by
  unfold Ty.withK
  split
  · simp [Ty.kids]
  · simp [Ty.kids]; omega
  · exact Nat.le_refl _
def t_normal (TT : List (Addr × Str)) : TTS :=
  (tseq (tasg (tlst tanil) (gname 1))
  (tseq (tfor (irev (tcall sp_all_types (tacons (tvar 0) tanil))) (gname 2)
  (tseq (tasg (tlc (iany (tcall sp_type_parts (tacons (tvar 2) tanil))) (gname 4) tyes (tmeth mpop (tvar 1) tanil) [4]) (gname 3))
  (tdrop (tmeth mappend (tvar 1) (tacons (tcall (sp__sorted_fields TT) (tacons (tcall sp_with_parts (tacons (tvar 2) (tacons (tvar 3) tanil))) tanil)) tanil)))))
  (tret (tmeth mpop (tvar 1) tanil))))

def sp_normal (TT : List (Addr × Str)) : TSp := fun ts G R => ∃ t : Ty, ts = [t.enc] ∧ Tbs TT G ∧ 2 * t.pre.length ≤ sizeLine ∧ R t.norm.enc G
theorem pure_normal (TT : List (Addr × Str)) (ts : List T) (G : GH) (R : TK) (h : sp_normal TT ts G R) : t_normal TT { nx := fun _ G' => WkR R .non G', rt := WkR R } (startT ["given", "built", "part", "inner", "_"] ts) G := by
  obtain ⟨t, rfl, hT, hl, h⟩ := h
  unfold t_normal
  walk_at "tl"
  intro p hp
  refine ⟨t, rfl, by omega, fun a ha0 => ?_⟩
  obtain ⟨hap, ha⟩ := ne_none ha0
  walk_at "tl"
  refine cast (congrArg (fun l => forGo _ _ _ _ l _ _) (List.map_reverse (f := Ty.enc) (l := t.pre))) ?_
  have main := pre_loop (P := fun S xs => S.length + xs.length ≤ sizeLine → forGo (fun G' => G' a = some (.lst (t.pre.map Ty.enc))) (gname 2) (tseq (tasg (tlc (iany (tcall sp_type_parts (tacons (tvar 2) tanil))) (gname 4) tyes (tmeth mpop (tvar 1) tanil) [4]) (gname 3))
      (tdrop (tmeth mappend (tvar 1) (tacons (tcall (sp__sorted_fields TT) (tacons (tcall sp_with_parts (tacons (tvar 2) (tacons (tvar 3) tanil))) tanil)) tanil))))
      { nx := tret (tmeth mpop (tvar 1) tanil) { nx := fun x G' => WkR R T.non G', rt := WkR R }, rt := WkR R } (xs.map Ty.enc) [some t.enc, some (.ref p), none, none, none] (gupd (gupd G p (.lst (S.map Ty.enc))) a (.lst (t.pre.map Ty.enc)))) Ty.norm t ?_ [] [] ?_ (by simp; omega)
  · simpa using main
  · intro u S rest hu hP hlen
    have hk := pre_kids hu
    refine ⟨gupd_same, ?_⟩
    walk_at "tl"
    refine .inl ⟨u, rfl, by omega, ?_⟩
    walk_at "tl"
    intro D hD0
    obtain ⟨hDa, hD⟩ := ne_none hD0
    obtain ⟨hDp, hD⟩ := ne_none hD
    have hD0' : ∀ A, gupd (gupd G p A) a (.lst (t.pre.map Ty.enc)) D = none := fun A => by rw [gupd_ne hDa, gupd_ne hDp]; exact hD
    refine lc_inv (α := Ty) Ty.enc (fun ys acc G' => ∃ zs, u.kids = zs ++ ys ∧ acc = zs.map (fun v => v.norm.enc) ∧ G' = gupd (gupd (gupd G p (.lst ((S ++ (ys.map Ty.norm).reverse).map Ty.enc))) a (.lst (t.pre.map Ty.enc))) D (.lst acc)) ?_ ?_ u.kids [] _ ⟨[], rfl, rfl, rfl⟩
    · rintro x ys acc G' N hN ⟨zs, hz, rfl, rfl⟩
      have hzl := congrArg List.length hz
      simp only [List.length_append, List.length_cons] at hzl
      refine ⟨trivial, ?_⟩
      walk_at "tl"
      refine ⟨⟨_, by rw [gupd_ne (Ne.symm hDp), g2_p hap]⟩, pop_mk (t := x.norm.enc) (ys := (S ++ (ys.map Ty.norm).reverse).map Ty.enc) (by rw [gupd_ne (Ne.symm hDp), g2_p hap]; simp) ?_⟩
      refine ⟨zs.map (fun v => v.norm.enc), by rw [gupd_ne hDp, gupd_same], by rw [List.length_map]; omega, hN (zs.map (fun v => v.norm.enc) ++ [x.norm.enc]) _ (.of ⟨zs ++ [x], by simpa using hz, by simp, ?_⟩)⟩
      rw [gupd_comm hDp, g2_setp hap, gupd_gupd]
    · rintro acc G' ⟨zs, hz, rfl, rfl⟩
      rw [List.append_nil] at hz
      refine ⟨trivial, ⟨_, by rw [gupd_ne (Ne.symm hDp), g2_p hap]⟩, u, u.kids.map Ty.norm, D, rfl, by rw [gupd_same, hz]; simp, by simp, by rw [List.length_map]; omega, ?_⟩
      have hw : (u.withK (u.kids.map Ty.norm)).kids.length ≤ sizeLine := by
        refine Nat.le_trans (withK_len u _) ?_
        omega
      refine ⟨_, rfl, ((hT.newL hp).newL ?_).newL (hD0' _), hw, ?_⟩
      · rw [gupd_ne hap]; exact ha
      rw [norm_step]
      refine ⟨_, by rw [gupd_ne (Ne.symm hDp), g2_p hap], ?_, ?_⟩
      · simp at hlen ⊢
        omega
      · rw [gupd_comm hDp, g2_setp hap]
        refine .mk (hP (by simp at hlen ⊢; omega)) (.same (.same (.none (.none (.same .nil))))) ?_
        simp only [List.map_nil, List.reverse_nil, List.append_nil, List.map_append, List.map_cons]
        refine Sub.gupd ?_
        rw [gupd_ne hDa, gupd_ne hDp]
        exact hD
  · intro _
    refine ⟨gupd_same, ?_⟩
    walk_at "tl"
    refine ⟨⟨_, g2_p hap⟩, pop_mk (t := t.norm.enc) (ys := []) (by rw [g2_p hap]; rfl) ?_⟩
    rw [g2_setp hap]
    exact ⟨_, (Sub.gupd hp).trans (Sub.gupd (by rw [gupd_ne hap]; exact ha)), h⟩
end TL

namespace TL
open PySem PySem.Spec PyProof.Rows L2
local macro_rules | `(tactic| walk_at "tl") => `(tactic| try simp +decide only [tseq, tasg, tifs, tbool, tret, tretN, tdrop, tnext, tcont, tbreak, gname, gtup_tup, gcons_cons, gnil_nil, GO.lst.injEq, GO.dK.injEq, top, tvar, tcon, tun, ttup, tlst, tacons, tanil, tcb, tcall, tife, tand, tor, tnot, tandV, torV, tnotV, tisN, tnotN, T.isNon, ttruth, truth_bl, truth_non, truth_int, truth_tup, truth_fl, tsl, tpart, tnopart, tsortk, tlc, tfor, iany, irev, irange1_eq, irange2_eq, items_tup, items_fl, items_ref, twipe, List.set, izip_eq, tput_eq, vlist_tup, tmeth, isL, mappend_ref, mextend_tup, trev, exists_eq, exists_eq', 
  vix_tup, vix_fl, veq_str, vne_str, veq_int, vne_int, vcmp_int, vadd_int, vaddI_int, vadd_tup, vadd_str, vsub_int, vI_int, vlen_tup, vlen_fl, vlen_str, vtuple_tup, vtuple_ref, vint_int, vsl_tup, cut_from1, atI0, atI1, atI2, atI3, taug,
  startT, List.map_cons, List.map_nil, List.length_cons, List.length_nil, List.cons_append, List.nil_append, List.getElem?_cons_zero, List.getElem?_cons_succ, List.set_cons_zero, List.set_cons_succ, List.replicate, Option.some.injEq, exists_eq_left', exists_eq_left, T.bl.injEq, T.int.injEq, T.str.injEq, T.tup.injEq, T.ref.injEq, if_true, if_false, ite_true, ite_false, true_and, and_true, reduceCtorEq, gupd_same, gupd_gupd, Option.map_some, Option.map_none, Option.isSome_some, Option.isSome_none, Bool.not_true, Bool.not_false, Bool.true_eq_false, Bool.false_eq_true, List.cons.injEq, decide_true, decide_false])
def look (ms : List (Str × Ty)) (x : Str) : Option Ty := (ms.find? fun p => decide (p.1 = x)).map (·.2)
def encI (ms : List (Str × Ty)) : List (Key × T) := ms.map fun p => (.inr p.1, p.2.enc)
theorem look_enc (ms : List (Str × Ty)) (x : Str) : lookT (encI ms) (.inr x) = (look ms x).map Ty.enc := by
  induction ms with
  | nil => rfl
  | cons p r ih =>
    unfold lookT look encI at *
    simp only [List.map_cons, List.find?_cons]
    by_cases h : p.1 = x
    · rw [decide_eq_true h, decide_eq_true (congrArg Sum.inr h)]
      rfl
    · rw [decide_eq_false h, decide_eq_false (fun z => h (Sum.inr.inj z))]
      exact ih
theorem gd_new {G : GH} {d p : Addr} {o : GO} {kvs : List (Key × T)} (h : gd G d kvs) (n : G p = none) : gd (gupd G p o) d kvs := by
  have z : d ≠ p := fun z => by subst z; rcases h with h | ⟨r, h⟩ <;> (rw [n] at h; cases h)
  unfold gd at *
  rw [gupd_ne z]
  exact h
theorem gd_ne {G : GH} {d p : Addr} {o : GO} {kvs : List (Key × T)} (h : gd G d kvs) (z : d ≠ p) : gd (gupd G p o) d kvs := by
  unfold gd at *
  rw [gupd_ne z]
  exact h
theorem gd_some {G : GH} {d p : Addr} {kvs : List (Key × T)} (h : gd G d kvs) (n : G p = none) : d ≠ p := fun z => by subst z; rcases h with h | ⟨r, h⟩ <;> (rw [n] at h; cases h)
/-- a row's image, put behind the fields -/
def putRow (fs : List (Str × Ty)) (r : Str) : Option Ty → Ty
  | some (.rcd f2 e2) => .rcd (fs ++ f2) e2
  | _ => .rcd fs (some r)
def putIm (ms : List (Str × Ty)) : Ty → Ty
  | .var a => (look ms a).getD (.var a)
  | .rcd fs (some r) => putRow fs r (look ms r)
  | t => t
def isRow : Ty → Bool
  | .rcd _ _ => true
  | _ => false
/-- the images of the ends are records -/
def okR (ms : List (Str × Ty)) (rs : List Str) : Prop := ∀ r ∈ rs, ∀ i, look ms r = some i → isRow i = true
def Ty.end1 : Ty → List Str
  | .rcd _ (some r) => [r]
  | _ => []
mutual
def Ty.sub (ms : List (Str × Ty)) : Ty → Ty
  | .var a => (look ms a).getD (.var a)
  | .fn a b => .fn (a.sub ms) (b.sub ms)
  | .rcd fs none => .rcd (subF ms fs) none
  | .rcd fs (some r) => putRow (subF ms fs) r (look ms r)
  | t => t
def subF (ms : List (Str × Ty)) : List (Str × Ty) → List (Str × Ty)
  | [] => []
  | (l, t) :: r => (l, t.sub ms) :: subF ms r
end
theorem subF_eq (ms fs : List (Str × Ty)) : subF ms fs = fs.map fun p => (p.1, p.2.sub ms) := by
  induction fs with
  | nil => rfl
  | cons p r ih => obtain ⟨l, t⟩ := p; rw [subF, ih]; rfl
theorem sub_step (ms : List (Str × Ty)) (t : Ty) : putIm ms (t.withK (t.kids.map (Ty.sub ms))) = t.sub ms := by
  cases t with
  | rcd fs e =>
    have e1 : List.zipWith (fun (p : Str × Ty) k => (p.1, k)) fs ((fs.map (·.2)).map (Ty.sub ms)) = subF ms fs := by
      rw [List.map_map, show (Ty.sub ms ∘ fun x : Str × Ty => x.2) = fun p : Str × Ty => p.2.sub ms from rfl, zip_map_self (fun p : Str × Ty => p.2.sub ms), subF_eq]
    cases e with
    | none => simp only [Ty.kids, Ty.withK, putIm, Ty.sub, e1]
    | some r => simp only [Ty.kids, Ty.withK, putIm, Ty.sub, e1]
  | _ => rfl
def t__put_image : TTS :=
  (tseq (tifs (tbool (top veq (top vix (tvar 0) (tcon (.int 0))) (tcon (.str "var"))))
  (tret (tdget2 (tvar 1) (top vix (tvar 0) (tcon (.int 1))) (tvar 0)))
  tnext)
  (tseq (tifs (tand (tbool (top veq (top vix (tvar 0) (tcon (.int 0))) (tcon (.str "record")))) (tbool (top (vin false) (top vix (tvar 0) (tcon (.int 2))) (tvar 1))))
  (tseq (tasg (top vix (tvar 1) (top vix (tvar 0) (tcon (.int 2)))) (gname 2))
  (tret (ttup (tacons (tcon (.str "record")) (tacons (top vadd (top vix (tvar 0) (tcon (.int 1))) (top vix (tvar 2) (tcon (.int 1)))) (tacons (top vix (tvar 2) (tcon (.int 2))) tanil))))))
  tnext)
  (tret (tvar 0))))

def sp__put_image : TSp := fun ts G R => ∃ (t : Ty) (d : Addr) (ms : List (Str × Ty)), ts = [t.enc, .ref d] ∧ gd G d (encI ms) ∧ okR ms t.end1 ∧ (putIm ms t).kids.length ≤ sizeLine ∧ R (putIm ms t).enc G
theorem pure__put_image (ts : List T) (G : GH) (R : TK) (h : sp__put_image ts G R) : t__put_image { nx := fun _ G' => WkR R .non G', rt := WkR R } (startT ["given", "images", "row"] ts) G := by
  obtain ⟨t, d, ms, rfl, hd, hok, hl, h⟩ := h
  unfold t__put_image tdget2
  cases t with
  | num => simp only [Ty.enc]; walk_at "tl"; exact .of h
  | tru => simp only [Ty.enc]; walk_at "tl"; exact .of h
  | fn a b => simp only [Ty.enc]; walk_at "tl"; exact .of h
  | var a =>
    simp only [Ty.enc]
    walk_at "tl"
    refine ⟨⟨_, hd⟩, _, .inr a, hd, rfl, ?_⟩
    rw [look_enc]
    cases e : look ms a with
    | none => simp only [putIm, e] at h; exact .of h
    | some i => simp only [putIm, e] at h; exact .of h
  | rcd fs e =>
    cases e with
    | none =>
      simp only [Ty.enc, encE]
      walk_at "tl"
      refine .inr (.inr ⟨_, hd, rfl, ?_⟩)
      walk_at "tl"
      exact .of h
    | some r =>
      simp only [Ty.enc, encE]
      walk_at "tl"
      refine .inr (.inl ⟨_, .inr r, hd, rfl, ?_⟩)
      rw [look_enc]
      cases e : look ms r with
      | none =>
        walk_at "tl"
        simp only [putIm, e, putRow] at h
        exact .of h
      | some i =>
        have hi := hok r (by simp [Ty.end1]) i e
        cases i with
        | rcd f2 e2 =>
          simp only [putIm, e, putRow] at h hl
          walk_at "tl"
          refine vix_dK (y := .str r) (k := .inr r) hd rfl (by rw [look_enc, e]; rfl) ?_
          simp only [Ty.enc]
          walk_at "tl"
          rw [encFs_map, encFs_map]
          refine ⟨by simpa [Ty.kids] using hl, ?_⟩
          rw [← List.map_append, ← encFs_map]
          exact .of h
        | _ => cases hi
def t_substitute : TTS :=
  (tseq (tasg (tlst tanil) (gname 2))
  (tseq (tfor (irev (tcall sp_all_types (tacons (tvar 0) tanil))) (gname 3)
  (tseq (tasg (tlc (iany (tcall sp_type_parts (tacons (tvar 3) tanil))) (gname 5) tyes (tmeth mpop (tvar 2) tanil) [5]) (gname 4))
  (tdrop (tmeth mappend (tvar 2) (tacons (tcall sp__put_image (tacons (tcall sp_with_parts (tacons (tvar 3) (tacons (tvar 4) tanil))) (tacons (tvar 1) tanil))) tanil)))))
  (tret (tmeth mpop (tvar 2) tanil))))

/-- all ends of a type -/
def Ty.ends (t : Ty) : List Str := t.pre.flatMap Ty.end1
def sp_substitute : TSp := fun ts G R => ∃ (t : Ty) (d : Addr) (ms : List (Str × Ty)), ts = [t.enc, .ref d] ∧ gd G d (encI ms) ∧ okR ms t.ends ∧ 2 * t.pre.length ≤ sizeLine ∧ (∀ u ∈ t.pre, (u.sub ms).kids.length ≤ sizeLine) ∧ R (t.sub ms).enc G
theorem end1_withK (t : Ty) (ks : List Ty) : (t.withK ks).end1 = t.end1 := by
  unfold Ty.withK
  split
  · rfl
  · rename_i e; cases e <;> rfl
  · rfl
theorem pure_substitute (ts : List T) (G : GH) (R : TK) (h : sp_substitute ts G R) : t_substitute { nx := fun _ G' => WkR R .non G', rt := WkR R } (startT ["given", "images", "built", "part", "inner", "_"] ts) G := by
  obtain ⟨t, d, ms, rfl, hd, hok, hl, hw, h⟩ := h
  unfold t_substitute
  walk_at "tl"
  intro p hp
  refine ⟨t, rfl, by omega, fun a ha0 => ?_⟩
  obtain ⟨hap, ha⟩ := ne_none ha0
  have hdp := gd_some hd hp
  walk_at "tl"
  refine cast (congrArg (fun l => forGo _ _ _ _ l _ _) (List.map_reverse (f := Ty.enc) (l := t.pre))) ?_
  have main := pre_loop (P := fun S xs => S.length + xs.length ≤ sizeLine → forGo (fun G' => G' a = some (.lst (t.pre.map Ty.enc))) (gname 3) (tseq (tasg (tlc (iany (tcall sp_type_parts (tacons (tvar 3) tanil))) (gname 5) tyes (tmeth mpop (tvar 2) tanil) [5]) (gname 4))
      (tdrop (tmeth mappend (tvar 2) (tacons (tcall sp__put_image (tacons (tcall sp_with_parts (tacons (tvar 3) (tacons (tvar 4) tanil))) (tacons (tvar 1) tanil))) tanil))))
      { nx := tret (tmeth mpop (tvar 2) tanil) { nx := fun x G' => WkR R T.non G', rt := WkR R }, rt := WkR R } (xs.map Ty.enc) [some t.enc, some (.ref d), some (.ref p), none, none, none] (gupd (gupd G p (.lst (S.map Ty.enc))) a (.lst (t.pre.map Ty.enc)))) (Ty.sub ms) t ?_ [] [] ?_ (by simp; omega)
  · simpa using main
  · intro u S rest hu hP hlen
    have hk := pre_kids hu
    refine ⟨gupd_same, ?_⟩
    walk_at "tl"
    refine .inl ⟨u, rfl, by omega, ?_⟩
    walk_at "tl"
    intro D hD0
    obtain ⟨hDa, hD⟩ := ne_none hD0
    obtain ⟨hDp, hD⟩ := ne_none hD
    refine lc_inv (α := Ty) Ty.enc (fun ys acc G' => ∃ zs, u.kids = zs ++ ys ∧ acc = zs.map (fun v => (v.sub ms).enc) ∧ G' = gupd (gupd (gupd G p (.lst ((S ++ (ys.map (Ty.sub ms)).reverse).map Ty.enc))) a (.lst (t.pre.map Ty.enc))) D (.lst acc)) ?_ ?_ u.kids [] _ ⟨[], rfl, rfl, rfl⟩
    · rintro x ys acc G' N hN ⟨zs, hz, rfl, rfl⟩
      have hzl := congrArg List.length hz
      simp only [List.length_append, List.length_cons] at hzl
      refine ⟨trivial, ?_⟩
      walk_at "tl"
      refine ⟨⟨_, by rw [gupd_ne (Ne.symm hDp), g2_p hap]⟩, pop_mk (t := (x.sub ms).enc) (ys := (S ++ (ys.map (Ty.sub ms)).reverse).map Ty.enc) (by rw [gupd_ne (Ne.symm hDp), g2_p hap]; simp) ?_⟩
      refine ⟨zs.map (fun v => (v.sub ms).enc), by rw [gupd_ne hDp, gupd_same], by rw [List.length_map]; omega, hN (zs.map (fun v => (v.sub ms).enc) ++ [(x.sub ms).enc]) _ (.of ⟨zs ++ [x], by simpa using hz, by simp, ?_⟩)⟩
      rw [gupd_comm hDp, g2_setp hap, gupd_gupd]
    · rintro acc G' ⟨zs, hz, rfl, rfl⟩
      rw [List.append_nil] at hz
      refine ⟨trivial, ⟨_, by rw [gupd_ne (Ne.symm hDp), g2_p hap]⟩, u, u.kids.map (Ty.sub ms), D, rfl, by rw [gupd_same, hz]; simp, by simp, by rw [List.length_map]; omega, ?_⟩
      walk_at "tl"
      refine ⟨_, d, ms, rfl, gd_ne (gd_new (gd_new hd hp) (by rw [gupd_ne hap]; exact ha)) (gd_some hd hD), ?_, ?_, ?_⟩
      · rw [end1_withK]
        exact fun r hr => hok r (List.mem_flatMap.mpr ⟨u, hu, hr⟩)
      · rw [sub_step]
        exact hw u hu
      rw [sub_step]
      refine ⟨_, by rw [gupd_ne (Ne.symm hDp), g2_p hap], ?_, ?_⟩
      · simp at hlen ⊢
        omega
      · rw [gupd_comm hDp, g2_setp hap]
        refine .mk (hP (by simp at hlen ⊢; omega)) (.same (.same (.same (.none (.none (.same .nil)))))) ?_
        simp only [List.map_nil, List.reverse_nil, List.append_nil, List.map_append, List.map_cons]
        refine Sub.gupd ?_
        rw [gupd_ne hDa, gupd_ne hDp]
        exact hD
  · intro _
    refine ⟨gupd_same, ?_⟩
    walk_at "tl"
    refine ⟨⟨_, g2_p hap⟩, pop_mk (t := (t.sub ms).enc) (ys := []) (by rw [g2_p hap]; rfl) ?_⟩
    rw [g2_setp hap]
    exact ⟨_, (Sub.gupd hp).trans (Sub.gupd (by rw [gupd_ne hap]; exact ha)), h⟩
end TL

namespace TL
open PySem PySem.Spec PyProof.Rows L2
local macro_rules | `(tactic| walk_at "tl") => `(tactic| try simp +decide only [tseq, tasg, tifs, tbool, tret, tretN, tdrop, tnext, tcont, tbreak, gname, gtup_tup, gcons_cons, gnil_nil, GO.lst.injEq, GO.dK.injEq, top, tvar, tcon, tun, ttup, tlst, tacons, tanil, tcb, tcall, tife, tand, tor, tnot, tandV, torV, tnotV, tisN, tnotN, T.isNon, ttruth, truth_bl, truth_non, truth_int, truth_tup, truth_fl, tsl, tpart, tnopart, tsortk, tlc, tfor, iany, irev, irange1_eq, irange2_eq, items_tup, items_fl, items_ref, twipe, List.set, izip_eq, tput_eq, vlist_tup, tmeth, isL, mappend_ref, mextend_tup, trev, exists_eq, exists_eq', 
  vix_tup, vix_fl, veq_str, vne_str, veq_int, vne_int, vcmp_int, vadd_int, vaddI_int, vadd_tup, vadd_str, vsub_int, vI_int, vlen_tup, vlen_fl, vlen_str, vtuple_tup, vtuple_ref, vint_int, vsl_tup, cut_from1, atI0, atI1, atI2, atI3, taug,
  startT, List.map_cons, List.map_nil, List.length_cons, List.length_nil, List.cons_append, List.nil_append, List.getElem?_cons_zero, List.getElem?_cons_succ, List.set_cons_zero, List.set_cons_succ, List.replicate, Option.some.injEq, exists_eq_left', exists_eq_left, T.bl.injEq, T.int.injEq, T.str.injEq, T.tup.injEq, T.ref.injEq, if_true, if_false, ite_true, ite_false, true_and, and_true, reduceCtorEq, gupd_same, gupd_gupd, Option.map_some, Option.map_none, Option.isSome_some, Option.isSome_none, Bool.not_true, Bool.not_false, Bool.true_eq_false, Bool.false_eq_true, List.cons.injEq, decide_true, decide_false])
def vnL (k : Nat) : List Nat := if h : k = 0 then [] else vnL ((k - 1) / 26) ++ [97 + (k - 1) % 26]
termination_by k
decreasing_by omega
def vname (n : Nat) : Str := ⟨(vnL (n + 1)).toArray⟩
theorem vnL_len : ∀ k, (vnL k).length ≤ k := by
  intro k
  induction k using Nat.strongRecOn with
  | _ k ih =>
    rw [vnL]
    split
    · simp
    · have := ih ((k - 1) / 26) (by omega)
      simp only [List.length_append, List.length_singleton]
      omega
theorem letters : (Str.ofString "abcdefghijklmnopqrstuvwxyz").cps.toList = (List.range 26).map (97 + ·) := by decide +kernel
theorem letters_len : (Str.ofString "abcdefghijklmnopqrstuvwxyz").length ≤ sizeLine := by decide +kernel
theorem letters_len26 : ((Str.ofString "abcdefghijklmnopqrstuvwxyz").length : Int) = 26 := by decide +kernel
theorem letter_at {i : Nat} (h : i < 26) : atI (Str.ofString "abcdefghijklmnopqrstuvwxyz").cps.toList (i : Int) = some (97 + i) := by
  refine atI_lt ?_
  rw [letters, List.getElem?_map, List.getElem?_range h]
  rfl
theorem vix_str {z : Str} {i : Int} {G : GH} {R : TK} {c : Nat} (hz : z.length ≤ sizeLine) (e : atI z.cps.toList i = some c) (h : R (.str ⟨#[c]⟩) G) : vix (.str z) (.int i) G R := ⟨_, ⟨hz, c, e, rfl⟩, h⟩
theorem vdivmod_int {i j : Int} {G : GH} {R : TK} : vdivmod [.int i, .int j] G R = (CDiv i j ∧ R (.tup [.int (i / j), .int (i % j)]) G) := rfl
def t__variable_name : TTS :=
  (tseq (tasg (tcon (.str "")) (gname 1))
  (tseq (tasg (top vadd (tvar 0) (tcon (.int 1))) (gname 2))
  (tseq (twhile (tbool (top (vcmp fun i j => decide (j < i)) (tvar 2) (tcon (.int 0))))
  (tseq (tasg (tcb vdivmod (tacons (top vsub (tvar 2) (tcon (.int 1))) (tacons (tcb vlen (tacons (tcon (.str "abcdefghijklmnopqrstuvwxyz")) tanil)) tanil))) (gtup 2 (gcons (gname 2) (gcons (gname 3) gnil))))
  (tasg (top vadd (top vix (tcon (.str "abcdefghijklmnopqrstuvwxyz")) (tvar 3)) (tvar 1)) (gname 1))))
  (tret (tvar 1)))))

def sp__variable_name : TSp := fun ts G R => ∃ n : Nat, ts = [.int n] ∧ n < 1000000 ∧ R (.str (vname n)) G
theorem pure__variable_name (ts : List T) (G : GH) (R : TK) (h : sp__variable_name ts G R) : t__variable_name { nx := fun _ G' => WkR R .non G', rt := WkR R } (startT ["number", "name", "left", "letter"] ts) G := by
  obtain ⟨n, rfl, hn, h⟩ := h
  unfold t__variable_name
  walk_at "tl"
  refine ⟨fun m st G' => ∃ L, st = [some (.int n), some (.str ⟨L.toArray⟩), some (.int (m : Int)), none] ∧ G' = G ∧ vnL m ++ L = vnL (n + 1), ⟨n + 1, [], rfl, rfl, by simp⟩, ?_⟩
  rintro m st G' ⟨L, rfl, rfl, hL⟩
  have hlen := congrArg List.length hL
  rw [List.length_append] at hlen
  have hb := vnL_len (n + 1)
  walk_at "tl"
  cases m with
  | zero =>
    walk_at "tl"
    rw [vnL, dif_pos rfl, List.nil_append] at hL
    subst hL
    exact .of h
  | succ m =>
    have e0 : decide ((0 : Int) < ((m + 1 : Nat) : Int)) = true := by simp
    rw [e0]
    walk_at "tl"
    rw [show (((m + 1 : Nat) : Int) - 1) = (m : Int) by omega, letters_len26, vdivmod_int]
    refine ⟨⟨by decide, by decide⟩, ?_⟩
    walk_at "tl"
    rw [show ((m : Int) % 26) = ((m % 26 : Nat) : Int) by omega]
    refine vix_str letters_len (letter_at (Nat.mod_lt _ (by decide))) ?_
    walk_at "tl"
    refine ⟨?_, m / 26, by omega, .mk ⟨(97 + m % 26) :: L, rfl, rfl, ?_⟩ ?_ .refl⟩
    · show 1 + L.toArray.size ≤ sizeLine
      have : (1000010 : Nat) ≤ sizeLine := by decide
      simp
      omega
    · rw [vnL, dif_neg (by omega)] at hL
      simp only [Nat.add_sub_cancel] at hL
      simpa using hL
    · refine .same ?_
      have e1 : (⟨#[97 + m % 26]⟩ : Str) ++ ⟨L.toArray⟩ = ⟨((97 + m % 26) :: L).toArray⟩ := by
        show (⟨#[97 + m % 26] ++ L.toArray⟩ : Str) = _
        congr 1
        simp
      rw [e1]
      refine .same ?_
      rw [show ((m : Int) / 26) = ((m / 26 : Nat) : Int) by omega]
      exact .same (.none .nil)
end TL

namespace TL
open PySem PySem.Spec PyProof.Rows L2
local macro_rules | `(tactic| walk_at "tl") => `(tactic| try simp +decide only [tseq, tasg, tifs, tbool, tret, tretN, tdrop, tnext, tcont, tbreak, gname, gtup_tup, gcons_cons, gnil_nil, GO.lst.injEq, GO.dK.injEq, top, tvar, tcon, tun, ttup, tlst, tacons, tanil, tcb, tcall, tife, tand, tor, tnot, tandV, torV, tnotV, tisN, tnotN, T.isNon, ttruth, truth_bl, truth_non, truth_int, truth_tup, truth_fl, tsl, tpart, tnopart, tsortk, tlc, tfor, iany, irev, irange1_eq, irange2_eq, items_tup, items_fl, items_ref, twipe, List.set, izip_eq, tput_eq, vlist_tup, tmeth, isL, mappend_ref, mextend_tup, trev, exists_eq, exists_eq', 
  vix_tup, vix_fl, veq_str, vne_str, veq_int, vne_int, vcmp_int, vadd_int, vaddI_int, vadd_tup, vadd_str, vsub_int, vI_int, vlen_tup, vlen_fl, vlen_str, vtuple_tup, vtuple_ref, vint_int, vsl_tup, cut_from1, atI0, atI1, atI2, atI3, taug,
  startT, List.map_cons, List.map_nil, List.length_cons, List.length_nil, List.cons_append, List.nil_append, List.getElem?_cons_zero, List.getElem?_cons_succ, List.set_cons_zero, List.set_cons_succ, List.replicate, Option.some.injEq, exists_eq_left', exists_eq_left, T.bl.injEq, T.int.injEq, T.str.injEq, T.tup.injEq, T.ref.injEq, if_true, if_false, ite_true, ite_false, true_and, and_true, reduceCtorEq, gupd_same, gupd_gupd, Option.map_some, Option.map_none, Option.isSome_some, Option.isSome_none, Bool.not_true, Bool.not_false, Bool.true_eq_false, Bool.false_eq_true, List.cons.injEq, decide_true, decide_false])
theorem perm_flat {α β : Type} {f : α → List β} {xs ys : List α} (h : xs.Perm ys) : (xs.flatMap f).Perm (ys.flatMap f) := List.Perm.flatMap_right f h
theorem sortF_perm (fs : List (Str × Ty)) : (sortF fs).Perm fs := List.mergeSort_perm _ _
mutual
theorem norm_len : ∀ t : Ty, t.norm.pre.length = t.pre.length
  | .num => rfl
  | .tru => rfl
  | .var _ => rfl
  | .fn a b => by simp only [Ty.norm, Ty.pre, List.length_cons, List.length_append, norm_len a, norm_len b]
  | .rcd fs e => by
    have h1 := ((perm_flat (f := Ty.pre) ((sortF_perm (normF fs)).map (·.2)))).length_eq
    simp only [Ty.norm, Ty.pre, List.length_cons]
    rw [presF_eq, h1, ← presF_eq, normF_len fs]
theorem normF_len : ∀ fs : List (Str × Ty), (presF (normF fs)).length = (presF fs).length
  | [] => rfl
  | (_, t) :: r => by simp only [normF, presF, List.length_append, norm_len t, normF_len r]
end
def fresh (b : Bool) (n : Nat) : Ty := if b = true then .rcd [] (some (vname n)) else .var (vname n)
def addIm (ms : List (Str × Ty)) (o : Str × Bool) : List (Str × Ty) := if (look ms o.1).isSome = true then ms else ms ++ [(o.1, fresh o.2 ms.length)]
def tim (os : List (Str × Bool)) : List (Str × Ty) := os.foldl addIm []
def toldIm (ts : List Ty) : List (Str × Ty) := tim ((ts.map Ty.norm).flatMap Ty.occ)
def toldT (ts : List Ty) : List Ty := (ts.map Ty.norm).map (Ty.sub (toldIm ts))
/-- no name is both a type and a row -/
def Unmixed (os : List (Str × Bool)) : Prop := ∀ x, (x, true) ∈ os → (x, false) ∈ os → False
theorem look_app (ms : List (Str × Ty)) (x y : Str) (t : Ty) : look (ms ++ [(x, t)]) y = match look ms y with | some i => some i | none => if x = y then some t else none := by
  unfold look
  rw [List.find?_append]
  cases e : ms.find? fun p => decide (p.1 = y) with
  | some p => rfl
  | none =>
    by_cases h : x = y
    · simp [h]
    · simp [h]
theorem put_new (ms : List (Str × Ty)) (x : Str) (t : Ty) (h : look ms x = none) : putT (encI ms) (.inr x) t.enc = encI (ms ++ [(x, t)]) := by
  unfold putT
  rw [if_neg ?_]
  · simp [encI]
  · have e : lookT (encI ms) (.inr x) = none := by rw [look_enc, h]; rfl
    unfold lookT at e
    simp only [Option.map_eq_none_iff, List.find?_eq_none, decide_eq_true_eq] at e
    simp only [List.any_eq_true, decide_eq_true_eq, not_exists, not_and]
    exact fun a ha z => e a ha z
theorem tim_len (os : List (Str × Bool)) : ∀ ms, (os.foldl addIm ms).length ≤ ms.length + os.length := by
  induction os with
  | nil => intro ms; simp
  | cons o r ih =>
    intro ms
    have := ih (addIm ms o)
    have h2 : (addIm ms o).length ≤ ms.length + 1 := by unfold addIm; split <;> simp
    simp only [List.foldl_cons, List.length_cons]
    omega
/-- an image is as the first place of its name is -/
theorem tim_look {os : List (Str × Bool)} {x : Str} {i : Ty} : ∀ {ms : List (Str × Ty)}, look (os.foldl addIm ms) x = some i → look ms x = some i ∨ ∃ b n, (x, b) ∈ os ∧ i = fresh b n := by
  induction os with
  | nil => intro ms h; exact .inl h
  | cons o r ih =>
    intro ms h
    rcases ih h with h | ⟨b, n, h1, h2⟩
    · unfold addIm at h
      split at h
      · exact .inl h
      · rw [look_app] at h
        cases e : look ms x with
        | some j => rw [e] at h; exact .inl h
        | none =>
          rw [e] at h
          simp only at h
          split at h
          · rename_i hx
            cases h
            subst hx
            exact .inr ⟨o.2, _, by simp, rfl⟩
          · cases h
    · exact .inr ⟨b, n, by simp [h1], h2⟩
theorem ends_occ {t : Ty} {r : Str} (h : r ∈ t.ends) : (r, true) ∈ t.occ := by
  suffices H : ∀ n (t : Ty), t.pre.length ≤ n → r ∈ t.ends → (r, true) ∈ t.occ from H _ t (Nat.le_refl _) h
  intro n
  induction n with
  | zero => intro t h; have := t.pre_pos; omega
  | succ n ih =>
    intro t hn hr
    unfold Ty.ends at hr
    rw [t.pre_eq, List.flatMap_cons] at hr
    have hk : ∀ u ∈ t.kids, u.pre.length ≤ n := fun u hu => by
      have h1 : u.pre.length ≤ (t.kids.flatMap Ty.pre).length := by
        rw [List.length_flatMap]; exact mem_sum (List.mem_map_of_mem hu)
      rw [t.pre_eq] at hn
      simp only [List.length_cons] at hn
      omega
    have hsub : (∃ u ∈ t.kids, (r, true) ∈ u.occ) ∨ r ∈ t.end1 := by
      rcases List.mem_append.mp hr with h | h
      · exact .inr h
      · obtain ⟨v, hv, hrv⟩ := List.mem_flatMap.mp h
        obtain ⟨u, hu, hvu⟩ := List.mem_flatMap.mp hv
        exact .inl ⟨u, hu, ih u (hk u hu) (List.mem_flatMap.mpr ⟨v, hvu, hrv⟩)⟩
    cases t with
    | fn a b =>
      rcases hsub with ⟨u, hu, h⟩ | h
      · simp only [Ty.kids, List.mem_cons, List.not_mem_nil, or_false] at hu
        rcases hu with rfl | rfl <;> simp [Ty.occ, h]
      · simp [Ty.end1] at h
    | rcd fs e =>
      simp only [Ty.occ, List.mem_append, occF_eq]
      rcases hsub with ⟨u, hu, h⟩ | h
      · exact .inl (List.mem_flatMap.mpr ⟨u, hu, h⟩)
      · cases e with
        | none => simp [Ty.end1] at h
        | some s => simp only [Ty.end1, List.mem_singleton] at h; subst h; simp [occE]
    | _ => rcases hsub with ⟨u, hu, h⟩ | h <;> simp_all [Ty.kids, Ty.end1]
theorem sub_kids_tim {os : List (Str × Bool)} (t : Ty) : (t.sub (tim os)).kids.length ≤ t.kids.length := by
  have key : ∀ x i, look (tim os) x = some i → ∃ b n, i = fresh b n := fun x i h => by
    rcases tim_look h with h | ⟨b, n, _, h⟩
    · cases h
    · exact ⟨b, n, h⟩
  cases t with
  | var a =>
    simp only [Ty.sub]
    cases e : look (tim os) a with
    | none => simp [Ty.kids]
    | some i =>
      obtain ⟨b, n, rfl⟩ := key a i e
      cases b <;> simp [fresh, Ty.kids]
  | rcd fs e =>
    cases e with
    | none => simp [Ty.sub, Ty.kids, subF_eq]
    | some r =>
      simp only [Ty.sub]
      cases e : look (tim os) r with
      | none => simp [putRow, Ty.kids, subF_eq]
      | some i =>
        obtain ⟨b, n, rfl⟩ := key r i e
        cases b <;> simp [fresh, putRow, Ty.kids, subF_eq]
  | _ => simp [Ty.sub, Ty.kids]
def t_told (TT : List (Addr × Str)) : TTS :=
  (tseq (tasg (tlc (iany (tvar 0)) (gname 2) tyes (tcall (sp_normal TT) (tacons (tvar 2) tanil)) [2]) (gname 1))
  (tseq (tasg tdnew (gname 3))
  (tseq (tfor (iany (tvar 1)) (gname 2)
  (tfor (iany (tcall sp_occurrences (tacons (tvar 2) tanil))) (gtup 2 (gcons (gname 4) (gcons (gname 5) gnil)))
  (tifs (tbool (top (vin true) (tvar 4) (tvar 3)))
  (tseq (tasg (tcall sp__variable_name (tacons (tcb vlen (tacons (tvar 3) tanil)) tanil)) (gname 6))
  (tput (tvar 3) (tvar 4) (tife (ttruth (tvar 5)) (ttup (tacons (tcon (.str "record")) (tacons (ttup tanil) (tacons (tvar 6) tanil)))) (ttup (tacons (tcon (.str "var")) (tacons (tvar 6) tanil))))))
  tnext)))
  (tret (tcb vtuple (tacons (tlc (iany (tvar 1)) (gname 2) tyes (tcall sp_substitute (tacons (tvar 2) (tacons (tvar 3) tanil))) [2]) tanil))))))

def sp_told (TT : List (Addr × Str)) : TSp := fun ts G R => ∃ tys : List Ty, ts = [.tup (tys.map Ty.enc)] ∧ Tbs TT G ∧ tys.length ≤ 1000000 ∧ (∀ t ∈ tys, 2 * t.pre.length ≤ sizeLine) ∧ ((tys.map Ty.norm).flatMap Ty.occ).length < 1000000 ∧ Unmixed ((tys.map Ty.norm).flatMap Ty.occ) ∧ R (.tup ((toldT tys).map Ty.enc)) G
theorem fresh_enc (b : Bool) (n : Nat) : (fresh b n).enc = if b = true then .tup [.str "record", .tup [], .str (vname n)] else .tup [.str "var", .str (vname n)] := by
  cases b <;> rfl
theorem pure_told (TT : List (Addr × Str)) (ts : List T) (G : GH) (R : TK) (h : sp_told TT ts G R) : t_told TT { nx := fun _ G' => WkR R .non G', rt := WkR R } (startT ["types", "normals", "given", "images", "name", "ends_row", "fresh"] ts) G := by
  obtain ⟨tys, rfl, hT, hl, hs, ho, hu, h⟩ := h
  have big : (1000000 : Nat) ≤ sizeLine := by decide
  unfold t_told tdnew
  walk_at "tl"
  intro p hp
  refine lc_map (α := Ty) Ty.enc (fun t => t.norm.enc) tys (fun _ => trivial) (by omega) (fun t ht acc N hN => ?_) ?_
  · walk_at "tl"
    exact ⟨t, rfl, hT.newL hp, hs t ht, hN⟩
  have ens : tys.map (fun t => t.norm.enc) = (tys.map Ty.norm).map Ty.enc := by simp
  rw [ens]
  have hns : ∀ t ∈ tys.map Ty.norm, 2 * t.pre.length ≤ sizeLine := fun t ht => by
    obtain ⟨u, hu, rfl⟩ := List.mem_map.mp ht
    rw [norm_len]
    exact hs u hu
  have hlen : (tys.map Ty.norm).length ≤ 1000000 := by rw [List.length_map]; exact hl
  generalize hNS : tys.map Ty.norm = ns at *
  walk_at "tl"
  intro d hd0
  obtain ⟨hdp, hd⟩ := ne_none hd0
  refine ⟨_, g2_p hdp, ?_⟩
  refine for_inv (α := Ty) Ty.enc (fun xs st G' => ∃ zs, ns = zs ++ xs ∧ st = [some (.tup (tys.map Ty.enc)), some (.ref p), none, some (.ref d), none, none, none] ∧ G' = gupd (gupd G p (.lst (ns.map Ty.enc))) d (.dK (encI (tim (zs.flatMap Ty.occ))))) ?_ ?_ ns _ _ ⟨[], rfl, rfl, rfl⟩
  · rintro x xs st G' N hN ⟨zs, hz, rfl, rfl⟩
    refine ⟨g2_p hdp, ?_⟩
    have hx : x ∈ ns := by rw [hz]; simp
    walk_at "tl"
    refine ⟨x, rfl, hns x hx, fun a ha0 => ?_⟩
    obtain ⟨had, ha⟩ := ne_none ha0
    obtain ⟨hap, ha⟩ := ne_none ha
    walk_at "tl"
    have hob : (zs.flatMap Ty.occ).length + x.occ.length < 1000000 := by
      have : (ns.flatMap Ty.occ).length = (zs.flatMap Ty.occ).length + (x.occ.length + (xs.flatMap Ty.occ).length) := by rw [hz]; simp
      omega
    refine for_inv (α := Str × Bool) encO (fun ys st G' => ∃ ws, x.occ = ws ++ ys ∧ st = [some (.tup (tys.map Ty.enc)), some (.ref p), some x.enc, some (.ref d), none, none, none] ∧ G' = gupd (gupd (gupd G p (.lst (ns.map Ty.enc))) d (.dK (encI (tim (zs.flatMap Ty.occ ++ ws))))) a (.lst (x.occ.map encO))) ?_ ?_ x.occ _ _ ⟨[], rfl, rfl, by simp⟩
    · rintro ⟨y, b⟩ ys st G' M hM ⟨ws, hw, rfl, rfl⟩
      refine ⟨gupd_same, ?_⟩
      simp only [encO]
      have hat : ∀ A, gupd (gupd (gupd G p (.lst (ns.map Ty.enc))) d A) a (.lst (x.occ.map encO)) d = some A := fun A => by rw [gupd_ne (Ne.symm had), gupd_same]
      have hwl : ws.length ≤ x.occ.length := by rw [hw]; simp
      have htl := tim_len (zs.flatMap Ty.occ ++ ws) []
      simp only [List.length_append, List.length_nil] at htl
      have hfold : tim (zs.flatMap Ty.occ ++ (ws ++ [(y, b)])) = addIm (tim (zs.flatMap Ty.occ ++ ws)) (y, b) := by
        rw [← List.append_assoc]; simp [tim, List.foldl_append]
      have fin : ∀ (X : List (Str × Ty)) (Y : Option T) (Z : Option T × Option T), addIm (tim (zs.flatMap Ty.occ ++ ws)) (y, b) = X → M [some (.tup (tys.map Ty.enc)), some (.ref p), some x.enc, some (.ref d), Y, Z.1, Z.2] (gupd (gupd (gupd G p (.lst (ns.map Ty.enc))) d (.dK (encI X))) a (.lst (x.occ.map encO))) := fun X Y Z e => by
        refine hM _ _ (.mk ⟨ws ++ [(y, b)], by simpa using hw, rfl, ?_⟩ (.same (.same (.same (.same (.none (.none (.none .nil))))))) .refl)
        rw [hfold, e]
      walk_at "tl"
      refine .inr (.inl ⟨_, .inr y, .inl (hat _), rfl, ?_⟩)
      rw [look_enc]
      cases e : look (tim (zs.flatMap Ty.occ ++ ws)) y with
      | some i =>
        walk_at "tl"
        exact fin _ _ (_, _) (by unfold addIm; rw [e]; rfl)
      | none =>
        walk_at "tl"
        refine .inr ⟨_, hat _, ?_⟩
        walk_at "tl"
        refine ⟨(tim (zs.flatMap Ty.occ ++ ws)).length, by simp [encI], by unfold tim; omega, ?_⟩
        walk_at "tl"
        have e2 : addIm (tim (zs.flatMap Ty.occ ++ ws)) (y, b) = tim (zs.flatMap Ty.occ ++ ws) ++ [(y, fresh b (tim (zs.flatMap Ty.occ ++ ws)).length)] := by
          unfold addIm; rw [e]; rfl
        have put : ∀ t, t = (fresh b (tim (zs.flatMap Ty.occ ++ ws)).length).enc → gupd (gupd (gupd (gupd G p (.lst (ns.map Ty.enc))) d (.dK (encI (tim (zs.flatMap Ty.occ ++ ws))))) a (.lst (x.occ.map encO))) d (.dK (putT (encI (tim (zs.flatMap Ty.occ ++ ws))) (.inr y) t)) = gupd (gupd (gupd G p (.lst (ns.map Ty.enc))) d (.dK (encI (tim (zs.flatMap Ty.occ ++ ws) ++ [(y, fresh b (tim (zs.flatMap Ty.occ ++ ws)).length)])))) a (.lst (x.occ.map encO)) := fun t et => by
          rw [et, put_new _ _ _ e, gupd_comm had, gupd_gupd]
        have hz2 : (encI (tim (zs.flatMap Ty.occ ++ ws))).length < sizeLine := by simp only [encI, List.length_map]; unfold tim; omega
        cases b with
        | true =>
          walk_at "tl"
          refine put_dK (k := .inr y) (hat _) rfl hz2 ?_
          rw [put (.tup [.str "record", .tup [], .str (vname (tim (zs.flatMap Ty.occ ++ ws)).length)]) rfl]
          exact fin _ _ (_, _) e2
        | false =>
          walk_at "tl"
          refine put_dK (k := .inr y) (hat _) rfl hz2 ?_
          rw [put (.tup [.str "var", .str (vname (tim (zs.flatMap Ty.occ ++ ws)).length)]) rfl]
          exact fin _ _ (_, _) e2
    · rintro st G' ⟨ws, hw, rfl, rfl⟩
      rw [List.append_nil] at hw
      subst hw
      refine ⟨gupd_same, hN _ _ (.mk ⟨zs ++ [x], by simpa using hz, rfl, rfl⟩ (.same (.same (.none (.same (.same (.same (.same .nil))))))) ?_)⟩
      have e3 : (zs ++ [x]).flatMap Ty.occ = zs.flatMap Ty.occ ++ x.occ := by simp
      rw [e3]
      exact Sub.gupd (by rw [gupd_ne had, gupd_ne hap]; exact ha)
  · rintro st G' ⟨zs, hz, rfl, rfl⟩
    rw [List.append_nil] at hz
    subst hz
    refine ⟨g2_p hdp, ?_⟩
    walk_at "tl"
    refine ⟨_, g2_p hdp, fun q hq0 => ?_⟩
    obtain ⟨hqd, hq⟩ := ne_none hq0
    obtain ⟨hqp, hq⟩ := ne_none hq
    refine lc_map (α := Ty) Ty.enc (fun t => (t.sub (tim (ns.flatMap Ty.occ))).enc) ns (fun acc => by rw [gupd_ne (Ne.symm hqp)]; exact g2_p hdp) (by omega) (fun t ht acc N hN => ?_) ?_
    · walk_at "tl"
      refine ⟨t, d, _, rfl, .inl (by rw [gupd_ne (Ne.symm hqd), gupd_same]), fun r hr i hi => ?_, hns t ht, fun u hu => ?_, hN⟩
      · rcases tim_look hi with hi | ⟨b, n, h1, rfl⟩
        · cases hi
        · cases b with
          | true => rfl
          | false => exact (hu r (List.mem_flatMap.mpr ⟨t, ht, ends_occ hr⟩) h1).elim
      · have h1 := sub_kids_tim (os := ns.flatMap Ty.occ) u
        have h2 := pre_kids hu
        have h3 := hns t ht
        omega
    · walk_at "tl"
      refine ⟨G, ?_, ?_⟩
      · exact (Sub.gupd hp).trans ((Sub.gupd (by rw [gupd_ne hdp]; exact hd)).trans (Sub.gupd (by rw [gupd_ne hqd, gupd_ne hqp]; exact hq)))
      · unfold toldT toldIm at h
        rw [hNS] at h
        simpa [Function.comp_def] using h
end TL

namespace TL
open PySem PySem.Spec PyProof.Rows L2
local macro_rules | `(tactic| walk_at "tl") => `(tactic| try simp +decide only [tseq, tasg, tifs, tbool, tret, tretN, tdrop, tnext, tcont, tbreak, gname, gtup_tup, gcons_cons, gnil_nil, GO.lst.injEq, GO.dK.injEq, top, tvar, tcon, tun, ttup, tlst, tacons, tanil, tcb, tcall, tife, tand, tor, tnot, tandV, torV, tnotV, tisN, tnotN, T.isNon, ttruth, truth_bl, truth_non, truth_int, truth_tup, truth_fl, tsl, tpart, tnopart, tsortk, tlc, tfor, iany, irev, irange1_eq, irange2_eq, items_tup, items_fl, items_ref, twipe, List.set, izip_eq, tput_eq, vlist_tup, tmeth, isL, mappend_ref, mextend_tup, trev, exists_eq, exists_eq', 
  vix_tup, vix_fl, veq_str, vne_str, veq_int, vne_int, vcmp_int, vadd_int, vaddI_int, vadd_tup, vadd_str, vsub_int, vI_int, vlen_tup, vlen_fl, vlen_str, vtuple_tup, vtuple_ref, vint_int, vsl_tup, cut_from1, atI0, atI1, atI2, atI3, taug,
  startT, List.map_cons, List.map_nil, List.length_cons, List.length_nil, List.cons_append, List.nil_append, List.getElem?_cons_zero, List.getElem?_cons_succ, List.set_cons_zero, List.set_cons_succ, List.replicate, Option.some.injEq, exists_eq_left', exists_eq_left, T.bl.injEq, T.int.injEq, T.str.injEq, T.tup.injEq, T.ref.injEq, if_true, if_false, ite_true, ite_false, true_and, and_true, reduceCtorEq, gupd_same, gupd_gupd, Option.map_some, Option.map_none, Option.isSome_some, Option.isSome_none, Bool.not_true, Bool.not_false, Bool.true_eq_false, Bool.false_eq_true, List.cons.injEq, decide_true, decide_false])
def intsT (ns : List Int) : List T := ns.map T.int
def t__law_cell : TTS :=
  (tseq (tifs (tbool (top (vcmp fun i j => decide (i < j)) (tvar 1) (tcb vlen (tacons (tvar 0) tanil))))
  (tret (top vix (tvar 0) (tvar 1)))
  tnext)
  (tret (tcon (.int 0))))

/-- the script, as a list that is read alone or as one that stands in the heap -/
def Scr (G : GH) (x : T) (ns : List Int) : Prop := x = .fl (intsT ns) ∨ ∃ a, x = .ref a ∧ G a = some (.lst (intsT ns))
theorem Scr.len {G : GH} {x : T} {ns : List Int} {R : TK} (h : Scr G x ns) (q : R (.int ns.length) G) : vlen [x] G R := by
  have hl : (intsT ns).length = ns.length := by simp [intsT]
  rcases h with rfl | ⟨a, rfl, h⟩
  · show R (.int (intsT ns).length) G
    rw [hl]; exact q
  · exact .inl ⟨_, h, by rw [hl]; exact q⟩
theorem Scr.ix {G : GH} {x : T} {ns : List Int} {R : TK} {k : Nat} (h : Scr G x ns) (hk : k < ns.length) (q : R (.int ns[k]) G) : vix x (.int k) G R := by
  have e : atI (intsT ns) (k : Int) = some (.int ns[k]) := atI_lt (by simp [intsT, hk])
  rcases h with rfl | ⟨a, rfl, h⟩
  · exact ⟨_, e, q⟩
  · exact vix_lst h e q
theorem Scr.new {G : GH} {x : T} {ns : List Int} {p : Addr} {o : GO} (h : Scr G x ns) (n : G p = none) : Scr (gupd G p o) x ns := by
  rcases h with rfl | ⟨a, rfl, h⟩
  · exact .inl rfl
  · exact .inr ⟨a, rfl, by rw [gupd_free n (by rw [h]; rfl)]; exact h⟩
def sp__law_cell : TSp := fun ts G R => ∃ (x : T) (ns : List Int) (k : Nat), ts = [x, .int k] ∧ Scr G x ns ∧ R (.int (ns.getD k 0)) G
theorem pure__law_cell (ts : List T) (G : GH) (R : TK) (h : sp__law_cell ts G R) : t__law_cell { nx := fun _ G' => WkR R .non G', rt := WkR R } (startT ["script", "k"] ts) G := by
  obtain ⟨x, ns, k, rfl, hx, h⟩ := h
  unfold t__law_cell
  walk_at "tl"
  refine hx.len ?_
  walk_at "tl"
  by_cases hk : k < ns.length
  · have e : decide ((k : Int) < (ns.length : Int)) = true := by simp [hk]
    rw [e]
    walk_at "tl"
    refine hx.ix hk (.of ?_)
    have : ns.getD k 0 = ns[k] := by simp [List.getD, hk]
    rw [this] at h
    exact h
  · have e : decide ((k : Int) < (ns.length : Int)) = false := by simp; omega
    rw [e]
    walk_at "tl"
    have : ns.getD k 0 = 0 := by simp [List.getD, List.getElem?_eq_none (Nat.le_of_not_lt hk)]
    rw [this] at h
    exact .of h
def t__law_digits_r1 : TTS :=
  (tifs (tbool (top (vcmp fun i j => decide (j ≤ i)) (tvar 5) (top (vI CPow fun i j => i ^ j.toNat) (tcon (.int 10)) (tcon (.int 18)))))
  (tfor (irange1 (tacons (tcon (.int 60)) tanil)) (gname 6)
  (tifs (tbool (top (vcmp fun i j => decide (j < i)) (tvar 5) (tcon (.int 0))))
  (tseq (tdrop (tmeth mappend (tvar 3) (tacons (top (vI (fun _ j => 0 < j) (· % ·)) (tcb vint (tacons (tvar 5) tanil)) (tcon (.int 1000))) tanil)))
  (tasg (top (vI CDiv (· / ·)) (tvar 5) (tcon (.int 1000))) (gname 5)))
  tnext))
  (tseq (tasg (top (vI (fun _ j => 0 < j) (· % ·)) (tcb vint (tacons (top vadd (top vadd (top (vI CMul (· * ·)) (tvar 5) (tcon (.int 48271))) (top (vI CMul (· * ·)) (tvar 4) (tcon (.int 69621)))) (tcon (.int 11))) tanil)) (tcon (.int 2147483647))) (gname 7))
  (tfor (irange1 (tacons (tcon (.int 12)) tanil)) (gname 6)
  (tseq (tasg (top (vI (fun _ j => 0 < j) (· % ·)) (tcb vint (tacons (top vadd (top vadd (top (vI CMul (· * ·)) (tvar 7) (tcon (.int 16807))) (top (vI CMul (· * ·)) (tcon (.int 7)) (tvar 6))) (tcon (.int 1))) tanil)) (tcon (.int 2147483647))) (gname 7))
  (tdrop (tmeth mappend (tvar 3) (tacons (top (vI (fun _ j => 0 < j) (· % ·)) (tcb vint (tacons (top (vI CDiv (· / ·)) (tvar 7) (tcon (.int 997))) tanil)) (tcon (.int 1000))) tanil)))))))
def t__law_digits : TTS :=
  (tseq (tasg (tlst tanil) (gname 3))
  (tseq (tfor (irange2 (tacons (tvar 1) (tacons (tvar 2) tanil))) (gname 4)
  (tseq (tasg (tcall sp__law_cell (tacons (tvar 0) (tacons (tvar 4) tanil))) (gname 5))
  (tseq (tifs (tbool (top (vcmp fun i j => decide (i < j)) (tvar 5) (tcon (.int 0))))
  (tasg (top vsub (tcon (.int 1)) (top (vI CMul (· * ·)) (tcon (.int 2)) (tvar 5))) (gname 5))
  tnext)
  t__law_digits_r1)))
  (tret (tvar 3))))

def sp__law_digits : TSp := fun ts G R => ∃ (sx : T) (ns : List Int) (a b : Nat), ts = [sx, .int a, .int b] ∧ Scr G sx ns ∧ a ≤ b ∧ b ≤ 63 ∧ ∀ p ds, G p = none → R (.ref p) (gupd G p (.lst (intsT ds)))
theorem pure__law_digits (ts : List T) (G : GH) (R : TK) (h : sp__law_digits ts G R) : t__law_digits { nx := fun _ G' => WkR R .non G', rt := WkR R } (startT ["script", "first", "last", "digits", "k", "cell", "turn", "seed"] ts) G := by
  obtain ⟨sx, ns, a, b, rfl, hx, hab, hb, h⟩ := h
  unfold t__law_digits
  walk_at "tl"
  intro p hp
  refine rng2_nat (by omega) (by omega) ?_
  have hz : (10000 : Nat) ≤ sizeLine := by decide
  refine for_inv (α := Nat) (fun i => T.int ((a + i : Nat) : Int)) (fun xs st G' => ∃ ds, ds.length + 60 * xs.length ≤ 60 * (b - a) ∧ st = [some sx, some (.int a), some (.int b), some (.ref p), none, none, none, none] ∧ G' = gupd G p (.lst (intsT ds))) ?_ ?_ (List.range (b - a)) _ _ ⟨[], by simp, rfl, rfl⟩
  · rintro i xs st G' N hN ⟨ds, hd, rfl, rfl⟩
    simp only [List.length_cons] at hd
    refine ⟨trivial, ?_⟩
    walk_at "tl"
    refine ⟨sx, ns, a + i, rfl, hx.new hp, ?_⟩
    generalize ns.getD (a + i) 0 = cell
    walk_at "tl"
    have pw : CPow 10 18 := ⟨by decide, by decide, by decide⟩
    have key : ∀ c : Int, t__law_digits_r1 { nx := N, rt := WkR R, bk := tret (tvar 3) { nx := fun x G' => WkR R T.non G', rt := WkR R }, ct := N } [some sx, some (.int a), some (.int b), some (.ref p), some (.int ((a + i : Nat) : Int)), some (.int c), none, none] (gupd G p (.lst (intsT ds))) := by
      intro c
      unfold t__law_digits_r1
      walk_at "tl"
      refine ⟨pw, ?_⟩
      have again : ∀ (ds' : List Int) (X Y Z : Option T), ds'.length ≤ ds.length + 60 → N [some sx, some (.int a), some (.int b), some (.ref p), some (.int ((a + i : Nat) : Int)), X, Y, Z] (gupd G p (.lst (intsT ds'))) := fun ds' X Y Z hl =>
        hN _ _ (.mk ⟨ds', by omega, rfl, rfl⟩ (.same (.same (.same (.same (.none (.none (.none (.none .nil)))))))) .refl)
      split
      · refine rng1_lit 60 rfl (by decide) ?_
        refine for_inv (α := Nat) (fun i => T.int (i : Int)) (fun zs st G' => ∃ (ds' : List Int) (c' : Int), ds'.length + zs.length ≤ ds.length + 60 ∧ st = [some sx, some (.int a), some (.int b), some (.ref p), some (.int ((a + i : Nat) : Int)), some (.int c'), none, none] ∧ G' = gupd G p (.lst (intsT ds'))) ?_ ?_ (List.range 60) _ _ ⟨ds, c, by simp, rfl, rfl⟩
        · rintro j zs st G' M hM ⟨ds', c', hl, rfl, rfl⟩
          simp only [List.length_cons] at hl
          have next : ∀ (ds2 : List Int) (c2 : Int) (X Y : Option T), ds2.length + zs.length ≤ ds.length + 60 → M [some sx, some (.int a), some (.int b), some (.ref p), some (.int ((a + i : Nat) : Int)), some (.int c2), X, Y] (gupd G p (.lst (intsT ds2))) := fun ds2 c2 X Y h2 =>
            hM _ _ (.mk ⟨ds2, c2, h2, rfl, rfl⟩ (.same (.same (.same (.same (.same (.same (.none (.none .nil)))))))) .refl)
          refine ⟨trivial, ?_⟩
          walk_at "tl"
          split
          · refine ⟨by simp only [intsT, List.length_map]; omega, ⟨by decide, by decide⟩, ?_⟩
            have := next (ds' ++ [c' % 1000]) (c' / 1000) (some (.int j)) none (by simp; omega)
            simpa [intsT] using this
          · exact next _ _ _ _ (by omega)
        · rintro st G' ⟨ds', c', hl, rfl, rfl⟩
          exact ⟨trivial, again _ _ _ _ (by simpa using hl)⟩
      · refine ⟨.inr ⟨by decide, by decide⟩, .inr ⟨by decide, by decide⟩, rng1_lit 12 rfl (by decide) ?_⟩
        refine for_inv (α := Nat) (fun i => T.int (i : Int)) (fun zs st G' => ∃ (ds' : List Int) (c' : Int), ds'.length + zs.length ≤ ds.length + 12 ∧ st = [some sx, some (.int a), some (.int b), some (.ref p), some (.int ((a + i : Nat) : Int)), some (.int c), none, some (.int c')] ∧ G' = gupd G p (.lst (intsT ds'))) ?_ ?_ (List.range 12) _ _ ⟨ds, _, by simp, rfl, rfl⟩
        · rintro j zs st G' M hM ⟨ds', c', hl, rfl, rfl⟩
          simp only [List.length_cons] at hl
          have next : ∀ (ds2 : List Int) (c2 : Int) (X : Option T), ds2.length + zs.length ≤ ds.length + 12 → M [some sx, some (.int a), some (.int b), some (.ref p), some (.int ((a + i : Nat) : Int)), some (.int c), X, some (.int c2)] (gupd G p (.lst (intsT ds2))) := fun ds2 c2 X h2 =>
            hM _ _ (.mk ⟨ds2, c2, h2, rfl, rfl⟩ (.same (.same (.same (.same (.same (.same (.none (.same .nil)))))))) .refl)
          refine ⟨trivial, ?_⟩
          walk_at "tl"
          refine ⟨.inr ⟨by decide, by decide⟩, .inl ⟨by decide, by decide⟩, ⟨by decide, by decide⟩, by simp only [intsT, List.length_map]; omega, ?_⟩
          have := next (ds' ++ [((c' * 16807 + 7 * (j : Int) + 1) % 2147483647 / 997) % 1000]) ((c' * 16807 + 7 * (j : Int) + 1) % 2147483647) (some (.int j)) (by simp; omega)
          simpa [intsT] using this
        · rintro st G' ⟨ds', c', hl, rfl, rfl⟩
          exact ⟨trivial, again _ _ _ _ (by simp at hl; omega)⟩
    split
    · exact ⟨.inl ⟨by decide, by decide⟩, key _⟩
    · exact key _
  · rintro st G' ⟨ds, hd, rfl, rfl⟩
    refine ⟨trivial, ?_⟩
    walk_at "tl"
    exact .of (h p ds hp)
/-- the box at b, with the digits at p, stands at a place -/
def bx (b p : Addr) (i : Nat) (G : GH) : GH := gupd G b (.lst [.ref p, .int (i : Int)])
structure HB (b p : Addr) (G : GH) : Prop where
  box : ∃ i : Nat, G b = some (.lst [.ref p, .int (i : Int)])
  dig : ∃ ds, G p = some (.lst (intsT ds))
  ne : p ≠ b
theorem HB.bx {b p : Addr} {G : GH} {i : Nat} (h : HB b p G) : HB b p (bx b p i G) := by
  obtain ⟨ds, hd⟩ := h.dig
  exact ⟨⟨i, gupd_same⟩, ⟨ds, by unfold TL.bx; rw [gupd_ne h.ne]; exact hd⟩, h.ne⟩
theorem bx_bx {b p : Addr} {G : GH} {i j : Nat} : bx b p i (bx b p j G) = bx b p i G := gupd_gupd
theorem HB.new {b p q : Addr} {G : GH} {o : GO} (h : HB b p G) (n : G q = none) : HB b p (gupd G q o) := by
  obtain ⟨i, hi⟩ := h.box
  obtain ⟨ds, hd⟩ := h.dig
  exact ⟨⟨i, by rw [gupd_free n (by rw [hi]; rfl)]; exact hi⟩, ⟨ds, by rw [gupd_free n (by rw [hd]; rfl)]; exact hd⟩, h.ne⟩
theorem HB.put {b p q : Addr} {G : GH} {o : GO} (h : HB b p G) (n : q ≠ b) (m : q ≠ p) : HB b p (gupd G q o) := by
  obtain ⟨i, hi⟩ := h.box
  obtain ⟨ds, hd⟩ := h.dig
  exact ⟨⟨i, by rw [gupd_ne (Ne.symm n)]; exact hi⟩, ⟨ds, by rw [gupd_ne (Ne.symm m)]; exact hd⟩, h.ne⟩
theorem HB.neb {b p q : Addr} {G : GH} (h : HB b p G) (n : G q = none) : q ≠ b := fun z => by
  obtain ⟨i, hi⟩ := h.box
  rw [z, hi] at n; cases n
theorem HB.nep {b p q : Addr} {G : GH} (h : HB b p G) (n : G q = none) : q ≠ p := fun z => by
  obtain ⟨i, hi⟩ := h.dig
  rw [z, hi] at n; cases n
theorem bx_none {b p q : Addr} {G : GH} {i : Nat} (n : bx b p i G q = none) : q ≠ b ∧ G q = none := ne_none n
theorem bx_swap {b p q : Addr} {G : GH} {i : Nat} {o : GO} (n : q ≠ b) : bx b p i (gupd G q o) = gupd (bx b p i G) q o := gupd_comm n
def t__law_draw : TTS :=
  (tseq (tasg (top vix (tvar 0) (tcon (.int 1))) (gname 2))
  (tseq (tput (tvar 0) (tcon (.int 1)) (top vadd (tvar 2) (tcon (.int 1))))
  (tseq (tifs (tbool (top (vcmp fun i j => decide (i < j)) (tvar 2) (tcb vlen (tacons (top vix (tvar 0) (tcon (.int 0))) tanil))))
  (tret (top (vI (fun _ j => 0 < j) (· % ·)) (tcb vint (tacons (top vix (top vix (tvar 0) (tcon (.int 0))) (tvar 2)) tanil)) (tvar 1)))
  tnext)
  (tret (top (vI (fun _ j => 0 < j) (· % ·)) (tcb vint (tacons (top vadd (top (vI CMul (· * ·)) (tvar 2) (tcon (.int 7))) (tcon (.int 3))) tanil)) (tvar 1))))))

def sp__law_draw : TSp := fun ts G R => ∃ (b p : Addr) (m : Int), ts = [.ref b, .int m] ∧ 0 < m ∧ HB b p G ∧ ∀ (r : Int) (i : Nat), 0 ≤ r → r < m → R (.int r) (bx b p i G)
theorem pure__law_draw (ts : List T) (G : GH) (R : TK) (h : sp__law_draw ts G R) : t__law_draw { nx := fun _ G' => WkR R .non G', rt := WkR R } (startT ["box", "many", "at"] ts) G := by
  obtain ⟨b, p, m, rfl, hm, ⟨⟨i, hb⟩, ⟨ds, hp⟩, hne⟩, h⟩ := h
  have hp2 : ∀ A, gupd G b A p = some (.lst (intsT ds)) := fun A => by rw [gupd_ne hne]; exact hp
  unfold t__law_draw
  walk_at "tl"
  refine vix_lst hb atI1 ?_
  walk_at "tl"
  refine put_lst (j := 1) hb (by simp [ixN]) ?_
  walk_at "tl"
  refine vix_lst gupd_same atI0 ?_
  refine .inl ⟨_, hp2 _, ?_⟩
  walk_at "tl"
  have hl : (intsT ds).length = ds.length := by simp [intsT]
  have e1 : ((i : Int) + 1) = ((i + 1 : Nat) : Int) := by omega
  rw [hl]
  split
  · rename_i hc
    refine vix_lst gupd_same atI0 ?_
    have hi : i < ds.length := by simpa using hc
    refine vix_lst (hp2 _) (atI_lt (x := .int ds[i]) (by simp [intsT, hi])) ?_
    walk_at "tl"
    refine ⟨hm, .of ?_⟩
    have := h (ds[i] % m) (i + 1) (Int.emod_nonneg _ (by omega)) (Int.emod_lt_of_pos _ hm)
    rw [e1]
    exact this
  · refine ⟨.inr ⟨by decide, by decide⟩, hm, .of ?_⟩
    have := h (((i : Int) * 7 + 3) % m) (i + 1) (Int.emod_nonneg _ (by omega)) (Int.emod_lt_of_pos _ hm)
    rw [e1]
    exact this
end TL

namespace TL
open PySem PySem.Spec PyProof.Rows L2
local macro_rules | `(tactic| walk_at "tl") => `(tactic| try simp +decide only [tseq, tasg, tifs, tbool, tret, tretN, tdrop, tnext, tcont, tbreak, gname, gtup_tup, gcons_cons, gnil_nil, GO.lst.injEq, GO.dK.injEq, top, tvar, tcon, tun, ttup, tlst, tacons, tanil, tcb, tcall, tife, tand, tor, tnot, tandV, torV, tnotV, tisN, tnotN, T.isNon, ttruth, truth_bl, truth_non, truth_int, truth_tup, truth_fl, tsl, tpart, tnopart, tsortk, tlc, tfor, iany, irev, irange1_eq, irange2_eq, items_tup, items_fl, items_ref, twipe, List.set, izip_eq, tput_eq, vlist_tup, tmeth, isL, mappend_ref, mextend_tup, trev, exists_eq, exists_eq', 
  vix_tup, vix_fl, veq_str, vne_str, veq_int, vne_int, vcmp_int, vadd_int, vaddI_int, vadd_tup, vadd_str, vsub_int, vI_int, vlen_tup, vlen_fl, vlen_str, vtuple_tup, vtuple_ref, vint_int, vsl_tup, cut_from1, atI0, atI1, atI2, atI3, taug,
  startT, List.map_cons, List.map_nil, List.length_cons, List.length_nil, List.cons_append, List.nil_append, List.getElem?_cons_zero, List.getElem?_cons_succ, List.set_cons_zero, List.set_cons_succ, List.replicate, Option.some.injEq, exists_eq_left', exists_eq_left, T.bl.injEq, T.int.injEq, T.str.injEq, T.tup.injEq, T.ref.injEq, if_true, if_false, ite_true, ite_false, true_and, and_true, reduceCtorEq, gupd_same, gupd_gupd, Option.map_some, Option.map_none, Option.isSome_some, Option.isSome_none, Bool.not_true, Bool.not_false, Bool.true_eq_false, Bool.false_eq_true, List.cons.injEq, decide_true, decide_false])
def VN : List Str := ["a", "b", "zz", "c"]
def RN : List Str := ["r", "s", "q"]
def LN : List Str := ["x", "y", "z", "number"]
/-- types drawn to a depth -/
def TyOk : Nat → Ty → Prop
  | _, .num => True
  | _, .tru => True
  | _, .var a => a ∈ VN
  | d + 1, .fn a b => TyOk d a ∧ TyOk d b
  | d + 1, .rcd fs e => fs.length ≤ 3 ∧ (∀ q ∈ fs, q.1 ∈ LN ∧ TyOk d q.2) ∧ ∀ r, e = some r → r ∈ RN
  | 0, _ => False
def sp__law_type (d : Nat) : TSp := fun ts G R => ∃ b p, ts = [.ref b, .int (d : Int)] ∧ HB b p G ∧ ∀ t i, TyOk d t → R t.enc (bx b p i G)
def sp__law_record (d : Nat) : TSp := fun ts G R => ∃ b p, ts = [.ref b, .int ((d + 1 : Nat) : Int)] ∧ HB b p G ∧ ∀ fs e i, TyOk (d + 1) (.rcd fs e) → R (Ty.rcd fs e).enc (bx b p i G)
def t__law_type (s__law_record : TSp) (s__law_type : TSp) : TTS :=
  (tseq (tasg (tcall sp__law_draw (tacons (tvar 0) (tacons (tcon (.int 8)) tanil))) (gname 2))
  (tseq (tifs (tor (tbool (top veq (tvar 1) (tcon (.int 0)))) (tbool (top (vcmp fun i j => decide (i < j)) (tvar 2) (tcon (.int 3)))))
  (tret (top vix (tlst (tacons (ttup (tacons (tcon (.str "number")) tanil)) (tacons (ttup (tacons (tcon (.str "truth")) tanil)) (tacons (ttup (tacons (tcon (.str "var")) (tacons (tcon (.str "a")) tanil))) (tacons (ttup (tacons (tcon (.str "var")) (tacons (tcon (.str "b")) tanil))) (tacons (ttup (tacons (tcon (.str "var")) (tacons (tcon (.str "zz")) tanil))) (tacons (ttup (tacons (tcon (.str "var")) (tacons (tcon (.str "c")) tanil))) tanil))))))) (tcall sp__law_draw (tacons (tvar 0) (tacons (tcon (.int 6)) tanil)))))
  tnext)
  (tseq (tifs (tbool (top (vcmp fun i j => decide (i < j)) (tvar 2) (tcon (.int 5))))
  (tret (ttup (tacons (tcon (.str "fun")) (tacons (tcall s__law_type (tacons (tvar 0) (tacons (top vsub (tvar 1) (tcon (.int 1))) tanil))) (tacons (tcall s__law_type (tacons (tvar 0) (tacons (top vsub (tvar 1) (tcon (.int 1))) tanil))) tanil)))))
  tnext)
  (tret (tcall s__law_record (tacons (tvar 0) (tacons (tvar 1) tanil)))))))

def t__law_record (s__law_type : TSp) : TTS :=
  (tseq (tasg (tcb vtuple (tacons (tlc (irange1 (tacons (tcall sp__law_draw (tacons (tvar 0) (tacons (tcon (.int 4)) tanil))) tanil)) (gname 3) tyes (ttup (tacons (top vix (tlst (tacons (tcon (.str "x")) (tacons (tcon (.str "y")) (tacons (tcon (.str "z")) (tacons (tcon (.str "number")) tanil))))) (tcall sp__law_draw (tacons (tvar 0) (tacons (tcon (.int 4)) tanil)))) (tacons (tcall s__law_type (tacons (tvar 0) (tacons (top vsub (tvar 1) (tcon (.int 1))) tanil))) tanil))) [3]) tanil)) (gname 2))
  (tret (ttup (tacons (tcon (.str "record")) (tacons (tvar 2) (tacons (top vix (tlst (tacons (tcon .non) (tacons (tcon (.str "r")) (tacons (tcon (.str "s")) (tacons (tcon (.str "q")) tanil))))) (tcall sp__law_draw (tacons (tvar 0) (tacons (tcon (.int 4)) tanil)))) tanil))))))

theorem leafs (d : Nat) : ∀ r : Int, 0 ≤ r → r < 6 → ∃ t, TyOk d t ∧ atI [T.tup [.str "number"], .tup [.str "truth"], .tup [.str "var", .str "a"], .tup [.str "var", .str "b"], .tup [.str "var", .str "zz"], .tup [.str "var", .str "c"]] r = some t.enc := by
  intro r h0 h6
  obtain ⟨n, rfl⟩ : ∃ n : Nat, r = n := ⟨r.toNat, by omega⟩
  have hn : n < 6 := by omega
  have : n = 0 ∨ n = 1 ∨ n = 2 ∨ n = 3 ∨ n = 4 ∨ n = 5 := by omega
  rcases this with rfl | rfl | rfl | rfl | rfl | rfl
  · exact ⟨.num, by unfold TyOk; trivial, atI_lt rfl⟩
  · exact ⟨.tru, by unfold TyOk; trivial, atI_lt rfl⟩
  · exact ⟨.var "a", by unfold TyOk; decide, atI_lt rfl⟩
  · exact ⟨.var "b", by unfold TyOk; decide, atI_lt rfl⟩
  · exact ⟨.var "zz", by unfold TyOk; decide, atI_lt rfl⟩
  · exact ⟨.var "c", by unfold TyOk; decide, atI_lt rfl⟩
theorem ends4 : ∀ r : Int, 0 ≤ r → r < 4 → ∃ e : Option Str, (∀ x, e = some x → x ∈ RN) ∧ atI [T.non, .str "r", .str "s", .str "q"] r = some (encE e) := by
  intro r h0 h6
  obtain ⟨n, rfl⟩ : ∃ n : Nat, r = n := ⟨r.toNat, by omega⟩
  have : n = 0 ∨ n = 1 ∨ n = 2 ∨ n = 3 := by omega
  rcases this with rfl | rfl | rfl | rfl
  · exact ⟨none, by simp, atI_lt rfl⟩
  · exact ⟨some "r", by intro x h; cases h; decide, atI_lt rfl⟩
  · exact ⟨some "s", by intro x h; cases h; decide, atI_lt rfl⟩
  · exact ⟨some "q", by intro x h; cases h; decide, atI_lt rfl⟩
theorem labels4 : ∀ r : Int, 0 ≤ r → r < 4 → ∃ l : Str, l ∈ LN ∧ atI [T.str "x", .str "y", .str "z", .str "number"] r = some (.str l) := by
  intro r h0 h6
  obtain ⟨n, rfl⟩ : ∃ n : Nat, r = n := ⟨r.toNat, by omega⟩
  have : n = 0 ∨ n = 1 ∨ n = 2 ∨ n = 3 := by omega
  rcases this with rfl | rfl | rfl | rfl
  · exact ⟨"x", by decide, atI_lt rfl⟩
  · exact ⟨"y", by decide, atI_lt rfl⟩
  · exact ⟨"z", by decide, atI_lt rfl⟩
  · exact ⟨"number", by decide, atI_lt rfl⟩
theorem TyOk.up : ∀ {d : Nat} {t : Ty}, TyOk d t → TyOk (d + 1) t
  | _, .num, _ => by unfold TyOk; trivial
  | _, .tru, _ => by unfold TyOk; trivial
  | _, .var a, h => by unfold TyOk at *; exact h
  | d + 1, .fn a b, h => by
    unfold TyOk at h ⊢
    exact ⟨h.1.up, h.2.up⟩
  | d + 1, .rcd fs e, h => by
    unfold TyOk at h ⊢
    exact ⟨h.1, fun q hq => ⟨(h.2.1 q hq).1, (h.2.1 q hq).2.up⟩, h.2.2⟩
  | 0, .fn _ _, h => by unfold TyOk at h; exact h.elim
  | 0, .rcd _ _, h => by unfold TyOk at h; exact h.elim

theorem pure__law_type (d : Nat) (sr st : TSp) (hr : ∀ k, d = k + 1 → sr = sp__law_record k) (ht : ∀ k, d = k + 1 → st = sp__law_type k) (ts : List T) (G : GH) (R : TK) (h : sp__law_type d ts G R) :
    t__law_type sr st { nx := fun _ G' => WkR R .non G', rt := WkR R } (startT ["box", "depth", "kind"] ts) G := by
  obtain ⟨b, p, rfl, hb, h⟩ := h
  unfold t__law_type
  walk_at "tl"
  refine ⟨b, p, 8, rfl, by decide, hb, fun r i h0 h8 => ?_⟩
  walk_at "tl"
  have leaf : ∀ q, bx b p i G q = none → sp__law_draw [.ref b, .int 6] (gupd (bx b p i G) q (.lst [.tup [.str "number"], .tup [.str "truth"], .tup [.str "var", .str "a"], .tup [.str "var", .str "b"], .tup [.str "var", .str "zz"], .tup [.str "var", .str "c"]])) fun y G2 => vix (.ref q) y G2 (WkR R) := by
    intro q hq
    obtain ⟨hqb, hqG⟩ := bx_none hq
    refine ⟨b, p, 6, rfl, by decide, hb.bx.new hq, fun r2 j h2 h3 => ?_⟩
    obtain ⟨t, h4, h5⟩ := leafs d r2 h2 h3
    rw [bx_swap hqb, bx_bx]
    refine vix_lst gupd_same h5 (wkR_new ?_ (h t j h4))
    rw [show bx b p j G q = G q from gupd_ne hqb]
    exact hqG
  split
  · exact leaf
  · split
    · exact leaf
    · rename_i hd0 _
      obtain ⟨k, rfl⟩ : ∃ k, d = k + 1 := ⟨d - 1, by simp at hd0; omega⟩
      have ek : ((k + 1 : Nat) : Int) - 1 = (k : Int) := by omega
      split
      · rw [ht k rfl, ek]
        refine ⟨b, p, rfl, hb.bx, fun x j1 hx => ?_⟩
        refine ⟨b, p, rfl, hb.bx.bx, fun y j2 hy => ?_⟩
        rw [bx_bx, bx_bx]
        exact .of (h (.fn x y) j2 (by unfold TyOk; exact ⟨hx, hy⟩))
      · rw [hr k rfl]
        refine ⟨b, p, rfl, hb.bx, fun fs e j hf => ?_⟩
        rw [bx_bx]
        exact .of (h _ j hf)
theorem pure__law_record (d : Nat) (st : TSp) (ht : st = sp__law_type d) (ts : List T) (G : GH) (R : TK) (h : sp__law_record d ts G R) :
    t__law_record st { nx := fun _ G' => WkR R .non G', rt := WkR R } (startT ["box", "depth", "fields", "k"] ts) G := by
  obtain ⟨b, p, rfl, hb, h⟩ := h
  unfold t__law_record
  walk_at "tl"
  refine ⟨b, p, 4, rfl, by decide, hb, fun r i h0 h4 => ?_⟩
  obtain ⟨n, rfl⟩ : ∃ n : Nat, r = n := ⟨r.toNat, by omega⟩
  refine rng1_nat (by omega) fun D hD0 => ?_
  obtain ⟨hDb, hD⟩ := bx_none hD0
  have ek : ((d + 1 : Nat) : Int) - 1 = (d : Int) := by omega
  refine lc_inv (α := Nat) (fun i => T.int (i : Int)) (fun xs acc G' => ∃ fs j, acc = encFs fs ∧ fs.length + xs.length ≤ 3 ∧ (∀ q ∈ fs, q.1 ∈ LN ∧ TyOk d q.2) ∧ G' = gupd (bx b p j G) D (.lst acc)) ?_ ?_ (List.range n) [] _ ⟨[], i, rfl, by simp; omega, by simp, rfl⟩
  · rintro x xs acc G' N hN ⟨fs, j, rfl, hl, hf, rfl⟩
    refine ⟨trivial, ?_⟩
    have hbD : HB b p (gupd (bx b p j G) D (.lst (encFs fs))) := hb.bx.put hDb (hb.nep hD)
    walk_at "tl"
    intro q hq
    obtain ⟨hqD, hq1⟩ := ne_none hq
    obtain ⟨hqb, hqG⟩ := bx_none hq1
    refine ⟨b, p, 4, rfl, by decide, hbD.new hq, fun r2 j2 g0 g4 => ?_⟩
    obtain ⟨l, hl4, hat⟩ := labels4 r2 g0 g4
    rw [bx_swap hqb]
    refine vix_lst gupd_same hat ?_
    rw [ht, ek]
    refine ⟨b, p, rfl, hbD.bx.put hqb (hb.nep hqG), fun t j3 hok => ?_⟩
    rw [bx_swap hqb, bx_bx, bx_swap hDb, bx_bx]
    walk_at "tl"
    refine ⟨encFs fs, by rw [gupd_ne (Ne.symm hqD), gupd_same], ?_, hN (encFs (fs ++ [(l, t)])) _ ⟨_, ?_, fs ++ [(l, t)], j3, rfl, ?_, ?_, rfl⟩⟩
    · rw [encFs_map, List.length_map]
      have : (3 : Nat) < sizeLine := by decide
      simp only [List.length_cons] at hl
      omega
    · have e1 : encFs (fs ++ [(l, t)]) = encFs fs ++ [T.tup [.str l, t.enc]] := by simp [encFs_map]
      rw [e1]
      refine Sub.at fun a o ha e => ?_
      rw [gupd_ne (fun z => by rw [z] at e; rw [show bx b p j3 G q = G q from gupd_ne hqb, hqG] at e; cases e), gupd_ne ha]
      exact e
    · simp only [List.length_cons] at hl
      simp; omega
    · intro u hu
      rcases List.mem_append.mp hu with hu | hu
      · exact hf u hu
      · obtain rfl : u = (l, t) := by simpa using hu
        exact ⟨hl4, hok⟩
  · rintro acc G' ⟨fs, j, rfl, hl, hf, rfl⟩
    refine ⟨trivial, ?_⟩
    have hbD : HB b p (gupd (bx b p j G) D (.lst (encFs fs))) := hb.bx.put hDb (hb.nep hD)
    walk_at "tl"
    intro q hq
    obtain ⟨hqD, hq1⟩ := ne_none hq
    obtain ⟨hqb, hqG⟩ := bx_none hq1
    refine ⟨b, p, 4, rfl, by decide, hbD.new hq, fun r2 j2 g0 g4 => ?_⟩
    obtain ⟨e, he, hat⟩ := ends4 r2 g0 g4
    rw [bx_swap hqb]
    refine vix_lst gupd_same hat ?_
    rw [bx_swap hDb, bx_bx]
    have hok : TyOk (d + 1) (.rcd fs e) := by unfold TyOk; exact ⟨by simpa using hl, hf, he⟩
    have := h fs e j2 hok
    simp only [Ty.enc] at this
    exact ⟨_, (Sub.gupd (by rw [show bx b p j2 G D = G D from gupd_ne hDb]; exact hD)).trans (Sub.gupd (by rw [gupd_ne hqD, show bx b p j2 G q = G q from gupd_ne hqb]; exact hqG)), this⟩
def ImOk (d : Nat) (ms : List (Str × Ty)) : Prop := ∀ q ∈ ms, TyOk d q.2 ∧ (q.1 ∈ VN ∨ (q.1 ∈ RN ∧ isRow q.2 = true))
def sp__law_drawn_images (d : Nat) : TSp := fun ts G R => ∃ b p, ts = [.ref b, .int ((d + 1 : Nat) : Int)] ∧ HB b p G ∧ ∀ l ms i, G l = none → l ≠ b → ImOk (d + 1) ms → (ms.map (·.1)).Nodup → R (.ref l) (gupd (bx b p i G) l (.dK (encI ms)))
def t__law_drawn_images (s__law_type : TSp) (s__law_record : TSp) : TTS :=
  (tseq (tasg tdnew (gname 2))
  (tseq (tfor (iany (tlst (tacons (tcon (.str "a")) (tacons (tcon (.str "b")) (tacons (tcon (.str "c")) (tacons (tcon (.str "zz")) tanil)))))) (gname 3)
  (tifs (tbool (top (vcmp fun i j => decide (j < i)) (tcall sp__law_draw (tacons (tvar 0) (tacons (tcon (.int 3)) tanil))) (tcon (.int 0))))
  (tput (tvar 2) (tvar 3) (tcall s__law_type (tacons (tvar 0) (tacons (tvar 1) tanil))))
  tnext))
  (tseq (tfor (iany (tlst (tacons (tcon (.str "q")) (tacons (tcon (.str "r")) (tacons (tcon (.str "s")) tanil))))) (gname 3)
  (tifs (tbool (top (vcmp fun i j => decide (j < i)) (tcall sp__law_draw (tacons (tvar 0) (tacons (tcon (.int 3)) tanil))) (tcon (.int 0))))
  (tput (tvar 2) (tvar 3) (tcall s__law_record (tacons (tvar 0) (tacons (tvar 1) tanil))))
  tnext))
  (tret (tvar 2)))))

theorem look_none {ms : List (Str × Ty)} {x : Str} (h : x ∉ ms.map (·.1)) : look ms x = none := by
  unfold look
  rw [Option.map_eq_none_iff, List.find?_eq_none]
  intro q hq e
  exact h (List.mem_map.mpr ⟨q, hq, of_decide_eq_true e⟩)
theorem lst_items {xs : List T} {RT : List T → (GH → Prop) → GH → Prop} {G : GH} (h : ∀ q, G q = none → RT xs (fun G' => G' q = some (.lst xs)) (gupd G q (.lst xs))) : ∀ q, G q = none → items (gupd G q (.lst xs)) RT (.ref q) := fun q hq => ⟨xs, gupd_same, h q hq⟩
theorem nodup_snoc {α : Type} {xs : List α} {x : α} (h : xs.Nodup) (n : x ∉ xs) : (xs ++ [x]).Nodup := by
  rw [List.nodup_append]
  exact ⟨h, by simp, fun a ha b hb e => by simp at hb; subst hb; subst e; exact n ha⟩
/-- one of the two loops: names of a list, drawn or not -/
theorem images_loop {d : Nat} {C : Ty → Prop} {sx : TSp} {b p l q : Addr} {G : GH} {names : List Str} {D : TEnds} (hb : HB b p G) (hl : G l = none) (hq : G q = none) (hlb : l ≠ b) (hql : q ≠ l)
    (hsx : ∀ G R, HB b p G → (∀ t i, C t → R t.enc (bx b p i G)) → sx [.ref b, .int ((d + 1 : Nat) : Int)] G R) (X : Option T) (ms0 : List (Str × Ty)) (i0 : Nat) (P : Str × Ty → Prop) (hP : ∀ x t, x ∈ names → C t → P (x, t)) (h0 : ∀ u ∈ ms0, P u) (n0 : (ms0.map (·.1)).Nodup) (nn : names.Nodup) (n1 : ∀ u ∈ ms0, u.1 ∉ names) (hlen : ms0.length + names.length ≤ 100)
    (fin : ∀ ms i Y, (∀ u ∈ ms, P u) → (ms.map (·.1)).Nodup → (∀ u ∈ ms, u ∈ ms0 ∨ u.1 ∈ names) → ms.length ≤ ms0.length + names.length → D.nx [some (.ref b), some (.int ((d + 1 : Nat) : Int)), some (.ref l), Y] (gupd (gupd (bx b p i G) l (.dK (encI ms))) q (.lst (names.map T.str)))) :
    forGo (fun G' => G' q = some (.lst (names.map T.str))) (gname 3) (tifs (tbool (top (vcmp fun i j => decide (j < i)) (tcall sp__law_draw (tacons (tvar 0) (tacons (tcon (.int 3)) tanil))) (tcon (.int 0))))
      (tput (tvar 2) (tvar 3) (tcall sx (tacons (tvar 0) (tacons (tvar 1) tanil)))) tnext) D (names.map T.str) [some (.ref b), some (.int ((d + 1 : Nat) : Int)), some (.ref l), X] (gupd (gupd (bx b p i0 G) l (.dK (encI ms0))) q (.lst (names.map T.str))) := by
  have hqb := hb.neb hq
  have hat : ∀ i A, gupd (gupd (bx b p i G) l A) q (.lst (names.map T.str)) l = some A := fun i A => by rw [gupd_ne (Ne.symm hql), gupd_same]
  have hbb : ∀ i A, HB b p (gupd (gupd (bx b p i G) l A) q (.lst (names.map T.str))) := fun i A => (hb.bx.put hlb (hb.nep hl)).put hqb (hb.nep hq)
  have sw : ∀ i j A, bx b p i (gupd (gupd (bx b p j G) l A) q (.lst (names.map T.str))) = gupd (gupd (bx b p i G) l A) q (.lst (names.map T.str)) := fun i j A => by rw [bx_swap hqb, bx_swap hlb, bx_bx]
  refine for_inv (α := Str) T.str (fun xs st G' => ∃ zs ms i Y, names = zs ++ xs ∧ st = [some (.ref b), some (.int ((d + 1 : Nat) : Int)), some (.ref l), Y] ∧ G' = gupd (gupd (bx b p i G) l (.dK (encI ms))) q (.lst (names.map T.str)) ∧ (∀ u ∈ ms, P u) ∧ (ms.map (·.1)).Nodup ∧ (∀ u ∈ ms, u ∈ ms0 ∨ u.1 ∈ zs) ∧ ms.length ≤ ms0.length + zs.length) ?_ ?_ names _ _ ⟨[], ms0, i0, X, rfl, rfl, rfl, h0, n0, fun u hu => .inl hu, by simp⟩
  · rintro x xs st G' N hN ⟨zs, ms, i, Y, hz, rfl, rfl, hms, hnd, hk, hln⟩
    have hxn : x ∈ names := by rw [hz]; simp
    have hxz : x ∉ zs := by
      rw [hz, List.nodup_append] at nn
      exact fun h => nn.2.2 x h x (by simp) rfl
    have hx : x ∉ ms.map (·.1) := by
      intro h
      obtain ⟨u, hu, rfl⟩ := List.mem_map.mp h
      rcases hk u hu with h1 | h1
      · exact n1 u h1 hxn
      · exact hxz h1
    have hzl : zs.length < names.length := by rw [hz]; simp
    have next : ∀ ms' i' Y', (∀ u ∈ ms', P u) → (ms'.map (·.1)).Nodup → (∀ u ∈ ms', u ∈ ms0 ∨ u.1 ∈ zs ++ [x]) → ms'.length ≤ ms0.length + (zs.length + 1) → N [some (.ref b), some (.int ((d + 1 : Nat) : Int)), some (.ref l), Y'] (gupd (gupd (bx b p i' G) l (.dK (encI ms'))) q (.lst (names.map T.str))) := fun ms' i' Y' h1 h2 h3 h4 =>
      hN _ _ (.of ⟨zs ++ [x], ms', i', Y', by simpa using hz, rfl, rfl, h1, h2, h3, by simpa using h4⟩)
    refine ⟨gupd_same, ?_⟩
    walk_at "tl"
    refine ⟨b, p, 3, rfl, by decide, hbb i _, fun r j r0 r3 => ?_⟩
    walk_at "tl"
    rw [sw]
    split
    · refine hsx _ _ (hbb j _) fun t k hC => ?_
      rw [sw]
      walk_at "tl"
      refine put_dK (k := .inr x) (hat _ _) rfl ?_ ?_
      · have : (1000 : Nat) < sizeLine := by decide
        simp only [encI, List.length_map]; omega
      · rw [put_new _ _ _ (look_none hx), gupd_comm hql, gupd_gupd]
        refine next _ _ _ ?_ ?_ ?_ (by simp; omega)
        · intro u hu
          rcases List.mem_append.mp hu with hu | hu
          · exact hms u hu
          · obtain rfl : u = (x, t) := by simpa using hu
            exact hP x t hxn hC
        · rw [List.map_append]
          exact nodup_snoc hnd hx
        · intro u hu
          rcases List.mem_append.mp hu with hu | hu
          · exact (hk u hu).imp id fun h => by simp [h]
          · obtain rfl : u = (x, t) := by simpa using hu
            exact .inr (by simp)
    · exact next _ _ _ hms hnd (fun u hu => (hk u hu).imp id fun h => by simp [h]) (by omega)
  · rintro st G' ⟨zs, ms, i, Y, hz, rfl, rfl, hms, hnd, hk, hln⟩
    rw [List.append_nil] at hz
    subst hz
    exact ⟨gupd_same, fin ms i Y hms hnd hk (by omega)⟩
theorem vn4 : ∀ x : Str, x ∈ (["a", "b", "c", "zz"] : List Str) → x ∈ VN := by decide
theorem rn3 : ∀ x : Str, x ∈ (["q", "r", "s"] : List Str) → x ∈ RN := by decide
theorem vn_no : ∀ x : Str, x ∈ VN → x ∉ (["q", "r", "s"] : List Str) := by decide
theorem pure__law_drawn_images (d : Nat) (ts : List T) (G : GH) (R : TK) (h : sp__law_drawn_images d ts G R) :
    t__law_drawn_images (sp__law_type (d + 1)) (sp__law_record d) { nx := fun _ G' => WkR R .non G', rt := WkR R } (startT ["box", "depth", "table", "name"] ts) G := by
  obtain ⟨b, p, rfl, hb, h⟩ := h
  unfold t__law_drawn_images tdnew
  walk_at "tl"
  intro l hl q hq0
  obtain ⟨hql, hq⟩ := ne_none hq0
  have hlb := hb.neb hl
  obtain ⟨i0, hi0⟩ := hb.box
  have hG0 : ∀ A B, gupd (gupd G l A) q B = gupd (gupd (bx b p i0 G) l A) q B := fun A B => by
    rw [show bx b p i0 G = G from by
      unfold bx
      funext a
      by_cases z : a = b
      · rw [z, gupd_same, hi0]
      · rw [gupd_ne z]]
  rw [hG0]
  have hd1 : ((d + 1 : Nat) : Int) = (d : Int) + 1 := by omega
  refine images_loop (d := d) (C := TyOk (d + 1)) (sx := sp__law_type (d + 1)) (names := ["a", "b", "c", "zz"]) hb hl hq hlb hql (fun G R h1 h2 => ⟨b, p, rfl, h1, h2⟩) none [] i0 (fun u => TyOk (d + 1) u.2 ∧ u.1 ∈ VN) (fun x t hx hC => ⟨hC, ?_⟩) (by simp) (by simp) (by decide) (by simp) (by simp) ?_
  · exact vn4 x hx
  intro ms i Y hms hnd hk hln
  walk_at "tl"
  intro q2 hq20
  obtain ⟨hq2q, hq21⟩ := ne_none hq20
  obtain ⟨hq2l, hq22⟩ := ne_none hq21
  obtain ⟨hq2b, hq2⟩ := bx_none hq22
  have hqb := hb.neb hq
  have e2 : ∀ A i B C, gupd (gupd (gupd (bx b p i G) l A) q B) q2 C = gupd (gupd (bx b p i (gupd G q B)) l A) q2 C := fun A i B C => by
    rw [bx_swap hqb, gupd_comm (Ne.symm hql)]
  rw [e2]
  have hlq : gupd G q (.lst ((["a", "b", "c", "zz"] : List Str).map T.str)) l = none := by rw [gupd_ne (Ne.symm hql)]; exact hl
  have hq2' : gupd G q (.lst ((["a", "b", "c", "zz"] : List Str).map T.str)) q2 = none := by rw [gupd_ne hq2q]; exact hq2
  refine images_loop (d := d) (C := fun t => ∃ fs e, t = .rcd fs e ∧ TyOk (d + 1) t) (sx := sp__law_record d) (names := ["q", "r", "s"]) (hb.new hq) hlq hq2' hlb hq2l (fun G R h1 h2 => ⟨b, p, rfl, h1, fun fs e i h3 => h2 _ i ⟨fs, e, rfl, h3⟩⟩) Y ms i (fun u => TyOk (d + 1) u.2 ∧ (u.1 ∈ VN ∨ (u.1 ∈ RN ∧ isRow u.2 = true))) (fun x t hx hC => ?_) (fun u hu => ⟨(hms u hu).1, .inl (hms u hu).2⟩) hnd (by decide) (fun u hu hn => ?_) (by simp at hln ⊢; omega) ?_
  · obtain ⟨fs, e, rfl, hC⟩ := hC
    exact ⟨hC, .inr ⟨rn3 x hx, rfl⟩⟩
  · exact vn_no _ (hms u hu).2 hn
  · intro ms' i' Y' hms' hnd' _ _
    walk_at "tl"
    refine ⟨_, ?_, h l ms' i' hl hlb hms' hnd'⟩
    rw [← e2]
    refine (Sub.gupd ?_).trans (Sub.gupd ?_)
    · rw [gupd_ne hql, show bx b p i' G q = G q from gupd_ne hqb]; exact hq
    · rw [gupd_ne hq2q, gupd_ne hq2l, show bx b p i' G q2 = G q2 from gupd_ne hq2b]; exact hq2
end TL

namespace TL
open PySem PySem.Spec PyProof.Rows L2
mutual
def datT : T → PyData
  | .non => .none
  | .bl b => .bool b
  | .int i => .int i
  | .str x => .str x
  | .tup xs => .tuple (datTs xs)
  | .fl xs => .list (datTs xs)
  | .ref _ => .none
  | .ty _ => .none
  | .ptup _ => .none
def datTs : List T → List PyData
  | [] => []
  | x :: r => datT x :: datTs r
end
mutual
/-- no things, all texts of code points -/
def okT : T → Bool
  | .non => true
  | .bl _ => true
  | .int _ => true
  | .str x => PyData.strOk x
  | .tup xs => okTs xs
  | .fl xs => okTs xs
  | .ref _ => false
  | .ty _ => false
  | .ptup _ => false
def okTs : List T → Bool
  | [] => true
  | x :: r => okT x && okTs r
end
mutual
def dpT : T → Nat
  | .tup xs => dpTs xs + 1
  | .fl xs => dpTs xs + 1
  | _ => 0
def dpTs : List T → Nat
  | [] => 0
  | x :: r => max (dpT x) (dpTs r)
end
theorem datTs_len : ∀ xs, (datTs xs).length = xs.length
  | [] => rfl
  | x :: r => by rw [datTs, List.length_cons, List.length_cons, datTs_len r]
mutual
theorem dat_of {G : GH} : ∀ (x : T), okT x = true → Dat G x (datT x)
  | .non, _ => .non
  | .bl b, _ => .bl b
  | .int i, _ => .int i
  | .str x, _ => .str x
  | .tup xs, h => .tup (datTs_len xs).symm (dats_of xs h)
  | .fl xs, h => .fl (datTs_len xs).symm (dats_of xs h)
  | .ref _, h => by cases h
  | .ty _, h => by cases h
  | .ptup _, h => by cases h
theorem dats_of {G : GH} : ∀ (xs : List T), okTs xs = true → ∀ (i : Nat) t d, xs[i]? = some t → (datTs xs)[i]? = some d → Dat G t d
  | [], _, _, _, _, e, _ => by simp at e
  | x :: r, h, i, t, d, e, e2 => by
    simp only [okTs, Bool.and_eq_true] at h
    cases i with
    | zero =>
      simp [datTs] at e e2
      subst e e2
      exact dat_of x h.1
    | succ i => exact dats_of r h.2 i t d (by simpa using e) (by simpa [datTs] using e2)
end
mutual
theorem lay_of : ∀ (x : T), okT x = true → (datT x).canLay0 = true
  | .non, _ => rfl
  | .bl b, _ => rfl
  | .int i, _ => rfl
  | .str x, h => h
  | .tup xs, h => lays_of xs h
  | .fl xs, h => lays_of xs h
  | .ref _, h => by cases h
  | .ty _, h => by cases h
  | .ptup _, h => by cases h
theorem lays_of : ∀ (xs : List T), okTs xs = true → PyData.canLayAll0 (datTs xs) = true
  | [], _ => rfl
  | x :: r, h => by
    simp only [okTs, Bool.and_eq_true] at h
    simp only [datTs, PyData.canLayAll0, Bool.and_eq_true]
    exact ⟨lay_of x h.1, lays_of r h.2⟩
end
mutual
theorem dp_of : ∀ (x : T), (datT x).depth = dpT x
  | .non => rfl
  | .bl b => rfl
  | .int i => rfl
  | .str x => rfl
  | .tup xs => by simp only [datT, PyData.depth, dpT, dps_of xs]
  | .fl xs => by simp only [datT, PyData.depth, dpT, dps_of xs]
  | .ref _ => rfl
  | .ty _ => rfl
  | .ptup _ => rfl
theorem dps_of : ∀ (xs : List T), PyData.depthAll (datTs xs) = dpTs xs
  | [] => rfl
  | x :: r => by simp only [datTs, PyData.depthAll, dpTs, dp_of x, dps_of r]
end
theorem shaped_of {x : T} (h : okT x = true) (d : dpT x ≤ 64) : SeqAt.shaped (datT x) = true := by
  unfold SeqAt.shaped
  rw [lay_of x h, dp_of x, decide_eq_true d]
  rfl
/-- two equal tuples -/
theorem vne_same {xs : List T} {G : GH} {R : TK} (h : okT (.tup xs) = true) (d : dpT (.tup xs) ≤ 64) (q : R (.bl false) G) : vne (.tup xs) (.tup xs) G R := by
  refine ⟨_, _, dat_of _ h, dat_of _ h, shaped_of h d, shaped_of h d, ?_⟩
  rw [SeqAt.eqv_refl _ (lay_of _ h)]
  exact q
theorem veq_same {xs : List T} {G : GH} {R : TK} (h : okT (.tup xs) = true) (d : dpT (.tup xs) ≤ 64) (q : R (.bl true) G) : veq (.tup xs) (.tup xs) G R := by
  refine ⟨_, _, dat_of _ h, dat_of _ h, shaped_of h d, shaped_of h d, ?_⟩
  rw [SeqAt.eqv_refl _ (lay_of _ h)]
  exact q
/-- two equal lists -/
theorem vne_lists {p r : Addr} {xs : List T} {G : GH} {R : TK} (hp : G p = some (.lst xs)) (hr : G r = some (.lst xs)) (h : okTs xs = true) (d : dpTs xs ≤ 63) (q : R (.bl false) G) : vne (.ref p) (.ref r) G R := by
  have hs : SeqAt.shaped (.list (datTs xs)) = true := by
    have := shaped_of (x := .fl xs) h (by simp only [dpT]; omega)
    exact this
  refine ⟨.list (datTs xs), .list (datTs xs), .lst hp (datTs_len xs).symm (dats_of xs h), .lst hr (datTs_len xs).symm (dats_of xs h), hs, hs, ?_⟩
  rw [SeqAt.eqv_refl _ (SeqAt.canLay_of_shaped hs)]
  exact q
mutual
def Ty.dep : Ty → Nat
  | .fn a b => max a.dep b.dep + 1
  | .rcd fs _ => depF fs + 1
  | _ => 0
def depF : List (Str × Ty) → Nat
  | [] => 0
  | (_, t) :: r => max t.dep (depF r)
end
mutual
/-- all texts of it are of code points -/
def Ty.chr : Ty → Bool
  | .var a => PyData.strOk a
  | .fn a b => a.chr && b.chr
  | .rcd fs e => chrF fs && (match e with | none => true | some r => PyData.strOk r)
  | _ => true
def chrF : List (Str × Ty) → Bool
  | [] => true
  | (l, t) :: r => PyData.strOk l && t.chr && chrF r
end
theorem okTs_all (xs : List T) : okTs xs = xs.all okT := by
  induction xs with
  | nil => rfl
  | cons x r ih => rw [okTs, List.all_cons, ih]
mutual
theorem ok_enc : ∀ t : Ty, t.chr = true → okT t.enc = true
  | .num, _ => by decide +kernel
  | .tru, _ => by decide +kernel
  | .var a, h => by
    simp only [Ty.chr] at h
    simp only [Ty.enc, okT, okTs, h, Bool.and_true]
    decide +kernel
  | .fn a b, h => by
    simp only [Ty.chr, Bool.and_eq_true] at h
    simp only [Ty.enc, okT, okTs, ok_enc a h.1, ok_enc b h.2, Bool.and_true]
    decide +kernel
  | .rcd fs e, h => by
    simp only [Ty.chr, Bool.and_eq_true] at h
    have he : okT (encE e) = true := by
      cases e with
      | none => rfl
      | some r => exact h.2
    simp only [Ty.enc, okT, okTs, ok_encF fs h.1, he, Bool.and_true]
    decide +kernel
theorem ok_encF : ∀ fs : List (Str × Ty), chrF fs = true → okTs (encFs fs) = true
  | [], _ => rfl
  | (l, t) :: r, h => by
    simp only [chrF, Bool.and_eq_true] at h
    simp only [encFs, okTs, okT, h.1.1, ok_enc t h.1.2, ok_encF r h.2, Bool.and_true]
end
mutual
theorem dp_enc : ∀ t : Ty, dpT t.enc ≤ 3 * t.dep + 2
  | .num => by simp [Ty.enc, dpT, dpTs]
  | .tru => by simp [Ty.enc, dpT, dpTs]
  | .var a => by simp [Ty.enc, dpT, dpTs]
  | .fn a b => by
    have h1 := dp_enc a
    have h2 := dp_enc b
    simp only [Ty.enc, dpT, dpTs, Ty.dep]
    omega
  | .rcd fs e => by
    have h1 := dp_encF fs
    have he : dpT (encE e) = 0 := by cases e <;> rfl
    simp only [Ty.enc, dpT, dpTs, Ty.dep, he]
    omega
theorem dp_encF : ∀ fs : List (Str × Ty), dpTs (encFs fs) ≤ 3 * depF fs + 3
  | [] => by simp [encFs, dpTs]
  | (l, t) :: r => by
    have h1 := dp_enc t
    have h2 := dp_encF r
    simp only [encFs, dpTs, dpT, depF]
    omega
end
end TL

namespace TL
open PySem PySem.Spec PyProof.Rows L2
theorem leF_total : PySem.W.TotalLe leF := by
  have e : PySem.W.dataLe false (fun b : Str × Ty => .str b.1) = leF := PySem.W.dataLe_str fun b : Str × Ty => b.1
  rw [← e]
  exact PySem.W.sortLe_total _ _ _
theorem sortF_app (xs ys : List (Str × Ty)) : sortF (sortF xs ++ ys) = sortF (xs ++ ys) := by
  unfold sortF
  refine PySem.W.sort_one leF_total _ _ (PySem.W.sort_pairwise leF_total _) (PySem.W.sort_pairwise leF_total _) fun c => ?_
  rw [PySem.W.sort_stable leF_total, PySem.W.sort_stable leF_total, List.filter_append, List.filter_append, PySem.W.sort_stable leF_total]
theorem sortF_sortF (xs : List (Str × Ty)) : sortF (sortF xs) = sortF xs := by
  have := sortF_app xs []
  simpa using this
theorem sortF_map (f : Str × Ty → Str × Ty) (hf : ∀ q, (f q).1 = q.1) (xs : List (Str × Ty)) : sortF (xs.map f) = (sortF xs).map f :=
  (List.map_mergeSort (f := f) fun a _ b _ => by unfold leF; rw [hf, hf]).symm
theorem normF_app (xs ys : List (Str × Ty)) : normF (xs ++ ys) = normF xs ++ normF ys := by simp [normF_eq]
theorem normF_sort (xs : List (Str × Ty)) : normF (sortF xs) = sortF (normF xs) := by
  rw [normF_eq, normF_eq, sortF_map (fun q => (q.1, q.2.norm)) fun _ => rfl]
theorem subF_sort (ms xs : List (Str × Ty)) : subF ms (sortF xs) = sortF (subF ms xs) := by
  rw [subF_eq, subF_eq, sortF_map (fun q => (q.1, q.2.sub ms)) fun _ => rfl]
theorem subF_app (ms xs ys : List (Str × Ty)) : subF ms (xs ++ ys) = subF ms xs ++ subF ms ys := by simp [subF_eq]
mutual
theorem norm_norm : ∀ t : Ty, t.norm.norm = t.norm
  | .num => rfl
  | .tru => rfl
  | .var _ => rfl
  | .fn a b => by simp only [Ty.norm, norm_norm a, norm_norm b]
  | .rcd fs e => by simp only [Ty.norm, normF_sort, normF_normF fs, sortF_sortF]
theorem normF_normF : ∀ fs : List (Str × Ty), normF (normF fs) = normF fs
  | [] => rfl
  | (l, t) :: r => by simp only [normF, norm_norm t, normF_normF r]
end
theorem norm_putRow (fs gs : List (Str × Ty)) (h : sortF (normF fs) = sortF (normF gs)) (r : Str) (i : Option Ty) : (putRow fs r i).norm = (putRow gs r i).norm := by
  unfold putRow
  split
  · simp only [Ty.norm, normF_app]
    rw [← sortF_app, h, sortF_app]
  · simp only [Ty.norm, h]
mutual
theorem norm_sub (ms : List (Str × Ty)) : ∀ t : Ty, (t.norm.sub ms).norm = (t.sub ms).norm
  | .num => rfl
  | .tru => rfl
  | .var _ => rfl
  | .fn a b => by simp only [Ty.norm, Ty.sub, norm_sub ms a, norm_sub ms b]
  | .rcd fs none => by
    simp only [Ty.norm, Ty.sub, subF_sort, normF_sort, sortF_sortF, norm_subF ms fs]
  | .rcd fs (some r) => by
    simp only [Ty.norm, Ty.sub, subF_sort]
    refine norm_putRow _ _ ?_ r _
    rw [normF_sort, sortF_sortF, norm_subF ms fs]
theorem norm_subF (ms : List (Str × Ty)) : ∀ fs : List (Str × Ty), normF (subF ms (normF fs)) = normF (subF ms fs)
  | [] => rfl
  | (l, t) :: r => by simp only [normF, subF, norm_sub ms t, norm_subF ms r]
end
mutual
theorem sub_nil : ∀ t : Ty, t.sub [] = t
  | .num => rfl
  | .tru => rfl
  | .var _ => rfl
  | .fn a b => by simp only [Ty.sub, sub_nil a, sub_nil b]
  | .rcd fs none => by simp only [Ty.sub, subF_nil fs]
  | .rcd fs (some r) => by simp only [Ty.sub, subF_nil fs]; rfl
theorem subF_nil : ∀ fs : List (Str × Ty), subF [] fs = fs
  | [] => rfl
  | (l, t) :: r => by simp only [subF, sub_nil t, subF_nil r]
end
/-- a then b -/
structure Comp (a b c : List (Str × Ty)) : Prop where
  eq : ∀ x, look c x = match look a x with | some i => some (i.sub b) | none => look b x
mutual
theorem sub_sub {a b c : List (Str × Ty)} (h : Comp a b c) (hr : ∀ t : Ty, True) : ∀ t : Ty, (∀ r ∈ t.occ, r.2 = true → ∀ i, look a r.1 = some i → isRow i = true) → (t.sub a).sub b = t.sub c
  | .num, _ => rfl
  | .tru, _ => rfl
  | .var x, _ => by
    simp only [Ty.sub, h.eq]
    cases e : look a x with
    | none => rfl
    | some i => rfl
  | .fn x y, hr' => by
    simp only [Ty.sub, sub_sub h hr x fun r q => hr' r (by simp [Ty.occ, q]), sub_sub h hr y fun r q => hr' r (by simp [Ty.occ, q])]
  | .rcd fs none, hr' => by
    simp only [Ty.sub, subF_subF h hr fs fun r q => hr' r (by simp [Ty.occ, q])]
  | .rcd fs (some r), hr' => by
    have ih := subF_subF h hr fs fun r q => hr' r (by simp [Ty.occ, q])
    have hrow := hr' (r, true) (by simp [Ty.occ, occE]) rfl
    simp only [Ty.sub, h.eq]
    cases e : look a r with
    | none => simp only [putRow, Ty.sub, ih]
    | some i =>
      have hi := hrow i e
      cases i with
      | rcd f2 e2 =>
        cases e2 with
        | none => simp only [putRow, Ty.sub, subF_app, ih]
        | some r2 =>
          simp only [putRow, Ty.sub, subF_app, ih]
          cases look b r2 with
          | none => rfl
          | some j => cases j <;> simp [putRow]
      | _ => cases hi
theorem subF_subF {a b c : List (Str × Ty)} (h : Comp a b c) (hr : ∀ t : Ty, True) : ∀ fs : List (Str × Ty), (∀ r ∈ occF fs, r.2 = true → ∀ i, look a r.1 = some i → isRow i = true) → subF b (subF a fs) = subF c fs
  | [], _ => rfl
  | (l, t) :: r, hr' => by
    simp only [subF, sub_sub h hr t fun r q => hr' r (by simp [occF, q]), subF_subF h hr r fun r q => hr' r (by simp [occF, q])]
end
theorem sum_perm {xs ys : List Nat} (h : xs.Perm ys) : xs.sum = ys.sum := h.sum_nat
mutual
theorem sym_norm : ∀ t : Ty, t.norm.sym = t.sym
  | .num => rfl
  | .tru => rfl
  | .var _ => rfl
  | .fn a b => by
    have h1 := sym_norm a
    have h2 := sym_norm b
    unfold Ty.sym at *
    simp only [Ty.norm, Ty.pre, List.map_cons, List.map_append, List.sum_cons, List.sum_append, h1, h2]
    rfl
  | .rcd fs e => by
    have h := sym_normF fs
    have hp : ((presF (sortF (normF fs))).map Ty.sym1).sum = ((presF (normF fs)).map Ty.sym1).sum := by
      rw [presF_eq, presF_eq]
      exact sum_perm ((perm_flat ((sortF_perm (normF fs)).map (·.2))).map Ty.sym1)
    have hl : (sortF (normF fs)).length = fs.length := by
      rw [(sortF_perm _).length_eq, normF_eq, List.length_map]
    unfold Ty.sym
    simp only [Ty.norm, Ty.pre, List.map_cons, List.sum_cons, hp, h, Ty.sym1, hl]
theorem sym_normF : ∀ fs : List (Str × Ty), ((presF (normF fs)).map Ty.sym1).sum = ((presF fs).map Ty.sym1).sum
  | [] => rfl
  | (l, t) :: r => by
    have h1 := sym_norm t
    unfold Ty.sym at h1
    simp only [normF, presF, List.map_append, List.sum_append, h1, sym_normF r]
end
mutual
theorem occ_norm : ∀ t : Ty, t.norm.occ.Perm t.occ
  | .num => .refl _
  | .tru => .refl _
  | .var _ => .refl _
  | .fn a b => by
    simp only [Ty.norm, Ty.occ]
    exact (occ_norm a).append (occ_norm b)
  | .rcd fs e => by
    simp only [Ty.norm, Ty.occ]
    refine List.Perm.append ?_ (.refl _)
    refine List.Perm.trans ?_ (occ_normF fs)
    rw [occF_eq, occF_eq]
    exact perm_flat ((sortF_perm (normF fs)).map (·.2))
theorem occ_normF : ∀ fs : List (Str × Ty), (occF (normF fs)).Perm (occF fs)
  | [] => .refl _
  | (l, t) :: r => by
    simp only [normF, occF]
    exact (occ_norm t).append (occ_normF r)
end
theorem once_mem (xs : List Str) : ∀ acc x, x ∈ once acc xs ↔ x ∈ acc ∨ x ∈ xs := by
  induction xs with
  | nil => intro acc x; simp [once]
  | cons y r ih =>
    intro acc x
    rw [once, ih]
    split
    · rename_i h
      constructor
      · rintro (h1 | h1)
        · exact .inl h1
        · exact .inr (by simp [h1])
      · rintro (h1 | h1)
        · exact .inl h1
        · rcases List.mem_cons.mp h1 with rfl | h1
          · exact .inl h
          · exact .inr h1
    · simp [or_assoc]
theorem once_nodup (xs : List Str) : ∀ acc, acc.Nodup → (once acc xs).Nodup := by
  induction xs with
  | nil => intro acc h; exact h
  | cons y r ih =>
    intro acc h
    rw [once]
    split
    · exact ih acc h
    · rename_i hy
      exact ih _ (nodup_snoc h hy)
theorem once_perm {xs ys : List Str} (h : xs.Perm ys) : (once [] xs).Perm (once [] ys) := by
  refine (List.perm_ext_iff_of_nodup (once_nodup _ _ List.nodup_nil) (once_nodup _ _ List.nodup_nil)).mpr fun x => ?_
  rw [once_mem, once_mem, h.mem_iff]
theorem vars_norm (t : Ty) : t.norm.vars.Perm t.vars := once_perm (((occ_norm t).filter _).map _)
theorem rows_norm (t : Ty) : t.norm.rows.Perm t.rows := once_perm (((occ_norm t).filter _).map _)
end TL

namespace TL
open PySem PySem.Spec PyProof.Rows L2
def leS (a b : Str) : Prop := a.cps.toList ≤ b.cps.toList
theorem leS_trans {a b c : Str} (h : leS a b) (h2 : leS b c) : leS a c := List.le_trans h h2
theorem leS_anti {a b : Str} (h : leS a b) (h2 : leS b a) : a = b := by
  have e := List.le_antisymm h h2
  cases a; cases b
  simp only [Str.mk.injEq]
  exact Array.toList_inj.mp e
theorem rising_pair : ∀ (xs : List Str) (p : Str), risingS p xs = true → (∀ x ∈ xs, leS p x) ∧ xs.Pairwise leS
  | [], p, _ => ⟨by simp, .nil⟩
  | x :: r, p, h => by
    simp only [risingS, Bool.and_eq_true, Bool.not_eq_true'] at h
    obtain ⟨h1, h2⟩ := rising_pair r x h.2
    have hpx : leS p x := by
      have := h.1
      rw [ltCps_eq] at this
      have := of_decide_eq_false this
      exact List.not_lt.mp this
    refine ⟨fun y hy => ?_, .cons h1 h2⟩
    rcases List.mem_cons.mp hy with rfl | hy
    · exact hpx
    · exact leS_trans hpx (h1 y hy)
theorem sorted_pair : ∀ (xs : List Str), sortedS xs = true → xs.Pairwise leS
  | [], _ => .nil
  | x :: r, h => by
    obtain ⟨h1, h2⟩ := rising_pair r x h
    exact .cons h1 h2
theorem sorted_same {a b xs ys : List Str} (ha : a.Perm xs) (hb : b.Perm ys) (h : xs.Perm ys) (sa : sortedS a = true) (sb : sortedS b = true) : a = b :=
  List.Perm.eq_of_pairwise (fun _ _ _ _ h1 h2 => leS_anti h1 h2) (sorted_pair a sa) (sorted_pair b sb) (ha.trans (h.trans hb.symm))
mutual
def Ty.ren (ρ : Str → Str) : Ty → Ty
  | .var a => .var (ρ a)
  | .fn a b => .fn (a.ren ρ) (b.ren ρ)
  | .rcd fs e => .rcd (renF ρ fs) (e.map ρ)
  | t => t
def renF (ρ : Str → Str) : List (Str × Ty) → List (Str × Ty)
  | [] => []
  | (l, t) :: r => (l, t.ren ρ) :: renF ρ r
end
theorem renF_eq (ρ : Str → Str) (fs : List (Str × Ty)) : renF ρ fs = fs.map fun p => (p.1, p.2.ren ρ) := by
  induction fs with
  | nil => rfl
  | cons p r ih => obtain ⟨l, t⟩ := p; rw [renF, ih]; rfl
theorem renF_sort (ρ : Str → Str) (fs : List (Str × Ty)) : renF ρ (sortF fs) = sortF (renF ρ fs) := by
  rw [renF_eq, renF_eq, sortF_map (fun q => (q.1, q.2.ren ρ)) fun _ => rfl]
mutual
theorem norm_ren (ρ : Str → Str) : ∀ t : Ty, (t.ren ρ).norm = t.norm.ren ρ
  | .num => rfl
  | .tru => rfl
  | .var _ => rfl
  | .fn a b => by simp only [Ty.norm, Ty.ren, norm_ren ρ a, norm_ren ρ b]
  | .rcd fs e => by simp only [Ty.norm, Ty.ren, renF_sort, norm_renF ρ fs]
theorem norm_renF (ρ : Str → Str) : ∀ fs : List (Str × Ty), normF (renF ρ fs) = renF ρ (normF fs)
  | [] => rfl
  | (l, t) :: r => by simp only [normF, renF, norm_ren ρ t, norm_renF ρ r]
end
def renO (ρ : Str → Str) (o : Str × Bool) : Str × Bool := (ρ o.1, o.2)
mutual
theorem occ_ren (ρ : Str → Str) : ∀ t : Ty, (t.ren ρ).occ = t.occ.map (renO ρ)
  | .num => rfl
  | .tru => rfl
  | .var _ => rfl
  | .fn a b => by simp only [Ty.occ, Ty.ren, occ_ren ρ a, occ_ren ρ b, List.map_append]
  | .rcd fs e => by
    simp only [Ty.occ, Ty.ren, occF_ren ρ fs, List.map_append]
    cases e <;> rfl
theorem occF_ren (ρ : Str → Str) : ∀ fs : List (Str × Ty), occF (renF ρ fs) = (occF fs).map (renO ρ)
  | [] => rfl
  | (l, t) :: r => by simp only [occF, renF, occ_ren ρ t, occF_ren ρ r, List.map_append]
end
/-- the images are new names, each of its kind -/
def Names (ms : List (Str × Ty)) (ρ : Str → Str) (os : List (Str × Bool)) : Prop := ∀ o ∈ os, look ms o.1 = some (if o.2 = true then .rcd [] (some (ρ o.1)) else .var (ρ o.1))
mutual
theorem sub_ren {ms : List (Str × Ty)} {ρ : Str → Str} : ∀ t : Ty, Names ms ρ t.occ → t.sub ms = t.ren ρ
  | .num, _ => rfl
  | .tru, _ => rfl
  | .var a, h => by
    have := h (a, false) (by simp [Ty.occ])
    simp only [Ty.sub, Ty.ren, this]
    rfl
  | .fn a b, h => by
    simp only [Ty.sub, Ty.ren, sub_ren a fun o q => h o (by simp [Ty.occ, q]), sub_ren b fun o q => h o (by simp [Ty.occ, q])]
  | .rcd fs none, h => by
    simp only [Ty.sub, Ty.ren, subF_ren fs fun o q => h o (by simp [Ty.occ, q])]
    rfl
  | .rcd fs (some r), h => by
    have := h (r, true) (by simp [Ty.occ, occE])
    simp only [Ty.sub, Ty.ren, subF_ren fs fun o q => h o (by simp [Ty.occ, q]), this]
    simp [putRow]
theorem subF_ren {ms : List (Str × Ty)} {ρ : Str → Str} : ∀ fs : List (Str × Ty), Names ms ρ (occF fs) → subF ms fs = renF ρ fs
  | [], _ => rfl
  | (l, t) :: r, h => by
    simp only [subF, renF, sub_ren t fun o q => h o (by simp [occF, q]), subF_ren r fun o q => h o (by simp [occF, q])]
end
mutual
theorem sub_congr {a b : List (Str × Ty)} : ∀ t : Ty, (∀ o ∈ t.occ, look a o.1 = look b o.1) → t.sub a = t.sub b
  | .num, _ => rfl
  | .tru, _ => rfl
  | .var x, h => by
    have := h (x, false) (by simp [Ty.occ])
    simp only [Ty.sub, this]
  | .fn x y, h => by
    simp only [Ty.sub, sub_congr x fun o q => h o (by simp [Ty.occ, q]), sub_congr y fun o q => h o (by simp [Ty.occ, q])]
  | .rcd fs none, h => by
    simp only [Ty.sub, subF_congr fs fun o q => h o (by simp [Ty.occ, q])]
  | .rcd fs (some r), h => by
    have := h (r, true) (by simp [Ty.occ, occE])
    simp only [Ty.sub, subF_congr fs fun o q => h o (by simp [Ty.occ, q]), this]
theorem subF_congr {a b : List (Str × Ty)} : ∀ fs : List (Str × Ty), (∀ o ∈ occF fs, look a o.1 = look b o.1) → subF a fs = subF b fs
  | [], _ => rfl
  | (l, t) :: r, h => by
    simp only [subF, sub_congr t fun o q => h o (by simp [occF, q]), subF_congr r fun o q => h o (by simp [occF, q])]
end
mutual
theorem ren_sub {a b : List (Str × Ty)} {ρ : Str → Str} : ∀ t : Ty, (∀ o ∈ t.occ, ∃ n, look a (ρ o.1) = some (fresh o.2 n) ∧ look b o.1 = some (fresh o.2 n)) → (t.ren ρ).sub a = t.sub b
  | .num, _ => rfl
  | .tru, _ => rfl
  | .var x, h => by
    obtain ⟨n, h1, h2⟩ := h (x, false) (by simp [Ty.occ])
    simp only [Ty.sub, Ty.ren, h1, h2]
    rfl
  | .fn x y, h => by
    simp only [Ty.sub, Ty.ren, ren_sub x fun o q => h o (by simp [Ty.occ, q]), ren_sub y fun o q => h o (by simp [Ty.occ, q])]
  | .rcd fs none, h => by
    simp only [Ty.sub, Ty.ren, Option.map_none, renF_sub fs fun o q => h o (by simp [Ty.occ, q])]
  | .rcd fs (some r), h => by
    obtain ⟨n, h1, h2⟩ := h (r, true) (by simp [Ty.occ, occE])
    simp only [Ty.sub, Ty.ren, Option.map_some, renF_sub fs fun o q => h o (by simp [Ty.occ, q]), h1, h2]
    rfl
theorem renF_sub {a b : List (Str × Ty)} {ρ : Str → Str} : ∀ fs : List (Str × Ty), (∀ o ∈ occF fs, ∃ n, look a (ρ o.1) = some (fresh o.2 n) ∧ look b o.1 = some (fresh o.2 n)) → subF a (renF ρ fs) = subF b fs
  | [], _ => rfl
  | (l, t) :: r, h => by
    simp only [subF, renF, ren_sub t fun o q => h o (by simp [occF, q]), renF_sub r fun o q => h o (by simp [occF, q])]
end
def renK (ρ : Str → Str) (ms : List (Str × Ty)) : List (Str × Ty) := ms.map fun q => (ρ q.1, q.2)
theorem look_renK {ρ : Str → Str} {x : Str} : ∀ {ms : List (Str × Ty)}, (∀ q ∈ ms, ρ q.1 = ρ x → q.1 = x) → look (renK ρ ms) (ρ x) = look ms x
  | [], _ => rfl
  | q :: r, h => by
    have ih := look_renK (x := x) (ms := r) fun u hu => h u (by simp [hu])
    unfold look renK at *
    simp only [List.map_cons, List.find?_cons]
    by_cases e : q.1 = x
    · rw [decide_eq_true e, decide_eq_true (congrArg ρ e)]
      rfl
    · rw [decide_eq_false e, decide_eq_false fun z => e (h q (by simp) z)]
      exact ih
theorem tim_ren {ρ : Str → Str} (os : List (Str × Bool)) : ∀ ms : List (Str × Ty), (∀ x y, (x ∈ ms.map (·.1) ∨ x ∈ os.map (·.1)) → (y ∈ ms.map (·.1) ∨ y ∈ os.map (·.1)) → ρ x = ρ y → x = y) →
    (os.map (renO ρ)).foldl addIm (renK ρ ms) = renK ρ (os.foldl addIm ms) := by
  induction os with
  | nil => intro ms _; rfl
  | cons o r ih =>
    intro ms hinj
    have e : addIm (renK ρ ms) (renO ρ o) = renK ρ (addIm ms o) := by
      unfold addIm
      rw [show (renO ρ o).1 = ρ o.1 from rfl, look_renK fun q hq z => hinj q.1 o.1 (.inl (List.mem_map_of_mem hq)) (.inr (by simp)) z]
      split
      · rfl
      · simp [renK, renO]
    simp only [List.map_cons, List.foldl_cons, e]
    refine ih _ fun x y hx hy => hinj x y ?_ ?_
    · have : ∀ z, z ∈ (addIm ms o).map (·.1) → z ∈ ms.map (·.1) ∨ z ∈ (o :: r).map (·.1) := by
        intro z hz
        unfold addIm at hz
        split at hz
        · exact .inl hz
        · rw [List.map_append, List.mem_append] at hz
          exact hz.imp id fun h => by simp at h; simp [h]
      rcases hx with hx | hx
      · exact this x hx
      · exact .inr (by simp at hx ⊢; exact .inr hx)
    · have : ∀ z, z ∈ (addIm ms o).map (·.1) → z ∈ ms.map (·.1) ∨ z ∈ (o :: r).map (·.1) := by
        intro z hz
        unfold addIm at hz
        split at hz
        · exact .inl hz
        · rw [List.map_append, List.mem_append] at hz
          exact hz.imp id fun h => by simp at h; simp [h]
      rcases hy with hy | hy
      · exact this y hy
      · exact .inr (by simp at hy ⊢; exact .inr hy)
theorem tim_some {o : Str × Bool} (os : List (Str × Bool)) : ∀ ms : List (Str × Ty), (o ∈ os ∨ (look ms o.1).isSome = true) → (look (os.foldl addIm ms) o.1).isSome = true := by
  induction os with
  | nil => intro ms h; rcases h with h | h
           · cases h
           · exact h
  | cons u r ih =>
    intro ms h
    refine ih _ ?_
    have keep : (look ms o.1).isSome = true → (look (addIm ms u) o.1).isSome = true := fun q => by
      unfold addIm
      split
      · exact q
      · rw [look_app]
        cases e : look ms o.1 with
        | none => rw [e] at q; cases q
        | some i => rfl
    rcases h with h | h
    · rcases List.mem_cons.mp h with rfl | h
      · refine .inr ?_
        unfold addIm
        split
        · assumption
        · rename_i hn
          rw [look_app]
          cases e : look ms o.1 with
          | none => simp
          | some i => rw [e] at hn; exact absurd rfl hn
      · exact .inl h
    · exact .inr (keep h)
theorem tim_names {os : List (Str × Bool)} (hu : Unmixed os) {o : Str × Bool} (ho : o ∈ os) : ∃ n, look (tim os) o.1 = some (fresh o.2 n) := by
  have h := tim_some os [] (.inl ho)
  obtain ⟨i, hi⟩ := Option.isSome_iff_exists.mp h
  rcases tim_look hi with h2 | ⟨b, n, h2, rfl⟩
  · cases h2
  · refine ⟨n, ?_⟩
    have hb : b = o.2 := by
      obtain ⟨x, c⟩ := o
      cases b <;> cases c
      · rfl
      · exact (hu x ho h2).elim
      · exact (hu x h2 ho).elim
      · rfl
    rw [← hb]
    exact hi
/-- one to one on the names that occur -/
def InjOn (ρ : Str → Str) (os : List (Str × Bool)) : Prop := ∀ x y, x ∈ os.map (·.1) → y ∈ os.map (·.1) → ρ x = ρ y → x = y
def occs (ts : List Ty) : List (Str × Bool) := ts.flatMap Ty.occ
theorem occs_ren (ρ : Str → Str) (ts : List Ty) : occs (ts.map (Ty.ren ρ)) = (occs ts).map (renO ρ) := by
  unfold occs
  induction ts with
  | nil => rfl
  | cons t r ih => simp only [List.map_cons, List.flatMap_cons, List.map_append, ih, occ_ren]
theorem norms_ren (ρ : Str → Str) (ts : List Ty) : (ts.map (Ty.ren ρ)).map Ty.norm = (ts.map Ty.norm).map (Ty.ren ρ) := by
  simp [norm_ren]
theorem tim_key {x : Str} (os : List (Str × Bool)) : ∀ ms : List (Str × Ty), x ∈ (os.foldl addIm ms).map (·.1) → x ∈ ms.map (·.1) ∨ x ∈ os.map (·.1) := by
  induction os with
  | nil => intro ms h; exact .inl h
  | cons o r ih =>
    intro ms h
    rcases ih _ h with h | h
    · unfold addIm at h
      split at h
      · exact .inl h
      · rw [List.map_append, List.mem_append] at h
        exact h.imp id fun h => by simp at h; simp [h]
    · exact .inr (by simp at h ⊢; exact .inr h)
theorem told_ren {ρ : Str → Str} {ts : List Ty} (hu : Unmixed (occs (ts.map Ty.norm))) (hi : InjOn ρ (occs (ts.map Ty.norm))) : toldT (ts.map (Ty.ren ρ)) = toldT ts := by
  unfold toldT toldIm
  have e1 : ((ts.map (Ty.ren ρ)).map Ty.norm).flatMap Ty.occ = (occs (ts.map Ty.norm)).map (renO ρ) := by
    rw [norms_ren]; exact occs_ren ρ _
  have e2 : tim ((occs (ts.map Ty.norm)).map (renO ρ)) = renK ρ (tim (occs (ts.map Ty.norm))) :=
    tim_ren (occs (ts.map Ty.norm)) [] fun x y hx hy => hi x y (hx.resolve_left (by simp)) (hy.resolve_left (by simp))
  rw [e1, e2, norms_ren, List.map_map]
  refine List.map_congr_left fun t ht => ren_sub t fun o ho => ?_
  have hmem : o ∈ occs (ts.map Ty.norm) := List.mem_flatMap.mpr ⟨t, ht, ho⟩
  obtain ⟨n, hn⟩ := tim_names hu hmem
  refine ⟨n, ?_, hn⟩
  rw [look_renK fun q hq z => hi q.1 o.1 ?_ (List.mem_map_of_mem hmem) z]
  · exact hn
  · exact (tim_key _ [] (List.mem_map_of_mem hq)).resolve_left (by simp)
def vnV (L : List Nat) : Nat := L.foldl (fun a c => a * 26 + (c - 96)) 0
theorem vnV_vnL : ∀ k, vnV (vnL k) = k := by
  intro k
  induction k using Nat.strongRecOn with
  | _ k ih =>
    rw [vnL]
    split
    · rename_i h; subst h; rfl
    · have := ih ((k - 1) / 26) (by omega)
      unfold vnV at this ⊢
      rw [List.foldl_append, this]
      simp only [List.foldl_cons, List.foldl_nil]
      omega
theorem vname_inj {n m : Nat} (h : vname n = vname m) : n = m := by
  unfold vname at h
  have h1 : (vnL (n + 1)).toArray = (vnL (m + 1)).toArray := by
    have := congrArg Str.cps h
    exact this
  have h2 : vnL (n + 1) = vnL (m + 1) := by
    have := congrArg Array.toList h1
    simpa using this
  have h3 := congrArg vnV h2
  rw [vnV_vnL, vnV_vnL] at h3
  omega
theorem fresh_inj {b c : Bool} {n m : Nat} (h : fresh b n = fresh c m) : n = m := by
  cases b <;> cases c <;> simp [fresh] at h <;> exact vname_inj h
/-- each image bears the number of its place -/
def Placed (ms : List (Str × Ty)) : Prop := ∀ (i : Nat) q, ms[i]? = some q → ∃ b, q.2 = fresh b i
theorem placed_tim (os : List (Str × Bool)) : ∀ ms, Placed ms → Placed (os.foldl addIm ms) := by
  induction os with
  | nil => intro ms h; exact h
  | cons o r ih =>
    intro ms h
    refine ih _ ?_
    unfold addIm
    split
    · exact h
    · intro i q hq
      rw [List.getElem?_append] at hq
      split at hq
      · exact h i q hq
      · rename_i hi
        have : i - ms.length = 0 := by
          rcases Nat.eq_zero_or_pos (i - ms.length) with e | e
          · exact e
          · rw [List.getElem?_eq_none (by simp; omega)] at hq; cases hq
        rw [this] at hq
        simp at hq
        subst hq
        exact ⟨o.2, by rw [show i = ms.length by omega]⟩
theorem look_place {ms : List (Str × Ty)} {x : Str} {t : Ty} (h : look ms x = some t) : ∃ i : Nat, ms[i]? = some (x, t) := by
  unfold look at h
  obtain ⟨q, hq, rfl⟩ := Option.map_eq_some_iff.mp h
  have h1 := List.mem_of_find?_eq_some hq
  have h2 := List.find?_some hq
  obtain ⟨i, hi⟩ := List.getElem?_of_mem h1
  refine ⟨i, ?_⟩
  rw [hi]
  have : q.1 = x := of_decide_eq_true h2
  rw [← this]
theorem tim_inj {os : List (Str × Bool)} {x y : Str} {b c : Bool} {n : Nat} (hx : look (tim os) x = some (fresh b n)) (hy : look (tim os) y = some (fresh c n)) : x = y := by
  have hp := placed_tim os [] fun i q h => by simp at h
  obtain ⟨i, hi⟩ := look_place hx
  obtain ⟨j, hj⟩ := look_place hy
  obtain ⟨b', e1⟩ := hp i _ hi
  obtain ⟨c', e2⟩ := hp j _ hj
  have h1 : n = i := fresh_inj e1
  have h2 : n = j := fresh_inj e2
  have hij : i = j := h1.symm.trans h2
  rw [hij] at hi
  have hi' : (tim os)[j]? = some (x, fresh b n) := hi
  rw [hi'] at hj
  exact congrArg Prod.fst (Option.some.inj hj)
/-- the new name -/
def newNm (ms : List (Str × Ty)) (x : Str) : Str := match look ms x with
  | some (.var n) => n
  | some (.rcd _ (some n)) => n
  | _ => x
theorem newNm_of {ms : List (Str × Ty)} {x : Str} {b : Bool} {n : Nat} (h : look ms x = some (fresh b n)) : newNm ms x = vname n := by
  unfold newNm
  rw [h]
  cases b <;> rfl
theorem names_tim {os : List (Str × Bool)} (hu : Unmixed os) : Names (tim os) (newNm (tim os)) os := fun o ho => by
  obtain ⟨n, hn⟩ := tim_names hu ho
  rw [newNm_of hn, hn]
  cases o.2 <;> rfl
theorem inj_tim {os : List (Str × Bool)} (hu : Unmixed os) : InjOn (newNm (tim os)) os := by
  intro x y hx hy e
  obtain ⟨o, ho, rfl⟩ := List.mem_map.mp hx
  obtain ⟨u, hu', rfl⟩ := List.mem_map.mp hy
  obtain ⟨n, hn⟩ := tim_names hu ho
  obtain ⟨m, hm⟩ := tim_names hu hu'
  rw [newNm_of hn, newNm_of hm] at e
  have := vname_inj e
  subst this
  exact tim_inj hn hm
theorem told_as_ren {ts : List Ty} (hu : Unmixed (occs (ts.map Ty.norm))) : toldT ts = (ts.map Ty.norm).map (Ty.ren (newNm (tim (occs (ts.map Ty.norm))))) := by
  unfold toldT toldIm
  refine List.map_congr_left fun t ht => sub_ren t fun o ho => ?_
  exact names_tim hu o (List.mem_flatMap.mpr ⟨t, ht, ho⟩)
theorem norms_norms (ts : List Ty) : (ts.map Ty.norm).map Ty.norm = ts.map Ty.norm := by simp [norm_norm]
theorem told_norms (ts : List Ty) : toldT (ts.map Ty.norm) = toldT ts := by
  unfold toldT toldIm
  rw [norms_norms]
theorem told_told {ts : List Ty} (hu : Unmixed (occs (ts.map Ty.norm))) : toldT (toldT ts) = toldT ts := by
  rw [told_as_ren hu, told_ren (by rw [norms_norms]; exact hu) (by rw [norms_norms]; exact inj_tim hu), told_norms, told_as_ren hu]
theorem unmixed_ren {ρ : Str → Str} {os : List (Str × Bool)} (hu : Unmixed os) (hi : InjOn ρ os) : Unmixed (os.map (renO ρ)) := by
  intro x h1 h2
  obtain ⟨o, ho, e⟩ := List.mem_map.mp h1
  obtain ⟨u, hu', e2⟩ := List.mem_map.mp h2
  obtain ⟨a, b⟩ := o
  obtain ⟨c, d⟩ := u
  simp only [renO, Prod.mk.injEq] at e e2
  have hac : a = c := hi a c (List.mem_map_of_mem ho) (List.mem_map_of_mem hu') (e.1.trans e2.1.symm)
  rw [e.2] at ho
  rw [e2.2, ← hac] at hu'
  exact hu a ho hu'
end TL

namespace TL
open PySem PySem.Spec PyProof.Rows L2
local macro_rules | `(tactic| walk_at "tl") => `(tactic| try simp +decide only [tseq, tasg, tifs, tbool, tret, tretN, tdrop, tnext, tcont, tbreak, gname, gtup_tup, gcons_cons, gnil_nil, GO.lst.injEq, GO.dK.injEq, top, tvar, tcon, tun, ttup, tlst, tacons, tanil, tcb, tcall, tife, tand, tor, tnot, tandV, torV, tnotV, tisN, tnotN, T.isNon, ttruth, truth_bl, truth_non, truth_int, truth_tup, truth_fl, tsl, tpart, tnopart, tsortk, tlc, tfor, iany, irev, irange1_eq, irange2_eq, items_tup, items_fl, items_ref, twipe, List.set, izip_eq, tput_eq, vlist_tup, tmeth, isL, mappend_ref, mextend_tup, trev, exists_eq, exists_eq', 
  vix_tup, vix_fl, veq_str, vne_str, veq_int, vne_int, vcmp_int, vadd_int, vaddI_int, vadd_tup, vadd_str, vsub_int, vI_int, vlen_tup, vlen_fl, vlen_str, vtuple_tup, vtuple_ref, vint_int, vsl_tup, cut_from1, atI0, atI1, atI2, atI3, taug,
  startT, List.map_cons, List.map_nil, List.length_cons, List.length_nil, List.cons_append, List.nil_append, List.getElem?_cons_zero, List.getElem?_cons_succ, List.set_cons_zero, List.set_cons_succ, List.replicate, Option.some.injEq, exists_eq_left', exists_eq_left, T.bl.injEq, T.int.injEq, T.str.injEq, T.tup.injEq, T.ref.injEq, if_true, if_false, ite_true, ite_false, true_and, and_true, reduceCtorEq, gupd_same, gupd_gupd, Option.map_some, Option.map_none, Option.isSome_some, Option.isSome_none, Bool.not_true, Bool.not_false, Bool.true_eq_false, Bool.false_eq_true, List.cons.injEq, decide_true, decide_false])
def NmOk (os : List (Str × Bool)) : Prop := ∀ o ∈ os, if o.2 = true then o.1 ∈ RN else o.1 ∈ VN
/-- at most so large, so deep, of such names -/
structure TG (s d : Nat) (t : Ty) : Prop where
  sz : t.pre.length ≤ s
  dp : t.dep ≤ d
  ch : t.chr = true
  nm : NmOk t.occ
theorem vn_chr : ∀ x ∈ VN, PyData.strOk x = true := by decide +kernel
theorem rn_chr : ∀ x ∈ RN, PyData.strOk x = true := by decide +kernel
theorem ln_chr : ∀ x ∈ LN, PyData.strOk x = true := by decide +kernel
theorem vn_rn : ∀ x ∈ VN, x ∉ RN := by decide +kernel
theorem chrF_eq (fs : List (Str × Ty)) : chrF fs = fs.all fun q => PyData.strOk q.1 && q.2.chr := by
  induction fs with
  | nil => rfl
  | cons p r ih => obtain ⟨l, t⟩ := p; rw [chrF, ih]; rfl
theorem depF_le {fs : List (Str × Ty)} {d : Nat} : depF fs ≤ d ↔ ∀ q ∈ fs, q.2.dep ≤ d := by
  induction fs with
  | nil => simp [depF]
  | cons p r ih => obtain ⟨l, t⟩ := p; simp only [depF, Nat.max_le, ih, List.mem_cons, forall_eq_or_imp]
def bS : Nat → Nat
  | 0 => 1
  | d + 1 => 1 + 3 * bS d
theorem bS_pos (d : Nat) : 1 ≤ bS d := by cases d <;> simp [bS]
theorem sum_le {fs : List (Str × Ty)} {k : Nat} (h : ∀ q ∈ fs, q.2.pre.length ≤ k) : (presF fs).length ≤ fs.length * k := by
  induction fs with
  | nil => simp [presF]
  | cons p r ih =>
    obtain ⟨l, t⟩ := p
    have h1 := h (l, t) (by simp)
    have h2 := ih fun q hq => h q (by simp [hq])
    simp only [presF, List.length_append, List.length_cons, Nat.succ_mul]
    simp at h1
    omega
theorem TyOk.tg : ∀ {d : Nat} {t : Ty}, TyOk d t → TG (bS d) d t
  | d, .num, _ => ⟨bS_pos d, by simp [Ty.dep], rfl, by intro o ho; simp [Ty.occ] at ho⟩
  | d, .tru, _ => ⟨bS_pos d, by simp [Ty.dep], rfl, by intro o ho; simp [Ty.occ] at ho⟩
  | d, .var a, h => by
    unfold TyOk at h
    exact ⟨bS_pos d, by simp [Ty.dep], vn_chr a h, by intro o ho; simp [Ty.occ] at ho; subst ho; simpa using h⟩
  | d + 1, .fn a b, h => by
    unfold TyOk at h
    have h1 := h.1.tg
    have h2 := h.2.tg
    refine ⟨?_, ?_, ?_, ?_⟩
    · have := h1.sz; have := h2.sz
      simp only [Ty.pre, List.length_cons, List.length_append, bS]
      omega
    · have := h1.dp; have := h2.dp
      simp only [Ty.dep]; omega
    · simp only [Ty.chr, h1.ch, h2.ch, Bool.and_self]
    · intro o ho
      simp only [Ty.occ, List.mem_append] at ho
      exact ho.elim (h1.nm o) (h2.nm o)
  | d + 1, .rcd fs e, h => by
    unfold TyOk at h
    obtain ⟨hl, hf, he⟩ := h
    have hq : ∀ q ∈ fs, TG (bS d) d q.2 := fun q hq => (hf q hq).2.tg
    refine ⟨?_, ?_, ?_, ?_⟩
    · have h1 := sum_le (k := bS d) fun q h => (hq q h).sz
      have h2 : fs.length * bS d ≤ 3 * bS d := Nat.mul_le_mul_right _ hl
      simp only [Ty.pre, List.length_cons, bS]
      omega
    · have : depF fs ≤ d := depF_le.mpr fun q h => (hq q h).dp
      simp only [Ty.dep]; omega
    · have h1 : chrF fs = true := by
        rw [chrF_eq, List.all_eq_true]
        intro q h
        rw [ln_chr q.1 (hf q h).1, (hq q h).ch]
        rfl
      simp only [Ty.chr, h1, Bool.true_and]
      cases e with
      | none => rfl
      | some r => exact rn_chr r (he r rfl)
    · intro o ho
      simp only [Ty.occ, List.mem_append, occF_eq] at ho
      rcases ho with ho | ho
      · obtain ⟨t, ht, ho⟩ := List.mem_flatMap.mp ho
        obtain ⟨q, h, rfl⟩ := List.mem_map.mp ht
        exact (hq q h).nm o ho
      · cases e with
        | none => simp [occE] at ho
        | some r =>
          simp [occE] at ho
          subst ho
          simpa using he r rfl
  | 0, .fn _ _, h => by unfold TyOk at h; exact h.elim
  | 0, .rcd _ _, h => by unfold TyOk at h; exact h.elim
/-- images of such types -/
def IG (s d : Nat) (ms : List (Str × Ty)) : Prop := ∀ x i, look ms x = some i → TG s d i ∧ (x ∈ VN ∨ (x ∈ RN ∧ isRow i = true))
theorem ImOk.ig {d : Nat} {ms : List (Str × Ty)} (h : ImOk d ms) : IG (bS d) d ms := fun x i e => by
  obtain ⟨j, hj⟩ := look_place e
  obtain ⟨h1, h2⟩ := h _ (List.mem_of_getElem? hj)
  exact ⟨h1.tg, h2⟩
theorem IG.row {s d : Nat} {ms : List (Str × Ty)} (h : IG s d ms) {r : Str} (hr : r ∈ RN) {i : Ty} (e : look ms r = some i) : isRow i = true := by
  rcases (h r i e).2 with h | h
  · exact absurd hr (vn_rn r h)
  · exact h.2
theorem row_len (i : Ty) (fs : List (Str × Ty)) (r : Str) : (putRow fs r (some i)).pre.length ≤ 1 + (presF fs).length + i.pre.length := by
  unfold putRow
  split
  · rename_i h; cases h
    simp only [Ty.pre, List.length_cons, presF_eq, List.map_append, List.flatMap_append, List.length_append]; omega
  · simp only [Ty.pre, List.length_cons]; omega
mutual
theorem sub_len {M : Nat} {ms : List (Str × Ty)} (hM : 1 ≤ M) (h : ∀ x i, look ms x = some i → i.pre.length ≤ M) : ∀ t : Ty, (t.sub ms).pre.length ≤ t.pre.length * (M + 1)
  | .num => by simp [Ty.sub, Ty.pre]
  | .tru => by simp [Ty.sub, Ty.pre]
  | .var a => by
    simp only [Ty.sub, Ty.pre, List.length_singleton]
    cases e : look ms a with
    | none => simp [Ty.pre]
    | some i => have := h a i e; simp; omega
  | .fn a b => by
    have h1 := sub_len hM h a
    have h2 := sub_len hM h b
    simp only [Ty.sub, Ty.pre, List.length_cons, List.length_append, Nat.add_mul]
    omega
  | .rcd fs none => by
    have h1 := subF_len hM h fs
    simp only [Ty.sub, Ty.pre, List.length_cons, Nat.add_mul]
    omega
  | .rcd fs (some r) => by
    have h1 := subF_len hM h fs
    simp only [Ty.sub, Ty.pre, List.length_cons, Nat.add_mul]
    cases e : look ms r with
    | none => simp only [putRow, Ty.pre, List.length_cons]; omega
    | some i =>
      have h2 := row_len i (subF ms fs) r
      have h3 := h r i e
      omega
theorem subF_len {M : Nat} {ms : List (Str × Ty)} (hM : 1 ≤ M) (h : ∀ x i, look ms x = some i → i.pre.length ≤ M) : ∀ fs : List (Str × Ty), (presF (subF ms fs)).length ≤ (presF fs).length * (M + 1)
  | [] => by simp [subF, presF]
  | (l, t) :: r => by
    have h1 := sub_len hM h t
    have h2 := subF_len hM h r
    simp only [subF, presF, List.length_append, Nat.add_mul]
    omega
end
theorem depF_append (a b : List (Str × Ty)) : depF (a ++ b) = max (depF a) (depF b) := by
  induction a with
  | nil => simp [depF]
  | cons p r ih => obtain ⟨l, t⟩ := p; simp only [List.cons_append, depF, ih]; omega
theorem chrF_append (a b : List (Str × Ty)) : chrF (a ++ b) = (chrF a && chrF b) := by rw [chrF_eq, chrF_eq, chrF_eq, List.all_append]
theorem occF_append (a b : List (Str × Ty)) : occF (a ++ b) = occF a ++ occF b := by simp [occF_eq]
mutual
theorem sub_rest {s e : Nat} {ms : List (Str × Ty)} (h : IG s e ms) : ∀ t : Ty, t.chr = true → NmOk t.occ → (t.sub ms).dep ≤ t.dep + e ∧ (t.sub ms).chr = true ∧ NmOk (t.sub ms).occ
  | .num, _, hn => ⟨by simp [Ty.sub, Ty.dep], rfl, hn⟩
  | .tru, _, hn => ⟨by simp [Ty.sub, Ty.dep], rfl, hn⟩
  | .var a, hc, hn => by
    simp only [Ty.sub]
    cases e : look ms a with
    | none => exact ⟨by simp [Ty.dep], hc, hn⟩
    | some i => obtain ⟨h1, _⟩ := h a i e; exact ⟨by have := h1.dp; simp [Ty.dep]; exact this, h1.ch, h1.nm⟩
  | .fn a b, hc, hn => by
    simp only [Ty.chr, Bool.and_eq_true] at hc
    obtain ⟨a1, a2, a3⟩ := sub_rest h a hc.1 fun o ho => hn o (by simp [Ty.occ, ho])
    obtain ⟨b1, b2, b3⟩ := sub_rest h b hc.2 fun o ho => hn o (by simp [Ty.occ, ho])
    refine ⟨by simp only [Ty.sub, Ty.dep]; omega, by simp only [Ty.sub, Ty.chr, a2, b2, Bool.and_self], fun o ho => ?_⟩
    simp only [Ty.sub, Ty.occ, List.mem_append] at ho
    exact ho.elim (a3 o) (b3 o)
  | .rcd fs none, hc, hn => by
    simp only [Ty.chr, Bool.and_true] at hc
    obtain ⟨a1, a2, a3⟩ := subF_rest h fs hc fun o ho => hn o (by simp [Ty.occ, ho])
    refine ⟨by simp only [Ty.sub, Ty.dep]; omega, by simp only [Ty.sub, Ty.chr, a2, Bool.and_self], fun o ho => ?_⟩
    simp only [Ty.sub, Ty.occ, occE, List.append_nil] at ho
    exact a3 o ho
  | .rcd fs (some r), hc, hn => by
    simp only [Ty.chr, Bool.and_eq_true] at hc
    obtain ⟨a1, a2, a3⟩ := subF_rest h fs hc.1 fun o ho => hn o (by simp [Ty.occ, ho])
    have hr : r ∈ RN := by have := hn (r, true) (by simp [Ty.occ, occE]); simpa using this
    simp only [Ty.sub]
    cases e : look ms r with
    | none =>
      refine ⟨by simp only [putRow, Ty.dep]; omega, by simp only [putRow, Ty.chr, a2, hc.2, Bool.and_self], fun o ho => ?_⟩
      simp only [putRow, Ty.occ, List.mem_append] at ho
      exact ho.elim (a3 o) fun ho => hn o (by simp [Ty.occ, ho])
    | some i =>
      obtain ⟨h1, _⟩ := h r i e
      have hi := h.row hr e
      cases i with
      | rcd f2 e2 =>
        have d1 := h1.dp
        have c1 := h1.ch
        have n1 := h1.nm
        simp only [Ty.dep] at d1
        simp only [Ty.chr, Bool.and_eq_true] at c1
        refine ⟨by simp only [putRow, Ty.dep, depF_append]; omega, by simp only [putRow, Ty.chr, chrF_append, a2, c1.1, Bool.true_and]; exact c1.2, fun o ho => ?_⟩
        simp only [putRow, Ty.occ, occF_append, List.mem_append] at ho
        rcases ho with (ho | ho) | ho
        · exact a3 o ho
        · exact n1 o (by simp [Ty.occ, ho])
        · exact n1 o (by simp [Ty.occ, ho])
      | _ => cases hi
theorem subF_rest {s e : Nat} {ms : List (Str × Ty)} (h : IG s e ms) : ∀ fs : List (Str × Ty), chrF fs = true → NmOk (occF fs) → depF (subF ms fs) ≤ depF fs + e ∧ chrF (subF ms fs) = true ∧ NmOk (occF (subF ms fs))
  | [], hc, hn => ⟨by simp [subF, depF], rfl, by intro o ho; simp [subF, occF] at ho⟩
  | (l, t) :: r, hc, hn => by
    simp only [chrF, Bool.and_eq_true] at hc
    obtain ⟨a1, a2, a3⟩ := sub_rest h t hc.1.2 fun o ho => hn o (by simp [occF, ho])
    obtain ⟨b1, b2, b3⟩ := subF_rest h r hc.2 fun o ho => hn o (by simp [occF, ho])
    refine ⟨by simp only [subF, depF]; omega, by simp only [subF, chrF, hc.1.1, a2, b2, Bool.and_self], fun o ho => ?_⟩
    simp only [subF, occF, List.mem_append] at ho
    exact ho.elim (a3 o) (b3 o)
end
theorem TG.sub {s d M e : Nat} {t : Ty} {ms : List (Str × Ty)} (h : TG s d t) (hi : IG M e ms) (hM : 1 ≤ M) : TG (s * (M + 1)) (d + e) (t.sub ms) := by
  obtain ⟨h1, h2, h3⟩ := sub_rest hi t h.ch h.nm
  have h4 := sub_len hM (fun x i e => (hi x i e).1.sz) t
  refine ⟨Nat.le_trans h4 (Nat.mul_le_mul_right _ h.sz), Nat.le_trans h1 (by have := h.dp; omega), h2, h3⟩
theorem depF_perm {a b : List (Str × Ty)} (h : a.Perm b) : depF a = depF b := by
  apply Nat.le_antisymm
  · exact depF_le.mpr fun q hq => depF_le.mp (Nat.le_refl _) q (h.mem_iff.mp hq)
  · exact depF_le.mpr fun q hq => depF_le.mp (Nat.le_refl _) q (h.mem_iff.mpr hq)
theorem chrF_perm {a b : List (Str × Ty)} (h : a.Perm b) : chrF a = chrF b := by
  rw [chrF_eq, chrF_eq]
  exact h.all_eq
mutual
theorem norm_rest : ∀ t : Ty, t.norm.dep = t.dep ∧ t.norm.chr = t.chr
  | .num => ⟨rfl, rfl⟩
  | .tru => ⟨rfl, rfl⟩
  | .var _ => ⟨rfl, rfl⟩
  | .fn a b => by
    obtain ⟨a1, a2⟩ := norm_rest a
    obtain ⟨b1, b2⟩ := norm_rest b
    simp only [Ty.norm, Ty.dep, Ty.chr, a1, a2, b1, b2, and_self]
  | .rcd fs e => by
    obtain ⟨a1, a2⟩ := normF_rest fs
    simp only [Ty.norm, Ty.dep, Ty.chr, depF_perm (sortF_perm (normF fs)), chrF_perm (sortF_perm (normF fs)), a1, a2, and_self]
theorem normF_rest : ∀ fs : List (Str × Ty), depF (normF fs) = depF fs ∧ chrF (normF fs) = chrF fs
  | [] => ⟨rfl, rfl⟩
  | (l, t) :: r => by
    obtain ⟨a1, a2⟩ := norm_rest t
    obtain ⟨b1, b2⟩ := normF_rest r
    simp only [normF, depF, chrF, a1, a2, b1, b2, and_self]
end
theorem TG.norm {s d : Nat} {t : Ty} (h : TG s d t) : TG s d t.norm := by
  obtain ⟨h1, h2⟩ := norm_rest t
  exact ⟨by rw [norm_len]; exact h.sz, by rw [h1]; exact h.dp, by rw [h2]; exact h.ch, fun o ho => h.nm o ((occ_norm t).mem_iff.mp ho)⟩
end TL

namespace TL
open PySem PySem.Spec PyProof.Rows L2
local macro_rules | `(tactic| walk_at "tl") => `(tactic| try simp +decide only [tseq, tasg, tifs, tbool, tret, tretN, tdrop, tnext, tcont, tbreak, gname, gtup_tup, gcons_cons, gnil_nil, GO.lst.injEq, GO.dK.injEq, top, tvar, tcon, tun, ttup, tlst, tacons, tanil, tcb, tcall, tife, tand, tor, tnot, tandV, torV, tnotV, tisN, tnotN, T.isNon, ttruth, truth_bl, truth_non, truth_int, truth_tup, truth_fl, tsl, tpart, tnopart, tsortk, tlc, tfor, iany, irev, irange1_eq, irange2_eq, items_tup, items_fl, items_ref, twipe, List.set, izip_eq, tput_eq, vlist_tup, tmeth, isL, mappend_ref, mextend_tup, trev, exists_eq, exists_eq', 
  vix_tup, vix_fl, veq_str, vne_str, veq_int, vne_int, vcmp_int, vadd_int, vaddI_int, vadd_tup, vadd_str, vsub_int, vI_int, vlen_tup, vlen_fl, vlen_str, vtuple_tup, vtuple_ref, vint_int, vsl_tup, cut_from1, atI0, atI1, atI2, atI3, taug,
  startT, List.map_cons, List.map_nil, List.length_cons, List.length_nil, List.cons_append, List.nil_append, List.getElem?_cons_zero, List.getElem?_cons_succ, List.set_cons_zero, List.set_cons_succ, List.replicate, Option.some.injEq, exists_eq_left', exists_eq_left, T.bl.injEq, T.int.injEq, T.str.injEq, T.tup.injEq, T.ref.injEq, if_true, if_false, ite_true, ite_false, true_and, and_true, reduceCtorEq, gupd_same, gupd_gupd, Option.map_some, Option.map_none, Option.isSome_some, Option.isSome_none, Bool.not_true, Bool.not_false, Bool.true_eq_false, Bool.false_eq_true, List.cons.injEq, decide_true, decide_false])
theorem enc_tup (t : Ty) : ∃ xs, t.enc = .tup xs := by cases t <;> exact ⟨_, rfl⟩
theorem call_sub {s d M e : Nat} {t : Ty} {ms : List (Str × Ty)} {dd : Addr} {G : GH} {R : TK} (h : TG s d t) (hi : IG M e ms) (hM : 1 ≤ M) (hz : 2 * (s * (M + 1)) ≤ sizeLine) (hd : gd G dd (encI ms)) (q : R (t.sub ms).enc G) : sp_substitute [t.enc, .ref dd] G R := by
  have hs : s ≤ s * (M + 1) := Nat.le_mul_of_pos_right s (by omega)
  refine ⟨t, dd, ms, rfl, hd, fun r hr i hi' => ?_, by have := h.sz; omega, fun u hu => ?_, q⟩
  · have := h.nm (r, true) (ends_occ hr)
    exact hi.row (by simpa using this) hi'
  · have h1 := sub_len hM (fun x i e => (hi x i e).1.sz) u
    have h2 := (pre_kids hu).2
    have h3 := (u.sub ms).kids_len
    have h4 : u.pre.length * (M + 1) ≤ s * (M + 1) := Nat.mul_le_mul_right _ (Nat.le_trans h2 h.sz)
    omega
theorem call_norm {TT : List (Addr × Str)} {s d : Nat} {t : Ty} {G : GH} {R : TK} (h : TG s d t) (hz : 2 * s ≤ sizeLine) (hT : Tbs TT G) (q : R t.norm.enc G) : sp_normal TT [t.enc] G R := ⟨t, rfl, hT, by have := h.sz; omega, q⟩
theorem ne_skip {s d : Nat} {t u : Ty} {G : GH} {R : TK} (h : TG s d t) (hd : d ≤ 20) (e : t = u) (q : R (.bl false) G) : vne t.enc u.enc G R := by
  subst e
  have h1 := ok_enc t h.ch
  have h2 := dp_enc t
  obtain ⟨xs, hx⟩ := enc_tup t
  rw [hx] at h1 h2 ⊢
  exact vne_same h1 (by have := h.dp; omega) q
theorem unmixed_nm {os : List (Str × Bool)} (h : NmOk os) : Unmixed os := fun x h1 h2 => by
  have a := h _ h1
  have b := h _ h2
  simp at a b
  exact vn_rn x b a
def putM (ms : List (Str × Ty)) (x : Str) (t : Ty) : List (Str × Ty) := if (ms.any fun q => decide (q.1 = x)) = true then ms.map (fun q => if q.1 = x then (q.1, t) else q) else ms ++ [(x, t)]
theorem putM_enc (ms : List (Str × Ty)) (x : Str) (t : Ty) : putT (encI ms) (.inr x) t.enc = encI (putM ms x t) := by
  have ha : ((encI ms).any fun kv => decide (kv.1 = Sum.inr x)) = ms.any fun q => decide (q.1 = x) := by
    unfold encI
    rw [List.any_map]
    congr 1
    funext q
    exact decide_eq_decide.mpr ⟨fun h => Sum.inr.inj h, fun h => congrArg Sum.inr h⟩
  unfold putT putM
  rw [ha]
  split
  · unfold encI
    rw [List.map_map, List.map_map]
    refine List.map_congr_left fun q _ => ?_
    simp only [Function.comp_apply]
    by_cases h : q.1 = x
    · rw [if_pos (congrArg Sum.inr h), if_pos h]
    · rw [if_neg (fun z => h (Sum.inr.inj z)), if_neg h]
  · simp [encI]
theorem putM_len (ms : List (Str × Ty)) (x : Str) (t : Ty) : (putM ms x t).length ≤ ms.length + 1 := by unfold putM; split <;> simp
theorem upd_look (x y : Str) (t : Ty) : ∀ ms : List (Str × Ty), look (ms.map (fun q => if q.1 = x then (q.1, t) else q)) y = if x = y ∧ (ms.any fun q => decide (q.1 = x)) = true then some t else look ms y
  | [] => by simp [look]
  | q :: r => by
    have ih := upd_look x y t r
    unfold look at *
    simp only [List.map_cons, List.find?_cons, List.any_cons]
    by_cases hq : q.1 = x
    · rw [if_pos hq]
      by_cases hy : x = y
      · simp [hq, hy]
      · have h2 : ¬ q.1 = y := fun z => hy (hq.symm.trans z)
        simp only [hy, false_and, if_false] at ih ⊢
        simp only [h2, decide_false]
        exact ih
    · rw [if_neg hq]
      by_cases hy : q.1 = y
      · have h2 : ¬ x = y := fun z => hq (hy.trans z.symm)
        simp [hy, h2]
      · simp only [hy, hq, decide_false, Bool.false_or]
        exact ih
theorem putM_look (ms : List (Str × Ty)) (x y : Str) (t : Ty) : look (putM ms x t) y = if x = y then some t else look ms y := by
  unfold putM
  split
  · rename_i h
    rw [upd_look, h]
    simp
  · rename_i h
    rw [look_app]
    have hn : look ms x = none := look_none fun hx => h (by
      obtain ⟨q, hq, e⟩ := List.mem_map.mp hx
      exact List.any_eq_true.mpr ⟨q, hq, decide_eq_true e⟩)
    by_cases hy : x = y
    · subst hy; rw [hn]
    · rw [if_neg hy]
      cases look ms y <;> simp [hy]
def compM (ms : List (Str × Ty)) (acc fs : List (Str × Ty)) : List (Str × Ty) := fs.foldl (fun c q => putM c q.1 (q.2.sub ms)) acc
theorem compM_look (ms : List (Str × Ty)) (x : Str) : ∀ (fs acc : List (Str × Ty)), (fs.map (·.1)).Nodup → look (compM ms acc fs) x = match look fs x with | some i => some (i.sub ms) | none => look acc x
  | [], acc, _ => rfl
  | q :: r, acc, hn => by
    rw [List.map_cons, List.nodup_cons] at hn
    have ih := compM_look ms x r (putM acc q.1 (q.2.sub ms)) hn.2
    show look (compM ms (putM acc q.1 (q.2.sub ms)) r) x = _
    rw [ih, putM_look]
    by_cases e : q.1 = x
    · have hr : look r x = none := look_none (e ▸ hn.1)
      have hl : look (q :: r) x = some q.2 := by unfold look; simp [e]
      rw [hr, hl]
      simp [e]
    · have hl : look (q :: r) x = look r x := by unfold look; simp [e]
      rw [hl, if_neg e]
def rhoO (x : Str) : Str := if x = "a" then "m" else if x = "b" then "a" else if x = "c" then "zz" else if x = "zz" then "k" else if x = "q" then "s" else if x = "r" then "u" else if x = "s" then "q" else x
def other4 : List (Str × Ty) := [("a", .var "m"), ("b", .var "a"), ("c", .var "zz"), ("zz", .var "k")]
def otherM : List (Str × Ty) := [("a", .var "m"), ("b", .var "a"), ("c", .var "zz"), ("zz", .var "k"), ("q", .rcd [] (some "s")), ("r", .rcd [] (some "u")), ("s", .rcd [] (some "q"))]
def t__law_other_names : TTS :=
  (tseq (tasg (tdisp [((tcon (.str "a")), (ttup (tacons (tcon (.str "var")) (tacons (tcon (.str "m")) tanil)))), ((tcon (.str "b")), (ttup (tacons (tcon (.str "var")) (tacons (tcon (.str "a")) tanil)))), ((tcon (.str "c")), (ttup (tacons (tcon (.str "var")) (tacons (tcon (.str "zz")) tanil)))), ((tcon (.str "zz")), (ttup (tacons (tcon (.str "var")) (tacons (tcon (.str "k")) tanil))))]) (gname 1))
  (tseq (tput (tvar 1) (tcon (.str "q")) (ttup (tacons (tcon (.str "record")) (tacons (ttup tanil) (tacons (tcon (.str "s")) tanil)))))
  (tseq (tput (tvar 1) (tcon (.str "r")) (ttup (tacons (tcon (.str "record")) (tacons (ttup tanil) (tacons (tcon (.str "u")) tanil)))))
  (tseq (tput (tvar 1) (tcon (.str "s")) (ttup (tacons (tcon (.str "record")) (tacons (ttup tanil) (tacons (tcon (.str "q")) tanil)))))
  (tret (tcall sp_substitute (tacons (tvar 0) (tacons (tvar 1) tanil))))))))

def sp__law_other_names : TSp := fun ts G R => ∃ (t : Ty) (s d : Nat), ts = [t.enc] ∧ TG s d t ∧ 4 * s ≤ sizeLine ∧ R (t.ren rhoO).enc G
theorem names_o {os : List (Str × Bool)} (h : NmOk os) : Names otherM rhoO os := by
  intro o ho
  have h1 := h o ho
  obtain ⟨x, b⟩ := o
  have h2 : (∀ x ∈ VN, look otherM x = some (.var (rhoO x))) ∧ ∀ x ∈ RN, look otherM x = some (.rcd [] (some (rhoO x))) := by
    constructor
    · intro x hx
      simp only [VN, List.mem_cons, List.not_mem_nil, or_false] at hx
      rcases hx with rfl | rfl | rfl | rfl <;> rfl
    · intro x hx
      simp only [RN, List.mem_cons, List.not_mem_nil, or_false] at hx
      rcases hx with rfl | rfl | rfl <;> rfl
  cases b with
  | true => exact h2.2 x (by simpa using h1)
  | false => exact h2.1 x (by simpa using h1)
theorem other_img : ∀ x i, look otherM x = some i → i.pre.length ≤ 1 ∧ (x ∈ VN ∨ isRow i = true) := by
  intro x i h
  obtain ⟨j, hj⟩ := look_place h
  have := List.mem_of_getElem? hj
  simp only [otherM, List.mem_cons, List.not_mem_nil, or_false, Prod.mk.injEq] at this
  rcases this with ⟨rfl, rfl⟩ | ⟨rfl, rfl⟩ | ⟨rfl, rfl⟩ | ⟨rfl, rfl⟩ | ⟨rfl, rfl⟩ | ⟨rfl, rfl⟩ | ⟨rfl, rfl⟩
  · exact ⟨by decide, .inl (by decide)⟩
  · exact ⟨by decide, .inl (by decide)⟩
  · exact ⟨by decide, .inl (by decide)⟩
  · exact ⟨by decide, .inl (by decide)⟩
  · exact ⟨by decide, .inr rfl⟩
  · exact ⟨by decide, .inr rfl⟩
  · exact ⟨by decide, .inr rfl⟩
theorem pure__law_other_names (ts : List T) (G : GH) (R : TK) (h : sp__law_other_names ts G R) : t__law_other_names { nx := fun _ G' => WkR R .non G', rt := WkR R } (startT ["given", "images"] ts) G := by
  obtain ⟨t, s, d, rfl, hg, hz, h⟩ := h
  unfold t__law_other_names tdisp
  simp only [tpair]
  walk_at "tl"
  intro p hp
  refine ⟨_, rfl, by decide, ?_⟩
  refine put_dK (k := .inr "q") gupd_same rfl (by decide) ?_
  walk_at "tl"
  refine put_dK (k := .inr "r") gupd_same rfl (by decide) ?_
  walk_at "tl"
  refine put_dK (k := .inr "s") gupd_same rfl (by decide) ?_
  walk_at "tl"
  have hs := hg.sz
  refine ⟨t, p, otherM, rfl, .inl (by rw [gupd_same]; rfl), fun r hr i hi => ?_, by omega, fun u hu => ?_, ?_⟩
  · have h1 := hg.nm (r, true) (ends_occ hr)
    rcases (other_img r i hi).2 with h2 | h2
    · exact absurd (by simpa using h1) (vn_rn r h2)
    · exact h2
  · have h1 := sub_len (Nat.le_refl 1) (fun x i e => (other_img x i e).1) u
    have h2 := (pre_kids hu).2
    have h3 := (u.sub otherM).kids_len
    omega
  · rw [sub_ren t (names_o hg.nm)]
    exact wkR_new hp h
end TL

namespace TL
open PySem PySem.Spec PyProof.Rows L2
local macro_rules | `(tactic| walk_at "tl") => `(tactic| try simp +decide only [tseq, tasg, tifs, tbool, tret, tretN, tdrop, tnext, tcont, tbreak, gname, gtup_tup, gcons_cons, gnil_nil, GO.lst.injEq, GO.dK.injEq, top, tvar, tcon, tun, ttup, tlst, tacons, tanil, tcb, tcall, tife, tand, tor, tnot, tandV, torV, tnotV, tisN, tnotN, T.isNon, ttruth, truth_bl, truth_non, truth_int, truth_tup, truth_fl, tsl, tpart, tnopart, tsortk, tlc, tfor, iany, irev, irange1_eq, irange2_eq, items_tup, items_fl, items_ref, twipe, List.set, izip_eq, tput_eq, vlist_tup, tmeth, isL, mappend_ref, mextend_tup, trev, exists_eq, exists_eq', 
  vix_tup, vix_fl, veq_str, vne_str, veq_int, vne_int, vcmp_int, vadd_int, vaddI_int, vadd_tup, vadd_str, vsub_int, vI_int, vlen_tup, vlen_fl, vlen_str, vtuple_tup, vtuple_ref, vint_int, vsl_tup, cut_from1, atI0, atI1, atI2, atI3, taug,
  startT, List.map_cons, List.map_nil, List.length_cons, List.length_nil, List.cons_append, List.nil_append, List.getElem?_cons_zero, List.getElem?_cons_succ, List.set_cons_zero, List.set_cons_succ, List.replicate, Option.some.injEq, exists_eq_left', exists_eq_left, T.bl.injEq, T.int.injEq, T.str.injEq, T.tup.injEq, T.ref.injEq, if_true, if_false, ite_true, ite_false, true_and, and_true, reduceCtorEq, gupd_same, gupd_gupd, Option.map_some, Option.map_none, Option.isSome_some, Option.isSome_none, Bool.not_true, Bool.not_false, Bool.true_eq_false, Bool.false_eq_true, List.cons.injEq, decide_true, decide_false])
def t_law (TT : List (Addr × Str)) (s__law_type : TSp) (s__law_drawn_images : TSp) : TTS :=
  (tseq (tasg (tlst (tacons (tcall sp__law_digits (tacons (tvar 0) (tacons (tcon (.int 0)) (tacons (tcon (.int 50)) tanil)))) (tacons (tcon (.int 0)) tanil))) (gname 1))
  (tseq (tfor (irange1 (tacons (tcon (.int 6)) tanil)) (gname 2)
  (tseq (tasg (tcall s__law_type (tacons (tvar 1) (tacons (tcon (.int 2)) tanil))) (gname 3))
  (tseq (tasg (tcall s__law_drawn_images (tacons (tvar 1) (tacons (tcon (.int 1)) tanil))) (gname 4))
  (tseq (tasg (tcall s__law_drawn_images (tacons (tvar 1) (tacons (tcon (.int 1)) tanil))) (gname 5))
  (tseq (tasg (tcb vdict (tacons (tvar 5) tanil)) (gname 6))
  (tseq (tforD 4 (gname 7)
  (tput (tvar 6) (tvar 7) (tcall sp_substitute (tacons (top vix (tvar 4) (tvar 7)) (tacons (tvar 5) tanil)))))
  (tseq (tifs (tbool (top vne (tcall (sp_normal TT) (tacons (tcall sp_substitute (tacons (tcall sp_substitute (tacons (tvar 3) (tacons (tvar 4) tanil))) (tacons (tvar 5) tanil))) tanil)) (tcall (sp_normal TT) (tacons (tcall sp_substitute (tacons (tvar 3) (tacons (tvar 6) tanil))) tanil))))
  (tret (tcon (.bl false)))
  tnext)
  (tseq (tifs (tor (tbool (top vne (tcall (sp_normal TT) (tacons (tcall sp_substitute (tacons (tcall (sp_normal TT) (tacons (tvar 3) tanil)) (tacons (tvar 4) tanil))) tanil)) (tcall (sp_normal TT) (tacons (tcall sp_substitute (tacons (tvar 3) (tacons (tvar 4) tanil))) tanil)))) (tbool (top vne (tcall sp_substitute (tacons (tvar 3) (tacons tdnew tanil))) (tvar 3))))
  (tret (tcon (.bl false)))
  tnext)
  (tseq (tifs (tbool (top vne (tcall (sp_normal TT) (tacons (tcall (sp_normal TT) (tacons (tvar 3) tanil)) tanil)) (tcall (sp_normal TT) (tacons (tvar 3) tanil))))
  (tret (tcon (.bl false)))
  tnext)
  (tseq (tasg (ttup (tacons (tvar 3) (tacons (tcall sp_substitute (tacons (tvar 3) (tacons (tvar 4) tanil))) tanil))) (gname 8))
  (tseq (tifs (tor (tbool (top vne (tcall (sp_told TT) (tacons (tcall (sp_told TT) (tacons (tvar 8) tanil)) tanil)) (tcall (sp_told TT) (tacons (tvar 8) tanil)))) (tbool (top vne (tcall (sp_told TT) (tacons (tcb vtuple (tacons (tlc (iany (tvar 8)) (gname 9) tyes (tcall sp__law_other_names (tacons (tvar 9) tanil)) [9]) tanil)) tanil)) (tcall (sp_told TT) (tacons (tvar 8) tanil)))))
  (tret (tcon (.bl false)))
  tnext)
  (tseq (tasg (tcall sp_variables (tacons (tvar 3) tanil)) (gname 10))
  (tseq (tasg (tcall sp_variables (tacons (tcall (sp_normal TT) (tacons (tvar 3) tanil)) tanil)) (gname 11))
  (tifs (tor (tbool (top vne (tcall sp_symbols (tacons (tcall (sp_normal TT) (tacons (tvar 3) tanil)) tanil)) (tcall sp_symbols (tacons (tvar 3) tanil)))) (tor (tbool (top vne (tcb vsorted (tacons (top vix (tvar 11) (tcon (.int 0))) tanil)) (tcb vsorted (tacons (top vix (tvar 10) (tcon (.int 0))) tanil)))) (tbool (top vne (tcb vsorted (tacons (top vix (tvar 11) (tcon (.int 1))) tanil)) (tcb vsorted (tacons (top vix (tvar 10) (tcon (.int 1))) tanil))))))
  (tret (tcon (.bl false)))
  tnext))))))))))))))
  (tret (tcon (.bl true)))))

def sp_law (TT : List (Addr × Str)) : TSp := fun ts G R => ∃ (sx : T) (ns : List Int), ts = [sx] ∧ Scr G sx ns ∧ Tbs TT G ∧ ∀ G', R (.bl true) G'
theorem list_dict {p : Addr} {kvs : List (Key × T)} {G : GH} {R : TK} (h : G p = some (.dK kvs)) (q : ∀ l, G l = none → R (.ref l) (gupd G l (.dK kvs))) : vdict [.ref p] G R := ⟨kvs, .inl h, q⟩
mutual
theorem ren_len (ρ : Str → Str) : ∀ t : Ty, (t.ren ρ).pre.length = t.pre.length ∧ (t.ren ρ).dep = t.dep
  | .num => ⟨rfl, rfl⟩
  | .tru => ⟨rfl, rfl⟩
  | .var _ => ⟨rfl, rfl⟩
  | .fn a b => by
    obtain ⟨a1, a2⟩ := ren_len ρ a
    obtain ⟨b1, b2⟩ := ren_len ρ b
    simp only [Ty.ren, Ty.pre, Ty.dep, List.length_cons, List.length_append, a1, a2, b1, b2, and_self]
  | .rcd fs e => by
    obtain ⟨a1, a2⟩ := renF_len ρ fs
    simp only [Ty.ren, Ty.pre, Ty.dep, List.length_cons, a1, a2, and_self]
theorem renF_len (ρ : Str → Str) : ∀ fs : List (Str × Ty), (presF (renF ρ fs)).length = (presF fs).length ∧ depF (renF ρ fs) = depF fs
  | [] => ⟨rfl, rfl⟩
  | (l, t) :: r => by
    obtain ⟨a1, a2⟩ := ren_len ρ t
    obtain ⟨b1, b2⟩ := renF_len ρ r
    simp only [renF, presF, depF, List.length_append, a1, a2, b1, b2, and_self]
end
mutual
theorem ren_chr {ρ : Str → Str} : ∀ t : Ty, t.chr = true → (∀ o ∈ t.occ, PyData.strOk (ρ o.1) = true) → (t.ren ρ).chr = true
  | .num, _, _ => rfl
  | .tru, _, _ => rfl
  | .var a, _, h => h (a, false) (by simp [Ty.occ])
  | .fn a b, hc, h => by
    simp only [Ty.chr, Bool.and_eq_true] at hc
    simp only [Ty.ren, Ty.chr, ren_chr a hc.1 fun o ho => h o (by simp [Ty.occ, ho]), ren_chr b hc.2 fun o ho => h o (by simp [Ty.occ, ho]), Bool.and_self]
  | .rcd fs e, hc, h => by
    simp only [Ty.chr, Bool.and_eq_true] at hc
    have h1 := renF_chr fs hc.1 fun o ho => h o (by simp [Ty.occ, ho])
    simp only [Ty.ren, Ty.chr, h1, Bool.true_and]
    cases e with
    | none => rfl
    | some r => exact h (r, true) (by simp [Ty.occ, occE])
theorem renF_chr {ρ : Str → Str} : ∀ fs : List (Str × Ty), chrF fs = true → (∀ o ∈ occF fs, PyData.strOk (ρ o.1) = true) → chrF (renF ρ fs) = true
  | [], _, _ => rfl
  | (l, t) :: r, hc, h => by
    simp only [chrF, Bool.and_eq_true] at hc
    simp only [renF, chrF, hc.1.1, ren_chr t hc.1.2 fun o ho => h o (by simp [occF, ho]), renF_chr r hc.2 fun o ho => h o (by simp [occF, ho]), Bool.and_self]
end
theorem vnL_small (k : Nat) : ∀ c ∈ vnL k, c < 0x110000 := by
  induction k using Nat.strongRecOn with
  | _ k ih =>
    rw [vnL]
    split
    · simp
    · intro c hc
      rcases List.mem_append.mp hc with h | h
      · exact ih _ (by omega) c h
      · simp at h; omega
theorem vname_ok (n : Nat) : PyData.strOk (vname n) = true := by
  unfold PyData.strOk vname
  rw [Array.all_eq_true_iff_forall_mem]
  intro c hc
  exact decide_eq_true (vnL_small _ c (by simpa using hc))
theorem told_mem {ts : List Ty} (hu : Unmixed (occs (ts.map Ty.norm))) {s d : Nat} (h : ∀ t ∈ ts, TG s d t) : ∀ t ∈ toldT ts, t.pre.length ≤ s ∧ t.dep ≤ d ∧ t.chr = true := by
  intro t ht
  rw [told_as_ren hu] at ht
  obtain ⟨n, hn, rfl⟩ := List.mem_map.mp ht
  obtain ⟨u, hu', rfl⟩ := List.mem_map.mp hn
  have hg := (h u hu').norm
  obtain ⟨h1, h2⟩ := ren_len (newNm (tim (occs (ts.map Ty.norm)))) u.norm
  refine ⟨by rw [h1]; exact hg.sz, by rw [h2]; exact hg.dp, ren_chr _ hg.ch fun o ho => ?_⟩
  obtain ⟨k, hk⟩ := tim_names hu (List.mem_flatMap.mpr ⟨u.norm, hn, ho⟩ : o ∈ occs (ts.map Ty.norm))
  rw [newNm_of hk]
  exact vname_ok k
theorem occs_len {ts : List Ty} {s : Nat} (h : ∀ t ∈ ts, t.pre.length ≤ s) : (occs ts).length ≤ ts.length * (2 * s) := by
  induction ts with
  | nil => simp [occs]
  | cons t r ih =>
    have h1 := occ_len t
    have h2 := h t (by simp)
    have h3 := ih fun u hu => h u (by simp [hu])
    unfold occs at *
    rw [List.flatMap_cons, List.length_append, List.length_cons, Nat.add_mul]
    omega
theorem call_told {TT : List (Addr × Str)} {ts : List Ty} {s : Nat} {G : GH} {R : TK} (hl : ts.length ≤ 100) (hs : ∀ t ∈ ts, t.pre.length ≤ s) (hz : s ≤ 1000) (hu : Unmixed (occs (ts.map Ty.norm))) (hT : Tbs TT G) (q : R (.tup ((toldT ts).map Ty.enc)) G) : sp_told TT [.tup (ts.map Ty.enc)] G R := by
  have hb : (2000 : Nat) ≤ sizeLine := by decide
  refine ⟨ts, rfl, hT, by omega, fun t ht => by have := hs t ht; omega, ?_, hu, q⟩
  have h1 := occs_len (ts := ts.map Ty.norm) (s := s) fun t ht => by
    obtain ⟨u, hu, rfl⟩ := List.mem_map.mp ht
    rw [norm_len]; exact hs u hu
  rw [List.length_map] at h1
  have h2 : ts.length * (2 * s) ≤ 100 * (2 * 1000) := Nat.mul_le_mul hl (by omega)
  show (occs (ts.map Ty.norm)).length < 1000000
  omega
theorem ne_skipT {d : Nat} {ts us : List Ty} {G : GH} {R : TK} (h : ∀ t ∈ ts, t.dep ≤ d ∧ t.chr = true) (hd : d ≤ 20) (e : us = ts) (q : R (.bl false) G) : vne (.tup (us.map Ty.enc)) (.tup (ts.map Ty.enc)) G R := by
  subst e
  refine vne_same ?_ ?_ q
  · show okTs (us.map Ty.enc) = true
    rw [okTs_all, List.all_eq_true]
    intro x hx
    obtain ⟨t, ht, rfl⟩ := List.mem_map.mp hx
    exact ok_enc t (h t ht).2
  · have : ∀ vs : List Ty, (∀ t ∈ vs, t.dep ≤ d) → dpTs (vs.map Ty.enc) ≤ 3 * d + 2 := by
      intro vs
      induction vs with
      | nil => intro _; simp [dpTs]
      | cons v r ih =>
        intro hv
        have h1 := dp_enc v
        have h2 := hv v (by simp)
        have h3 := ih fun t ht => hv t (by simp [ht])
        simp only [List.map_cons, dpTs]
        omega
    have := this us fun t ht => (h t ht).1
    simp only [dpT]
    omega
theorem unmixed_told {ts : List Ty} (hu : Unmixed (occs (ts.map Ty.norm))) : Unmixed (occs ((toldT ts).map Ty.norm)) := by
  rw [told_as_ren hu, norms_ren, norms_norms, occs_ren]
  exact unmixed_ren hu (inj_tim hu)
theorem rho_inj : ∀ x ∈ VN ++ RN, ∀ y ∈ VN ++ RN, rhoO x = rhoO y → x = y := by decide +kernel
theorem rho_on {os : List (Str × Bool)} (h : NmOk os) : InjOn rhoO os := by
  have key : ∀ x, x ∈ os.map (·.1) → x ∈ VN ++ RN := fun x hx => by
    obtain ⟨o, ho, rfl⟩ := List.mem_map.mp hx
    have := h o ho
    split at this
    · exact List.mem_append.mpr (.inr this)
    · exact List.mem_append.mpr (.inl this)
  exact fun x y hx hy e => rho_inj x (key x hx) y (key y hy) e
/-- tables stay, whatever else is written -/
theorem Tbs.bx {TT : List (Addr × Str)} {G : GH} {b p : Addr} {i : Nat} (h : Tbs TT G) (hb : HB b p G) : Tbs TT (bx b p i G) := by
  obtain ⟨j, hj⟩ := hb.box
  exact h.setL hj
theorem pure_law (TT : List (Addr × Str)) (ts : List T) (G : GH) (R : TK) (h : sp_law TT ts G R) :
    t_law TT (sp__law_type 2) (sp__law_drawn_images 0) { nx := fun _ G' => WkR R .non G', rt := WkR R } (startT ["script", "box", "turn", "given", "first", "second", "composed", "name", "row", "kind", "names", "same"] ts) G := by
  obtain ⟨sx, ns, rfl, hx, hT, h⟩ := h
  have done : ∀ G', WkR R (.bl true) G' := fun G' => .of (h G')
  unfold t_law
  walk_at "tl"
  refine ⟨sx, ns, 0, 50, rfl, hx, by decide, by decide, fun p ds hp => ?_⟩
  walk_at "tl"
  intro b hb0
  obtain ⟨hbp, hb⟩ := ne_none hb0
  refine rng1_lit 6 rfl (by decide) ?_
  have hB0 : HB b p (gupd (gupd G p (.lst (intsT ds))) b (.lst [.ref p, .int ((0 : Nat) : Int)])) := ⟨⟨0, gupd_same⟩, ⟨ds, g2_p hbp⟩, Ne.symm hbp⟩
  have hT0 : Tbs TT (gupd (gupd G p (.lst (intsT ds))) b (.lst [.ref p, .int ((0 : Nat) : Int)])) := (hT.newL hp).newL hb0
  have e0 : gupd (gupd G p (.lst (intsT ds))) b (.lst [.ref p, .int 0]) = gupd (gupd G p (.lst (intsT ds))) b (.lst [.ref p, .int ((0 : Nat) : Int)]) := rfl
  rw [e0]
  generalize gupd (gupd G p (.lst (intsT ds))) b (.lst [.ref p, .int ((0 : Nat) : Int)]) = G0 at hB0 hT0
  refine for_inv (α := Nat) (fun i => T.int (i : Int)) (fun xs st G' => ∃ i, st = [some sx, some (.ref b), none, none, none, none, none, none, none, none, none, none] ∧ (G' = bx b p i G0 ∨ G' = G0)) ?_ ?_ (List.range 6) _ _ ⟨0, rfl, .inr rfl⟩
  · rintro x xs st G' N hN ⟨i, rfl, hG'⟩
    have hB : HB b p G' := by rcases hG' with rfl | rfl; exact hB0.bx; exact hB0
    have hT1 : Tbs TT G' := by rcases hG' with rfl | rfl; exact hT0.bx hB0; exact hT0
    have hbb : ∀ j, bx b p j G' = bx b p j G0 := fun j => by rcases hG' with rfl | rfl; exact bx_bx; rfl
    refine ⟨trivial, ?_⟩
    walk_at "tl"
    refine ⟨b, p, rfl, hB, fun given j hgv => ?_⟩
    walk_at "tl"
    refine ⟨b, p, rfl, hB.bx, fun l1 first j1 hl1 hl1b hfirst hfn => ?_⟩
    walk_at "tl"
    have hl1G : G' l1 = none := (bx_none hl1).2
    refine ⟨b, p, rfl, hB.bx.bx.put hl1b (hB.nep hl1G), fun l2 second j2 hl20 hl2b hsecond hsn => ?_⟩
    obtain ⟨hl21, hl2'⟩ := ne_none hl20
    have hl2G : G' l2 = none := (bx_none (bx_none hl2').2).2
    have eB : gupd (bx b p j2 (gupd (bx b p j1 (bx b p j G')) l1 (.dK (encI first)))) l2 (.dK (encI second)) = gupd (gupd (bx b p j2 G') l1 (.dK (encI first))) l2 (.dK (encI second)) := by
      rw [bx_swap hl1b, bx_bx, bx_bx]
    rw [eB]
    have hB2 : HB b p (bx b p j2 G') := hB.bx
    have hT2 : Tbs TT (bx b p j2 G') := hT1.bx hB
    have hl1B : bx b p j2 G' l1 = none := by rw [show bx b p j2 G' l1 = G' l1 from gupd_ne hl1b]; exact hl1G
    have hl2B : bx b p j2 G' l2 = none := by rw [show bx b p j2 G' l2 = G' l2 from gupd_ne hl2b]; exact hl2G
    have again : ∀ (rest : TSt) (G2 : GH), rest.length = 10 → Sub (bx b p j2 G') G2 → N (some sx :: some (.ref b) :: rest) G2 := fun rest G2 hl sb =>
      hN _ _ (.mk ⟨j2, rfl, .inl rfl⟩ (.same (.same (Less.blank hl))) (by rw [← hbb]; exact sb))
    generalize bx b p j2 G' = B at *
    have hg := hgv.tg
    have h1 := hfirst.ig
    have h2 := hsecond.ig
    simp only [bS, Nat.zero_add] at hg h1 h2
    refine list_dict (by rw [gupd_same]) fun l3 hl30 => ?_
    obtain ⟨hl32, hl31'⟩ := ne_none hl30
    obtain ⟨hl31, hl3B⟩ := ne_none hl31'
    walk_at "tl"
    refine ⟨l1, _, rfl, by rw [gupd_ne (Ne.symm hl31), g2_p hl21], fun r => ?_⟩
    -- the heap within the walk: l1 locked, l3 being made
    have hitems : (encI first).map (fun kv => kT kv.1) = first.map fun q => T.str q.1 := by simp [encI, kT]
    rw [hitems]
    have hm : ∀ A2 A3 A1, gupd (gupd (gupd (gupd B l1 (.dK (encI first))) l2 A2) l3 A3) l1 A1 = gupd (gupd (gupd B l1 A1) l2 A2) l3 A3 := fun A2 A3 A1 => by
      rw [gupd_comm hl31, g2_setp hl21]
    have hm2 : ∀ A0 A2 A3 A1, gupd (gupd (gupd (gupd B l1 A0) l2 A2) l3 A3) l1 A1 = gupd (gupd (gupd B l1 A1) l2 A2) l3 A3 := fun A0 A2 A3 A1 => by
      rw [gupd_comm hl31, g2_setp hl21]
    have at1 : ∀ A1 A2 A3, gupd (gupd (gupd B l1 A1) l2 A2) l3 A3 l1 = some A1 := fun A1 A2 A3 => by rw [gupd_ne (Ne.symm hl31), g2_p hl21]
    have at2 : ∀ A1 A2 A3, gupd (gupd (gupd B l1 A1) l2 A2) l3 A3 l2 = some A2 := fun A1 A2 A3 => by rw [gupd_ne (Ne.symm hl32), gupd_same]
    rw [hm]
    refine for_inv (α := Str × Ty) (fun q => T.str q.1) (fun zs st G' => ∃ ys X, first = ys ++ zs ∧ st = [some sx, some (.ref b), some (.int (x : Int)), some given.enc, some (.ref l1), some (.ref l2), some (.ref l3), X, none, none, none, none] ∧
      G' = gupd (gupd (gupd B l1 (.dKr (encI first) r)) l2 (.dK (encI second))) l3 (.dK (encI (compM second second ys)))) ?_ ?_ first _ _ ⟨[], none, rfl, rfl, rfl⟩
    · rintro q zs st G' M hM ⟨ys, X, hz, rfl, rfl⟩
      refine ⟨at1 _ _ _, ?_⟩
      have hq : look first q.1 = some q.2 := by
        have hn := hfn
        rw [hz, List.map_append, List.map_cons, List.nodup_append] at hn
        have hy : q.1 ∉ ys.map (·.1) := fun h => hn.2.2 _ h q.1 (by simp) rfl
        unfold look
        rw [hz, List.find?_append]
        have : ys.find? (fun p => decide (p.1 = q.1)) = none := by
          rw [List.find?_eq_none]
          intro u hu e
          exact hy (List.mem_map.mpr ⟨u, hu, of_decide_eq_true e⟩)
        rw [this]
        simp
      have hcl : ∀ (fs acc : List (Str × Ty)), (compM second acc fs).length ≤ acc.length + fs.length := by
        intro fs
        induction fs with
        | nil => intro acc; exact Nat.le_refl _
        | cons u r ih =>
          intro acc
          have h3 := ih (putM acc u.1 (u.2.sub second))
          have h4 := putM_len acc u.1 (u.2.sub second)
          show (compM second (putM acc u.1 (u.2.sub second)) r).length ≤ _
          simp only [List.length_cons]
          omega
      have hsmall : ∀ ms : List (Str × Ty), ImOk (0 + 1) ms → (ms.map (·.1)).Nodup → ms.length ≤ 7 := fun ms hi hn => by
        have : (ms.map (·.1)).length ≤ (VN ++ RN).length := hn.length_le_of_subset fun y hy => by
          obtain ⟨u, hu, rfl⟩ := List.mem_map.mp hy
          exact List.mem_append.mpr ((hi u hu).2.imp id fun h => h.1)
        simpa [VN, RN] using this
      walk_at "tl"
      refine vix_dK (y := .str q.1) (k := .inr q.1) (.inr ⟨r, at1 _ _ _⟩) rfl (by rw [look_enc, hq]; rfl) ?_
      refine call_sub (h1 q.1 q.2 hq).1 h2 (by decide) (by decide) (.inl (at2 _ _ _)) ?_
      walk_at "tl"
      refine put_dK (k := .inr q.1) gupd_same rfl ?_ ?_
      · have h3 := hcl ys second
        have h4 := hsmall first hfirst hfn
        have h5 := hsmall second hsecond hsn
        have h6 : ys.length ≤ first.length := by rw [hz]; simp
        have h7 : (100 : Nat) < sizeLine := by decide
        simp only [encI, List.length_map]
        omega
      · rw [putM_enc, gupd_gupd]
        exact hM _ _ (.of ⟨ys ++ [q], _, by simpa using hz, rfl, by simp [compM, List.foldl_append]⟩)
    · rintro st G' ⟨ys, X, hz, rfl, rfl⟩
      rw [List.append_nil] at hz
      subst hz
      refine ⟨at1 _ _ _, at1 _ _ _, ?_⟩
      rw [hm2]
      have hc : IG 20 2 (compM second second first) := fun y i e => by
        rw [compM_look second y first second hfn] at e
        cases e1 : look first y with
        | some j =>
          rw [e1] at e
          cases e
          obtain ⟨g1, g2⟩ := h1 y j e1
          have g3 := g1.sub h2 (by decide)
          refine ⟨⟨Nat.le_trans g3.sz (by decide), g3.dp, g3.ch, g3.nm⟩, g2.imp id fun g => ⟨g.1, ?_⟩⟩
          cases j with
          | rcd fs e2 =>
            cases e2 with
            | none => rfl
            | some r2 => simp only [Ty.sub]; unfold putRow; split <;> rfl
          | _ => cases g.2
        | none =>
          rw [e1] at e
          obtain ⟨g1, g2⟩ := h2 y i e
          exact ⟨⟨Nat.le_trans g1.sz (by decide), Nat.le_trans g1.dp (by decide), g1.ch, g1.nm⟩, g2⟩
      have hcomp : Comp first second (compM second second first) := ⟨fun y => compM_look second y first second hfn⟩
      generalize compM second second first = comp at *
      have at3 : ∀ A1 A2 A3, gupd (gupd (gupd B l1 A1) l2 A2) l3 A3 l3 = some A3 := fun A1 A2 A3 => gupd_same
      have hT5 : Tbs TT (gupd (gupd (gupd B l1 (.dK (encI first))) l2 (.dK (encI second))) l3 (.dK (encI comp))) := ((hT2.newD hl1B).newD (by rw [gupd_ne hl21]; exact hl2B)).newD (by rw [gupd_ne hl32, gupd_ne hl31]; exact hl3B)
      have hS5 : Sub B (gupd (gupd (gupd B l1 (.dK (encI first))) l2 (.dK (encI second))) l3 (.dK (encI comp))) := (Sub.gupd hl1B).trans ((Sub.gupd (by rw [gupd_ne hl21]; exact hl2B)).trans (Sub.gupd (by rw [gupd_ne hl32, gupd_ne hl31]; exact hl3B)))
      have a1 := at1 (.dK (encI first)) (.dK (encI second)) (.dK (encI comp))
      have a2 := at2 (.dK (encI first)) (.dK (encI second)) (.dK (encI comp))
      have a3 := at3 (.dK (encI first)) (.dK (encI second)) (.dK (encI comp))
      generalize gupd (gupd (gupd B l1 (.dK (encI first))) l2 (.dK (encI second))) l3 (.dK (encI comp)) = G5 at *
      have g1 := hg.sub h1 (by decide)
      have g2 := g1.sub h2 (by decide)
      have gc := hg.sub hc (by decide)
      walk_at "tl"
      refine call_sub hg h1 (by decide) (by decide) (.inl a1) (call_sub g1 h2 (by decide) (by decide) (.inl a2) (call_norm g2 (by decide) hT5 (call_sub hg hc (by decide) (by decide) (.inl a3) (call_norm gc (by decide) hT5 ?_))))
      refine ne_skip g2.norm (by decide) ?_ ?_
      · rw [sub_sub hcomp (fun _ => trivial) given fun o ho h i e => h1.row (by have := hg.nm o ho; rw [h] at this; simpa using this) e]
      walk_at "tl"
      refine call_norm hg (by decide) hT5 (call_sub hg.norm h1 (by decide) (by decide) (.inl a1) (call_norm (hg.norm.sub h1 (by decide)) (by decide) hT5 (call_sub hg h1 (by decide) (by decide) (.inl a1) (call_norm g1 (by decide) hT5 ?_))))
      refine ne_skip (hg.norm.sub h1 (by decide)).norm (by decide) (norm_sub first given) ?_
      walk_at "tl"
      intro l6 hl6
      refine call_sub (M := 1) (e := 0) (ms := []) hg (fun y i e => by cases e) (by decide) (by decide) (.inl gupd_same) ?_
      rw [sub_nil]
      refine ne_skip hg (by decide) rfl ?_
      walk_at "tl"
      have hT6 : Tbs TT (gupd G5 l6 (.dK [])) := hT5.newD hl6
      have hS6 : Sub B (gupd G5 l6 (.dK [])) := hS5.trans (Sub.gupd hl6)
      have b1 : gupd G5 l6 (.dK []) l1 = some (.dK (encI first)) := by rw [gupd_ne (fun z => by rw [← z, a1] at hl6; cases hl6)]; exact a1
      generalize gupd G5 l6 (.dK []) = G6 at *
      refine call_norm hg (by decide) hT6 (call_norm hg.norm (by decide) hT6 (call_norm hg (by decide) hT6 ?_))
      refine ne_skip hg.norm.norm (by decide) (norm_norm given) ?_
      walk_at "tl"
      refine call_sub hg h1 (by decide) (by decide) (.inl b1) ?_
      have hgs : ∀ t ∈ [given, given.sub first], TG 65 3 t := by
        intro t ht
        simp only [List.mem_cons, List.not_mem_nil, or_false] at ht
        rcases ht with rfl | rfl
        · exact ⟨Nat.le_trans hg.sz (by decide), Nat.le_trans hg.dp (by decide), hg.ch, hg.nm⟩
        · exact ⟨Nat.le_trans g1.sz (by decide), g1.dp, g1.ch, g1.nm⟩
      have hnm : NmOk (occs ([given, given.sub first].map Ty.norm)) := fun o ho => by
        obtain ⟨n, hn, ho⟩ := List.mem_flatMap.mp ho
        obtain ⟨u, hu, rfl⟩ := List.mem_map.mp hn
        exact (hgs u hu).norm.nm o ho
      have hun := unmixed_nm hnm
      have htm := told_mem hun hgs
      have c1 : ∀ (R : TK) (G : GH), Tbs TT G → R (.tup ((toldT [given, given.sub first]).map Ty.enc)) G → sp_told TT [.tup [given.enc, (given.sub first).enc]] G R := fun R G hT q =>
        call_told (ts := [given, given.sub first]) (s := 65) (by simp) (fun t ht => (hgs t ht).sz) (by decide) hun hT q
      refine c1 _ _ hT6 (call_told (s := 65) (by simp [toldT]) (fun t ht => (htm t ht).1) (by decide) (unmixed_told hun) hT6 (c1 _ _ hT6 ?_))
      refine ne_skipT (fun t ht => ⟨(htm t ht).2.1, (htm t ht).2.2⟩) (by decide) (told_told hun) ?_
      walk_at "tl"
      intro D hD
      have hTD : ∀ acc, Tbs TT (gupd G6 D (.lst acc)) := fun acc => hT6.newL hD
      have hSD : ∀ acc, Sub B (gupd G6 D (.lst acc)) := fun acc => hS6.trans (Sub.gupd hD)
      refine lc_map (α := Ty) Ty.enc (fun t => (t.ren rhoO).enc) [given, given.sub first] (fun _ => trivial) (by simp [sizeLine]) (fun t ht acc M hM => ?_) ?_
      · walk_at "tl"
        exact ⟨t, 65, 3, rfl, hgs t ht, by decide, hM⟩
      walk_at "tl"
      have hrt := told_ren hun (rho_on hnm)
      have hrn : ∀ t ∈ [given, given.sub first].map (Ty.ren rhoO), t.pre.length ≤ 65 := fun t ht => by
        obtain ⟨u, hu, rfl⟩ := List.mem_map.mp ht
        rw [(ren_len rhoO u).1]; exact (hgs u hu).sz
      have hur : Unmixed (occs (([given, given.sub first].map (Ty.ren rhoO)).map Ty.norm)) := by
        rw [norms_ren, occs_ren]
        exact unmixed_ren hun (rho_on hnm)
      refine call_told (ts := [given, given.sub first].map (Ty.ren rhoO)) (s := 65) (by simp) hrn (by decide) hur (hTD _) (c1 _ _ (hTD _) ?_)
      refine ne_skipT (fun t ht => ⟨(htm t ht).2.1, (htm t ht).2.2⟩) (by decide) hrt ?_
      walk_at "tl"
      generalize hG7 : gupd G6 D (.lst [(given.ren rhoO).enc, ((given.sub first).ren rhoO).enc]) = G7
      have hT7 : Tbs TT G7 := by rw [← hG7]; exact hTD _
      have hS7 : Sub B G7 := by rw [← hG7]; exact hSD _
      have hnn := hg.norm
      have hv : ∀ (t : Ty), NmOk t.occ → (∀ x ∈ t.vars, x ∈ VN) ∧ ∀ x ∈ t.rows, x ∈ RN := fun t hn => by
        constructor
        · intro x hx
          have := ((once_mem _ _ x).mp hx).resolve_left (by simp)
          obtain ⟨o, ho, rfl⟩ := List.mem_map.mp this
          obtain ⟨h1, h2⟩ := List.mem_filter.mp ho
          have h3 := hn o h1
          simp at h2
          rw [h2] at h3
          simpa using h3
        · intro x hx
          have := ((once_mem _ _ x).mp hx).resolve_left (by simp)
          obtain ⟨o, ho, rfl⟩ := List.mem_map.mp this
          obtain ⟨h1, h2⟩ := List.mem_filter.mp ho
          have h3 := hn o h1
          have h2 : o.2 = true := h2
          rw [h2] at h3
          simpa using h3
      have hl64 : ∀ (xs ys : List Str), ys.length < 64 → xs.Nodup → (∀ x ∈ xs, x ∈ ys) → xs.length < 64 := fun xs ys hl hn hs => Nat.lt_of_le_of_lt (hn.length_le_of_subset hs) hl
      have nd := once_nodup
      have big : (100 : Nat) ≤ sizeLine := by decide
      refine ⟨given, rfl, by have := hg.sz; omega, fun p5 q5 hp5 hq5 hpq5 => ?_⟩
      walk_at "tl"
      have hq5' : gupd G7 p5 (.lst (encS given.vars)) q5 = none := by rw [gupd_ne (Ne.symm hpq5)]; exact hq5
      have hT8 : Tbs TT (gupd (gupd G7 p5 (.lst (encS given.vars))) q5 (.lst (encS given.rows))) := (hT7.newL hp5).newL hq5'
      have hS8 : Sub B (gupd (gupd G7 p5 (.lst (encS given.vars))) q5 (.lst (encS given.rows))) := hS7.trans ((Sub.gupd hp5).trans (Sub.gupd hq5'))
      have v1 : gupd (gupd G7 p5 (.lst (encS given.vars))) q5 (.lst (encS given.rows)) p5 = some (.lst (encS given.vars)) := g2_p (Ne.symm hpq5)
      have v2 : gupd (gupd G7 p5 (.lst (encS given.vars))) q5 (.lst (encS given.rows)) q5 = some (.lst (encS given.rows)) := gupd_same
      generalize gupd (gupd G7 p5 (.lst (encS given.vars))) q5 (.lst (encS given.rows)) = G8 at *
      refine call_norm hg (by decide) hT8 ⟨given.norm, rfl, by have := hnn.sz; omega, fun p6 q6 hp6 hq6 hpq6 => ?_⟩
      walk_at "tl"
      have hq6' : gupd G8 p6 (.lst (encS given.norm.vars)) q6 = none := by rw [gupd_ne (Ne.symm hpq6)]; exact hq6
      have hT9 : Tbs TT (gupd (gupd G8 p6 (.lst (encS given.norm.vars))) q6 (.lst (encS given.norm.rows))) := (hT8.newL hp6).newL hq6'
      have hS9 : Sub G8 (gupd (gupd G8 p6 (.lst (encS given.norm.vars))) q6 (.lst (encS given.norm.rows))) := (Sub.gupd hp6).trans (Sub.gupd hq6')
      have v3 : gupd (gupd G8 p6 (.lst (encS given.norm.vars))) q6 (.lst (encS given.norm.rows)) p6 = some (.lst (encS given.norm.vars)) := g2_p (Ne.symm hpq6)
      have v4 : gupd (gupd G8 p6 (.lst (encS given.norm.vars))) q6 (.lst (encS given.norm.rows)) q6 = some (.lst (encS given.norm.rows)) := gupd_same
      generalize gupd (gupd G8 p6 (.lst (encS given.norm.vars))) q6 (.lst (encS given.norm.rows)) = G9 at *
      have w1 := hS9 _ _ v1
      have w2 := hS9 _ _ v2
      refine call_norm hg (by decide) hT9 ⟨given.norm, rfl, by have := hnn.sz; omega, ⟨given, rfl, by have := hg.sz; omega, ?_⟩⟩
      rw [sym_norm]
      walk_at "tl"
      have srt : ∀ {pp : Addr} {zs : List Str} {G : GH} {R : TK}, G pp = some (.lst (encS zs)) → zs.length < 64 → (∀ ys l, ys.Perm zs → sortedS ys = true → G l = none → R (.ref l) (gupd G l (.lst (encS ys)))) → vsorted [.ref pp] G R := fun h1 h2 h3 => ⟨_, h1, h2, fun ys l => h3 ys l⟩
      have oks : ∀ zs : List Str, (∀ x ∈ zs, PyData.strOk x = true) → okTs (encS zs) = true ∧ dpTs (encS zs) ≤ 63 := by
        intro zs
        induction zs with
        | nil => intro _; exact ⟨rfl, by decide⟩
        | cons z r ih =>
          intro hz
          obtain ⟨i1, i2⟩ := ih fun x hx => hz x (by simp [hx])
          unfold encS at *
          refine ⟨by simp only [List.map_cons, okTs, okT, hz z (by simp), i1, Bool.and_self], by simp only [List.map_cons, dpTs, dpT]; omega⟩
      obtain ⟨hv1, hr1⟩ := hv given hg.nm
      obtain ⟨hv2, hr2⟩ := hv given.norm hnn.nm
      refine srt v3 (hl64 _ VN (by decide) (nd _ _ List.nodup_nil) hv2) fun ya l7 hya hsa hl7 => ?_
      refine srt (by rw [gupd_ne (fun z => by rw [← z, w1] at hl7; cases hl7)]; exact w1) (hl64 _ VN (by decide) (nd _ _ List.nodup_nil) hv1) fun yb l8 hyb hsb hl80 => ?_
      obtain ⟨hl87, hl8⟩ := ne_none hl80
      have eab : ya = yb := sorted_same hya hyb (vars_norm given) hsa hsb
      subst eab
      obtain ⟨o1, o2⟩ := oks ya fun x hx => vn_chr x (hv2 x (hya.mem_iff.mp hx))
      refine vne_lists (g2_p hl87) gupd_same o1 o2 ?_
      walk_at "tl"
      have x2 : gupd (gupd G9 l7 (.lst (encS ya))) l8 (.lst (encS ya)) q6 = some (.lst (encS given.norm.rows)) := by rw [gupd_ne (fun z => by rw [← z, v4] at hl8; cases hl8), gupd_ne (fun z => by rw [← z, v4] at hl7; cases hl7)]; exact v4
      have x1 : gupd (gupd G9 l7 (.lst (encS ya))) l8 (.lst (encS ya)) q5 = some (.lst (encS given.rows)) := by rw [gupd_ne (fun z => by rw [← z, w2] at hl8; cases hl8), gupd_ne (fun z => by rw [← z, w2] at hl7; cases hl7)]; exact w2
      have hS10 : Sub G9 (gupd (gupd G9 l7 (.lst (encS ya))) l8 (.lst (encS ya))) := (Sub.gupd hl7).trans (Sub.gupd hl80)
      generalize gupd (gupd G9 l7 (.lst (encS ya))) l8 (.lst (encS ya)) = G10 at *
      refine srt x2 (hl64 _ RN (by decide) (nd _ _ List.nodup_nil) hr2) fun yc l9 hyc hsc hl9 => ?_
      refine srt (by rw [gupd_ne (fun z => by rw [← z, x1] at hl9; cases hl9)]; exact x1) (hl64 _ RN (by decide) (nd _ _ List.nodup_nil) hr1) fun yd l10 hyd hsd hl100 => ?_
      obtain ⟨hl109, hl10⟩ := ne_none hl100
      have ecd : yc = yd := sorted_same hyc hyd (rows_norm given) hsc hsd
      subst ecd
      obtain ⟨o3, o4⟩ := oks yc fun x hx => rn_chr x (hr2 x (hyc.mem_iff.mp hx))
      refine vne_lists (g2_p hl109) gupd_same o3 o4 ?_
      walk_at "tl"
      exact again _ _ rfl (hS8.trans (hS9.trans (hS10.trans ((Sub.gupd hl9).trans (Sub.gupd hl100)))))
  · rintro st G' ⟨i, rfl, hG'⟩
    refine ⟨trivial, ?_⟩
    walk_at "tl"
    exact done _
end TL

namespace TL
open PySem PySem.Spec PyProof.Rows L2
local macro_rules | `(tactic| walk_at "len") => `(tactic| (intro ts G R h; repeat' (first | (rw [And.left h]; rfl) | (refine Or.elim h (fun h => ?_) (fun h => ?_)) | (refine Exists.elim h fun _ h => ?_))))
abbrev topS (i : Nat) : Stmt := PySem.Challenge.pw_rowtypes_k28_substitutions.main.body.getD i (.Pass ⟨0, 0, 0, 0⟩)
abbrev st_type_parts : Stmt := topS 2
abbrev N_type_parts : List Str := ["given", "_", "inner"]
abbrev p_type_parts : List Str := ["given"]
theorem sc_type_parts : FnScope N_type_parts p_type_parts (defScope st_type_parts) := ⟨rfl, rfl, rfl, by decide +kernel, rfl, by decide +kernel, by decide +kernel⟩

abbrev st_with_parts : Stmt := topS 3
abbrev N_with_parts : List Str := ["given", "parts", "fields", "label", "_", "inner"]
abbrev p_with_parts : List Str := ["given", "parts"]
theorem sc_with_parts : FnScope N_with_parts p_with_parts (defScope st_with_parts) := ⟨rfl, rfl, rfl, by decide +kernel, rfl, by decide +kernel, by decide +kernel⟩

abbrev st_all_types : Stmt := topS 4
abbrev N_all_types : List Str := ["given", "found", "waiting", "part"]
abbrev p_all_types : List Str := ["given"]
theorem sc_all_types : FnScope N_all_types p_all_types (defScope st_all_types) := ⟨rfl, rfl, rfl, by decide +kernel, rfl, by decide +kernel, by decide +kernel⟩

abbrev st_occurrences : Stmt := topS 5
abbrev N_occurrences : List Str := ["given", "found", "waiting", "part"]
abbrev p_occurrences : List Str := ["given"]
theorem sc_occurrences : FnScope N_occurrences p_occurrences (defScope st_occurrences) := ⟨rfl, rfl, rfl, by decide +kernel, rfl, by decide +kernel, by decide +kernel⟩

abbrev st_variables : Stmt := topS 6
abbrev N_variables : List Str := ["given", "kinds", "rows", "name", "ends_row"]
abbrev p_variables : List Str := ["given"]
theorem sc_variables : FnScope N_variables p_variables (defScope st_variables) := ⟨rfl, rfl, rfl, by decide +kernel, rfl, by decide +kernel, by decide +kernel⟩

abbrev st_symbols : Stmt := topS 7
abbrev N_symbols : List Str := ["given", "many", "part"]
abbrev p_symbols : List Str := ["given"]
theorem sc_symbols : FnScope N_symbols p_symbols (defScope st_symbols) := ⟨rfl, rfl, rfl, by decide +kernel, rfl, by decide +kernel, by decide +kernel⟩

abbrev st_normal : Stmt := topS 8
abbrev N_normal : List Str := ["given", "built", "part", "inner", "_"]
abbrev p_normal : List Str := ["given"]
theorem sc_normal : FnScope N_normal p_normal (defScope st_normal) := ⟨rfl, rfl, rfl, by decide +kernel, rfl, by decide +kernel, by decide +kernel⟩

abbrev st__sorted_fields : Stmt := topS 9
abbrev N__sorted_fields : List Str := ["given", "fields"]
abbrev p__sorted_fields : List Str := ["given"]
theorem sc__sorted_fields : FnScope N__sorted_fields p__sorted_fields (defScope st__sorted_fields) := ⟨rfl, rfl, rfl, by decide +kernel, rfl, by decide +kernel, by decide +kernel⟩

abbrev st_substitute : Stmt := topS 10
abbrev N_substitute : List Str := ["given", "images", "built", "part", "inner", "_"]
abbrev p_substitute : List Str := ["given", "images"]
theorem sc_substitute : FnScope N_substitute p_substitute (defScope st_substitute) := ⟨rfl, rfl, rfl, by decide +kernel, rfl, by decide +kernel, by decide +kernel⟩

abbrev st__put_image : Stmt := topS 11
abbrev N__put_image : List Str := ["given", "images", "row"]
abbrev p__put_image : List Str := ["given", "images"]
theorem sc__put_image : FnScope N__put_image p__put_image (defScope st__put_image) := ⟨rfl, rfl, rfl, by decide +kernel, rfl, by decide +kernel, by decide +kernel⟩

abbrev st_told : Stmt := topS 12
abbrev N_told : List Str := ["types", "normals", "given", "images", "name", "ends_row", "fresh"]
abbrev p_told : List Str := ["types"]
theorem sc_told : FnScope N_told p_told (defScope st_told) := ⟨rfl, rfl, rfl, by decide +kernel, rfl, by decide +kernel, by decide +kernel⟩

abbrev st__variable_name : Stmt := topS 13
abbrev N__variable_name : List Str := ["number", "name", "left", "letter"]
abbrev p__variable_name : List Str := ["number"]
theorem sc__variable_name : FnScope N__variable_name p__variable_name (defScope st__variable_name) := ⟨rfl, rfl, rfl, by decide +kernel, rfl, by decide +kernel, by decide +kernel⟩

abbrev st__law_cell : Stmt := topS 15
abbrev N__law_cell : List Str := ["script", "k"]
abbrev p__law_cell : List Str := ["script", "k"]
theorem sc__law_cell : FnScope N__law_cell p__law_cell (defScope st__law_cell) := ⟨rfl, rfl, rfl, by decide +kernel, rfl, by decide +kernel, by decide +kernel⟩

abbrev st__law_digits : Stmt := topS 16
abbrev N__law_digits : List Str := ["script", "first", "last", "digits", "k", "cell", "turn", "seed"]
abbrev p__law_digits : List Str := ["script", "first", "last"]
theorem sc__law_digits : FnScope N__law_digits p__law_digits (defScope st__law_digits) := ⟨rfl, rfl, rfl, by decide +kernel, rfl, by decide +kernel, by decide +kernel⟩

abbrev st__law_draw : Stmt := topS 17
abbrev N__law_draw : List Str := ["box", "many", "at"]
abbrev p__law_draw : List Str := ["box", "many"]
theorem sc__law_draw : FnScope N__law_draw p__law_draw (defScope st__law_draw) := ⟨rfl, rfl, rfl, by decide +kernel, rfl, by decide +kernel, by decide +kernel⟩

abbrev st__law_type : Stmt := topS 18
abbrev N__law_type : List Str := ["box", "depth", "kind"]
abbrev p__law_type : List Str := ["box", "depth"]
theorem sc__law_type : FnScope N__law_type p__law_type (defScope st__law_type) := ⟨rfl, rfl, rfl, by decide +kernel, rfl, by decide +kernel, by decide +kernel⟩

abbrev st__law_record : Stmt := topS 19
abbrev N__law_record : List Str := ["box", "depth", "fields", "k"]
abbrev p__law_record : List Str := ["box", "depth"]
theorem sc__law_record : FnScope N__law_record p__law_record (defScope st__law_record) := ⟨rfl, rfl, rfl, by decide +kernel, rfl, by decide +kernel, by decide +kernel⟩

abbrev st__law_drawn_images : Stmt := topS 20
abbrev N__law_drawn_images : List Str := ["box", "depth", "table", "name"]
abbrev p__law_drawn_images : List Str := ["box", "depth"]
theorem sc__law_drawn_images : FnScope N__law_drawn_images p__law_drawn_images (defScope st__law_drawn_images) := ⟨rfl, rfl, rfl, by decide +kernel, rfl, by decide +kernel, by decide +kernel⟩

abbrev st__law_other_names : Stmt := topS 21
abbrev N__law_other_names : List Str := ["given", "images"]
abbrev p__law_other_names : List Str := ["given"]
theorem sc__law_other_names : FnScope N__law_other_names p__law_other_names (defScope st__law_other_names) := ⟨rfl, rfl, rfl, by decide +kernel, rfl, by decide +kernel, by decide +kernel⟩

abbrev st_law : Stmt := topS 22
abbrev N_law : List Str := ["script", "box", "turn", "given", "first", "second", "composed", "name", "row", "kind", "names", "same"]
abbrev p_law : List Str := ["script"]
theorem sc_law : FnScope N_law p_law (defScope st_law) := ⟨rfl, rfl, rfl, by decide +kernel, rfl, by decide +kernel, by decide +kernel⟩

def faL : List He.Fa := [.str "LETTERS" "abcdefghijklmnopqrstuvwxyz", .free "reversed", .free "sorted", .free "tuple", .free "range", .free "list", .free "divmod", .free "len", .free "int", .free "dict", .free "zip", .glo "type_parts", .glo "with_parts", .glo "all_types", .glo "occurrences", .glo "variables", .glo "symbols", .glo "normal", .glo "_sorted_fields", .glo "substitute", .glo "_put_image", .glo "told", .glo "_variable_name", .glo "_law_cell", .glo "_law_digits", .glo "_law_draw", .glo "_law_type", .glo "_law_record", .glo "_law_drawn_images", .glo "_law_other_names", .glo "law"]
def fnL : List He.DefD := [dOf "type_parts" st_type_parts, dOf "with_parts" st_with_parts, dOf "all_types" st_all_types, dOf "occurrences" st_occurrences, dOf "variables" st_variables, dOf "symbols" st_symbols, dOf "normal" st_normal, dOf "_sorted_fields" st__sorted_fields, dOf "substitute" st_substitute, dOf "_put_image" st__put_image, dOf "told" st_told, dOf "_variable_name" st__variable_name, dOf "_law_cell" st__law_cell, dOf "_law_digits" st__law_digits, dOf "_law_draw" st__law_draw, dOf "_law_type" st__law_type, dOf "_law_record" st__law_record, dOf "_law_drawn_images" st__law_drawn_images, dOf "_law_other_names" st__law_other_names, dOf "law" st_law]
def FX : Fx := { fa := faL, fn := fnL, tf := [(("_sorted_fields", none), "_sorted_fields.<locals>.<lambda>")] }
section
variable {P : Program} {w : World} {K : PySem.W.Frag} {mg : Str → Option Value} {base : Heap}
theorem tm_type_parts (T : Tx FX w K mg base) (cdv : Value) (A : Around) (outer : List Env) (s : Shared) (H : Hp) (E : XK) (hr : Room 0 (A.deeper (envOfC "type_parts" (defScope st_type_parts) s.heap.objs.size (He.ga K "type_parts") cdv))) (hq : Qt (A.deeper (envOfC "type_parts" (defScope st_type_parts) s.heap.objs.size (He.ga K "type_parts") cdv))) (hcd : cdv = .ref (He.codeOf K ("type_parts", none))) :
    PSs (cxOf CX0 P w K mg base N_type_parts "type_parts" (defScope st_type_parts) (He.ga K "type_parts") cdv A outer s H E).nox (defBody st_type_parts) (LS K (t_type_parts)) :=
  (s_cons (s_if (wt_eq hr.b (w_sub1 hr.b (w_var 0 (pv 0)) w_int (fun _ _ => rfl)) w_str)
  (s_one (s_ret (w_slice (w_var 0 (pv 0)) (o_some w_int) o_none)))
  s_nil)
  (s_cons (s_if (wt_eq hr.b (w_sub1 hr.b (w_var 0 (pv 0)) w_int (fun _ _ => rfl)) w_str)
  (s_one (s_ret (w_tuplec (by rfl) (T.fr "tuple") (a_cons (w_lc (own := [("_", 1), ("inner", 2)]) rfl sc_type_parts.nd (i_any (w_sub1 hr.b (w_var 0 (pv 0)) w_int (fun _ _ => rfl))) (blkOk_by (N := N_type_parts) (sc := defScope st_type_parts) (by decide +kernel)) (fun _ _ _ _ _ => (gw_tup rfl (gws_cons (gw_name (pg_name (i := 1) sc_type_parts.nd rfl (by first | exact .inl rfl | exact .inr rfl)) (by decide)) (gws_cons (gw_name (pg_name (i := 2) sc_type_parts.nd rfl (by first | exact .inl rfl | exact .inr rfl)) (by decide)) gws_nil)))) (fun _ _ _ _ _ => ts_nil) (fun _ _ _ _ _ => (w_var 2 (pv 2)))) a_nil))))
  s_nil)
  (s_one (s_ret (w_tup a_nil)))))

theorem tm_with_parts (T : Tx FX w K mg base) (cdv : Value) (A : Around) (outer : List Env) (s : Shared) (H : Hp) (E : XK) (hr : Room 0 (A.deeper (envOfC "with_parts" (defScope st_with_parts) s.heap.objs.size (He.ga K "with_parts") cdv))) (hq : Qt (A.deeper (envOfC "with_parts" (defScope st_with_parts) s.heap.objs.size (He.ga K "with_parts") cdv))) (hcd : cdv = .ref (He.codeOf K ("with_parts", none))) :
    PSs (cxOf CX0 P w K mg base N_with_parts "with_parts" (defScope st_with_parts) (He.ga K "with_parts") cdv A outer s H E).nox (defBody st_with_parts) (LS K (t_with_parts)) :=
  (s_cons (s_if (wt_eq hr.b (w_sub1 hr.b (w_var 0 (pv 0)) w_int (fun _ _ => rfl)) w_str)
  (s_one (s_ret (w_tup (a_cons w_str (a_cons (w_sub1 hr.b (w_var 1 (pv 1)) w_int (fun _ _ => rfl)) (a_cons (w_sub1 hr.b (w_var 1 (pv 1)) w_int (fun _ _ => rfl)) a_nil))))))
  s_nil)
  (s_cons (s_if (wt_eq hr.b (w_sub1 hr.b (w_var 0 (pv 0)) w_int (fun _ _ => rfl)) w_str)
  (s_cons (s_setLc (i := 2) (own := [("inner", 5), ("label", 3), ("_", 4)]) rfl sc_with_parts.nd rfl rfl (sw_true rfl rfl rfl (by decide +kernel)) (i_zip (by rfl) (T.fr "zip") (a_cons (w_sub1 hr.b (w_var 0 (pv 0)) w_int (fun _ _ => rfl)) (a_cons (w_var 1 (pv 1)) a_nil))) (blkOk_by (N := N_with_parts) (sc := defScope st_with_parts) (by decide +kernel)) (fun _ _ _ _ _ => (gw_tup rfl (gws_cons (gw_tup rfl (gws_cons (gw_name (pg_name (i := 3) sc_with_parts.nd rfl (by first | exact .inl rfl | exact .inr rfl)) (by decide)) (gws_cons (gw_name (pg_name (i := 4) sc_with_parts.nd rfl (by first | exact .inl rfl | exact .inr rfl)) (by decide)) gws_nil))) (gws_cons (gw_name (pg_name (i := 5) sc_with_parts.nd rfl (by first | exact .inl rfl | exact .inr rfl)) (by decide)) gws_nil)))) (fun _ _ _ _ _ => ts_nil) (fun _ _ _ _ _ => (w_tup (a_cons (w_var 3 (pv 3)) (a_cons (w_var 5 (pv 5)) a_nil)))))
  (s_one (s_ret (w_tup (a_cons w_str (a_cons (w_tuplec (by rfl) (T.fr "tuple") (a_cons (w_var 2 (pv 2)) a_nil)) (a_cons (w_sub1 hr.b (w_var 0 (pv 0)) w_int (fun _ _ => rfl)) a_nil)))))))
  s_nil)
  (s_one (s_ret (w_var 0 (pv 0))))))

theorem tm_all_types (T : Tx FX w K mg base) (H_type_parts : FnK P w K mg base "type_parts" 1 p_type_parts sp_type_parts) (cdv : Value) (A : Around) (outer : List Env) (s : Shared) (H : Hp) (E : XK) (hr : Room 1 (A.deeper (envOfC "all_types" (defScope st_all_types) s.heap.objs.size (He.ga K "all_types") cdv))) (hq : Qt (A.deeper (envOfC "all_types" (defScope st_all_types) s.heap.objs.size (He.ga K "all_types") cdv))) (hcd : cdv = .ref (He.codeOf K ("all_types", none))) :
    PSs (cxOf CX0 P w K mg base N_all_types "all_types" (defScope st_all_types) (He.ga K "all_types") cdv A outer s H E).nox (defBody st_all_types) (LS K (t_all_types)) :=
  (s_cons (s_set (i := 1) sc_all_types.nd rfl (by first | exact .inl rfl | exact .inr rfl) (w_lst a_nil))
  (s_cons (s_set (i := 2) sc_all_types.nd rfl (by first | exact .inl rfl | exact .inr rfl) (w_lst (a_cons (w_var 0 (pv 0)) a_nil)))
  (s_cons (s_while PassesOwn.never (w_truth (w_var 2 (pv 2)))
  (s_cons (s_set (i := 3) sc_all_types.nd rfl (by first | exact .inl rfl | exact .inr rfl) (w_pop (w_var 2 (pv 2))))
  (s_cons (s_expr (w_append (w_var 1 (pv 1)) (a_cons (w_var 3 (pv 3)) a_nil)))
  (s_one (s_expr (w_extend (w_var 2 (pv 2)) (a_cons (w_revs (w_callF H_type_parts (hr.mono (by decide)) hq rfl (a_cons (w_var 3 (pv 3)) a_nil))) a_nil)))))))
  (s_one (s_ret (w_var 1 (pv 1)))))))

theorem tm_occurrences (T : Tx FX w K mg base) (H_type_parts : FnK P w K mg base "type_parts" 1 p_type_parts sp_type_parts) (cdv : Value) (A : Around) (outer : List Env) (s : Shared) (H : Hp) (E : XK) (hr : Room 1 (A.deeper (envOfC "occurrences" (defScope st_occurrences) s.heap.objs.size (He.ga K "occurrences") cdv))) (hq : Qt (A.deeper (envOfC "occurrences" (defScope st_occurrences) s.heap.objs.size (He.ga K "occurrences") cdv))) (hcd : cdv = .ref (He.codeOf K ("occurrences", none))) :
    PSs (cxOf CX0 P w K mg base N_occurrences "occurrences" (defScope st_occurrences) (He.ga K "occurrences") cdv A outer s H E).nox (defBody st_occurrences) (LS K (t_occurrences)) :=
  (s_cons (s_set (i := 1) sc_occurrences.nd rfl (by first | exact .inl rfl | exact .inr rfl) (w_lst a_nil))
  (s_cons (s_set (i := 2) sc_occurrences.nd rfl (by first | exact .inl rfl | exact .inr rfl) (w_lst (a_cons (w_var 0 (pv 0)) a_nil)))
  (s_cons (s_while PassesOwn.never (w_truth (w_var 2 (pv 2)))
  (s_cons (s_set (i := 3) sc_occurrences.nd rfl (by first | exact .inl rfl | exact .inr rfl) (w_pop (w_var 2 (pv 2))))
  (s_cons (s_if (wt_eq hr.b (w_sub1 hr.b (w_var 3 (pv 3)) w_int (fun _ _ => rfl)) w_str)
  (s_one (s_expr (w_append (w_var 1 (pv 1)) (a_cons (w_tup (a_cons (w_sub1 hr.b (w_var 3 (pv 3)) w_int (fun _ _ => rfl)) (a_cons w_bl a_nil))) a_nil))))
  (s_one (s_if (wt_eq hr.b (w_sub1 hr.b (w_var 3 (pv 3)) w_int (fun _ _ => rfl)) w_str)
  (s_one (s_expr (w_append (w_var 1 (pv 1)) (a_cons (w_tup (a_cons (w_sub1 hr.b (w_var 3 (pv 3)) w_int (fun _ _ => rfl)) (a_cons w_bl a_nil))) a_nil))))
  (s_one (s_if (PW.pt (w_and (wt_eq hr.b (w_sub1 hr.b (w_var 3 (pv 3)) w_int (fun _ _ => rfl)) w_str) (w_and1 (ct_notN (w_sub1 hr.b (w_var 3 (pv 3)) w_int (fun _ _ => rfl))))))
  (s_one (s_expr (w_append (w_var 2 (pv 2)) (a_cons (w_tup (a_cons w_str (a_cons (w_sub1 hr.b (w_var 3 (pv 3)) w_int (fun _ _ => rfl)) a_nil))) a_nil))))
  s_nil)))))
  (s_one (s_expr (w_extend (w_var 2 (pv 2)) (a_cons (w_revs (w_callF H_type_parts (hr.mono (by decide)) hq rfl (a_cons (w_var 3 (pv 3)) a_nil))) a_nil)))))))
  (s_one (s_ret (w_var 1 (pv 1)))))))

theorem tm_variables (T : Tx FX w K mg base) (H_occurrences : FnK P w K mg base "occurrences" 2 p_occurrences sp_occurrences) (cdv : Value) (A : Around) (outer : List Env) (s : Shared) (H : Hp) (E : XK) (hr : Room 2 (A.deeper (envOfC "variables" (defScope st_variables) s.heap.objs.size (He.ga K "variables") cdv))) (hq : Qt (A.deeper (envOfC "variables" (defScope st_variables) s.heap.objs.size (He.ga K "variables") cdv))) (hcd : cdv = .ref (He.codeOf K ("variables", none))) :
    PSs (cxOf CX0 P w K mg base N_variables "variables" (defScope st_variables) (He.ga K "variables") cdv A outer s H E).nox (defBody st_variables) (LS K (t_variables)) :=
  (s_cons (s_set (i := 1) sc_variables.nd rfl (by first | exact .inl rfl | exact .inr rfl) w_dnew)
  (s_cons (s_set (i := 2) sc_variables.nd rfl (by first | exact .inl rfl | exact .inr rfl) w_dnew)
  (s_cons (s_for PassesOwn.never rfl (i_any (w_callF H_occurrences (hr.mono (by decide)) hq rfl (a_cons (w_var 0 (pv 0)) a_nil))) (g_tup rfl (gs_cons (g_name (pg_name (i := 3) sc_variables.nd rfl (by first | exact .inl rfl | exact .inr rfl))) (gs_cons (g_name (pg_name (i := 4) sc_variables.nd rfl (by first | exact .inl rfl | exact .inr rfl))) gs_nil)))
  (s_one (s_if (w_truth (w_var 4 (pv 4)))
  (s_one (s_put hr.b (w_var 2 (pv 2)) (w_var 3 (pv 3)) w_bl))
  (s_one (s_put hr.b (w_var 1 (pv 1)) (w_var 3 (pv 3)) w_bl)))))
  (s_one (s_ret (w_tup (a_cons (w_listc rfl (by rfl) (T.fr "list") (a_cons (w_var 1 (pv 1)) a_nil)) (a_cons (w_listc rfl (by rfl) (T.fr "list") (a_cons (w_var 2 (pv 2)) a_nil)) a_nil))))))))

theorem tm_symbols (T : Tx FX w K mg base) (H_all_types : FnK P w K mg base "all_types" 2 p_all_types sp_all_types) (cdv : Value) (A : Around) (outer : List Env) (s : Shared) (H : Hp) (E : XK) (hr : Room 2 (A.deeper (envOfC "symbols" (defScope st_symbols) s.heap.objs.size (He.ga K "symbols") cdv))) (hq : Qt (A.deeper (envOfC "symbols" (defScope st_symbols) s.heap.objs.size (He.ga K "symbols") cdv))) (hcd : cdv = .ref (He.codeOf K ("symbols", none))) :
    PSs (cxOf CX0 P w K mg base N_symbols "symbols" (defScope st_symbols) (He.ga K "symbols") cdv A outer s H E).nox (defBody st_symbols) (LS K (t_symbols)) :=
  (s_cons (s_set (i := 1) sc_symbols.nd rfl (by first | exact .inl rfl | exact .inr rfl) w_int)
  (s_cons (s_for PassesOwn.never rfl (i_any (w_callF H_all_types (hr.mono (by decide)) hq rfl (a_cons (w_var 0 (pv 0)) a_nil))) (g_name (pg_name (i := 2) sc_symbols.nd rfl (by first | exact .inl rfl | exact .inr rfl)))
  (s_cons (s_augAdd (i := 1) sc_symbols.nd rfl (by first | exact .inl rfl | exact .inr rfl) w_int)
  (s_one (s_if (wt_eq hr.b (w_sub1 hr.b (w_var 2 (pv 2)) w_int (fun _ _ => rfl)) w_str)
  (s_cons (s_augAdd (i := 1) sc_symbols.nd rfl (by first | exact .inl rfl | exact .inr rfl) (w_len (by rfl) (T.fr "len") (a_cons (w_sub1 hr.b (w_var 2 (pv 2)) w_int (fun _ _ => rfl)) a_nil)))
  (s_one (s_if (ct_notN (w_sub1 hr.b (w_var 2 (pv 2)) w_int (fun _ _ => rfl)))
  (s_one (s_augAdd (i := 1) sc_symbols.nd rfl (by first | exact .inl rfl | exact .inr rfl) w_int))
  s_nil)))
  s_nil))))
  (s_one (s_ret (w_var 1 (pv 1))))))

theorem tm_normal (T : Tx FX w K mg base) (H_all_types : FnK P w K mg base "all_types" 2 p_all_types sp_all_types) (H__sorted_fields : FnK P w K mg base "_sorted_fields" 3 p__sorted_fields (sp__sorted_fields (FX.TT K))) (H_type_parts : FnK P w K mg base "type_parts" 1 p_type_parts sp_type_parts) (H_with_parts : FnK P w K mg base "with_parts" 1 p_with_parts sp_with_parts) (cdv : Value) (A : Around) (outer : List Env) (s : Shared) (H : Hp) (E : XK) (hr : Room 3 (A.deeper (envOfC "normal" (defScope st_normal) s.heap.objs.size (He.ga K "normal") cdv))) (hq : Qt (A.deeper (envOfC "normal" (defScope st_normal) s.heap.objs.size (He.ga K "normal") cdv))) (hcd : cdv = .ref (He.codeOf K ("normal", none))) :
    PSs (cxOf CX0 P w K mg base N_normal "normal" (defScope st_normal) (He.ga K "normal") cdv A outer s H E).nox (defBody st_normal) (LS K (t_normal (FX.TT K))) :=
  (s_cons (s_set (i := 1) sc_normal.nd rfl (by first | exact .inl rfl | exact .inr rfl) (w_lst a_nil))
  (s_cons (s_for PassesOwn.never rfl (i_rev (by rfl) (T.fr "reversed") (w_callF H_all_types (hr.mono (by decide)) hq rfl (a_cons (w_var 0 (pv 0)) a_nil))) (g_name (pg_name (i := 2) sc_normal.nd rfl (by first | exact .inl rfl | exact .inr rfl)))
  (s_cons (s_setLc (i := 3) (own := [("_", 4)]) rfl sc_normal.nd rfl rfl (sw_true rfl rfl rfl (by decide +kernel)) (i_any (w_callF H_type_parts (hr.mono (by decide)) hq rfl (a_cons (w_var 2 (pv 2)) a_nil))) (blkOk_by (N := N_normal) (sc := defScope st_normal) (by decide +kernel)) (fun _ _ _ _ _ => (gw_name (pg_name (i := 4) sc_normal.nd rfl (by first | exact .inl rfl | exact .inr rfl)) (by decide))) (fun _ _ _ _ _ => ts_nil) (fun _ _ _ _ _ => (w_pop (w_var 1 (pv 1)))))
  (s_one (s_expr (w_append (w_var 1 (pv 1)) (a_cons (w_callF H__sorted_fields (hr.mono (by decide)) hq rfl (a_cons (w_callF H_with_parts (hr.mono (by decide)) hq rfl (a_cons (w_var 2 (pv 2)) (a_cons (w_var 3 (pv 3)) a_nil))) a_nil)) a_nil))))))
  (s_one (s_ret (w_pop (w_var 1 (pv 1)))))))

theorem tm__sorted_fields (T : Tx FX w K mg base) (cdv : Value) (A : Around) (outer : List Env) (s : Shared) (H : Hp) (E : XK) (hr : Room 2 (A.deeper (envOfC "_sorted_fields" (defScope st__sorted_fields) s.heap.objs.size (He.ga K "_sorted_fields") cdv))) (hq : Qt (A.deeper (envOfC "_sorted_fields" (defScope st__sorted_fields) s.heap.objs.size (He.ga K "_sorted_fields") cdv))) (hcd : cdv = .ref (He.codeOf K ("_sorted_fields", none))) :
    PSs (cxOf CX0 P w K mg base N__sorted_fields "_sorted_fields" (defScope st__sorted_fields) (He.ga K "_sorted_fields") cdv A outer s H E).nox (defBody st__sorted_fields) (LS K (t__sorted_fields (FX.TT K))) :=
  (s_cons (s_if (wt_ne hr.b (w_sub1 hr.b (w_var 0 (pv 0)) w_int (fun _ _ => rfl)) w_str)
  (s_one (s_ret (w_var 0 (pv 0))))
  s_nil)
  (s_cons (s_set (i := 1) sc__sorted_fields.nd rfl (by first | exact .inl rfl | exact .inr rfl) (w_sortk (hr.b.mono (by decide)) (T.tabs (("_sorted_fields", none), "_sorted_fields.<locals>.<lambda>") (by decide +kernel)) hcd rfl (Tx.memT (("_sorted_fields", none), "_sorted_fields.<locals>.<lambda>") (by decide +kernel)) (T.uni (("_sorted_fields", none), "_sorted_fields.<locals>.<lambda>") (by decide +kernel)) (by rfl) (T.fr "sorted") (w_sub1 hr.b (w_var 0 (pv 0)) w_int (fun _ _ => rfl)) ⟨rfl, rfl, rfl, by decide +kernel, by decide +kernel, rfl⟩))
  (s_one (s_ret (w_tup (a_cons w_str (a_cons (w_tuplec (by rfl) (T.fr "tuple") (a_cons (w_var 1 (pv 1)) a_nil)) (a_cons (w_sub1 hr.b (w_var 0 (pv 0)) w_int (fun _ _ => rfl)) a_nil))))))))

theorem tm_substitute (T : Tx FX w K mg base) (H_all_types : FnK P w K mg base "all_types" 2 p_all_types sp_all_types) (H__put_image : FnK P w K mg base "_put_image" 1 p__put_image sp__put_image) (H_type_parts : FnK P w K mg base "type_parts" 1 p_type_parts sp_type_parts) (H_with_parts : FnK P w K mg base "with_parts" 1 p_with_parts sp_with_parts) (cdv : Value) (A : Around) (outer : List Env) (s : Shared) (H : Hp) (E : XK) (hr : Room 2 (A.deeper (envOfC "substitute" (defScope st_substitute) s.heap.objs.size (He.ga K "substitute") cdv))) (hq : Qt (A.deeper (envOfC "substitute" (defScope st_substitute) s.heap.objs.size (He.ga K "substitute") cdv))) (hcd : cdv = .ref (He.codeOf K ("substitute", none))) :
    PSs (cxOf CX0 P w K mg base N_substitute "substitute" (defScope st_substitute) (He.ga K "substitute") cdv A outer s H E).nox (defBody st_substitute) (LS K (t_substitute)) :=
  (s_cons (s_set (i := 2) sc_substitute.nd rfl (by first | exact .inl rfl | exact .inr rfl) (w_lst a_nil))
  (s_cons (s_for PassesOwn.never rfl (i_rev (by rfl) (T.fr "reversed") (w_callF H_all_types (hr.mono (by decide)) hq rfl (a_cons (w_var 0 (pv 0)) a_nil))) (g_name (pg_name (i := 3) sc_substitute.nd rfl (by first | exact .inl rfl | exact .inr rfl)))
  (s_cons (s_setLc (i := 4) (own := [("_", 5)]) rfl sc_substitute.nd rfl rfl (sw_true rfl rfl rfl (by decide +kernel)) (i_any (w_callF H_type_parts (hr.mono (by decide)) hq rfl (a_cons (w_var 3 (pv 3)) a_nil))) (blkOk_by (N := N_substitute) (sc := defScope st_substitute) (by decide +kernel)) (fun _ _ _ _ _ => (gw_name (pg_name (i := 5) sc_substitute.nd rfl (by first | exact .inl rfl | exact .inr rfl)) (by decide))) (fun _ _ _ _ _ => ts_nil) (fun _ _ _ _ _ => (w_pop (w_var 2 (pv 2)))))
  (s_one (s_expr (w_append (w_var 2 (pv 2)) (a_cons (w_callF H__put_image (hr.mono (by decide)) hq rfl (a_cons (w_callF H_with_parts (hr.mono (by decide)) hq rfl (a_cons (w_var 3 (pv 3)) (a_cons (w_var 4 (pv 4)) a_nil))) (a_cons (w_var 1 (pv 1)) a_nil))) a_nil))))))
  (s_one (s_ret (w_pop (w_var 2 (pv 2)))))))

theorem tm__put_image (T : Tx FX w K mg base) (cdv : Value) (A : Around) (outer : List Env) (s : Shared) (H : Hp) (E : XK) (hr : Room 0 (A.deeper (envOfC "_put_image" (defScope st__put_image) s.heap.objs.size (He.ga K "_put_image") cdv))) (hq : Qt (A.deeper (envOfC "_put_image" (defScope st__put_image) s.heap.objs.size (He.ga K "_put_image") cdv))) (hcd : cdv = .ref (He.codeOf K ("_put_image", none))) :
    PSs (cxOf CX0 P w K mg base N__put_image "_put_image" (defScope st__put_image) (He.ga K "_put_image") cdv A outer s H E).nox (defBody st__put_image) (LS K (t__put_image)) :=
  (s_cons (s_if (wt_eq hr.b (w_sub1 hr.b (w_var 0 (pv 0)) w_int (fun _ _ => rfl)) w_str)
  (s_one (s_ret (w_dget2 hr.b (w_var 1 (pv 1)) (w_sub1 hr.b (w_var 0 (pv 0)) w_int (fun _ _ => rfl)) (w_var 0 (pv 0)) m2_by)))
  s_nil)
  (s_cons (s_if (PW.pt (w_and (wt_eq hr.b (w_sub1 hr.b (w_var 0 (pv 0)) w_int (fun _ _ => rfl)) w_str) (w_and1 (wt_in hr.b (w_sub1 hr.b (w_var 0 (pv 0)) w_int (fun _ _ => rfl)) (w_var 1 (pv 1)) rfl))))
  (s_cons (s_set (i := 2) sc__put_image.nd rfl (by first | exact .inl rfl | exact .inr rfl) (w_sub1 hr.b (w_var 1 (pv 1)) (w_sub1 hr.b (w_var 0 (pv 0)) w_int (fun _ _ => rfl)) (fun _ _ => rfl)))
  (s_one (s_ret (w_tup (a_cons w_str (a_cons (w_add (w_sub1 hr.b (w_var 0 (pv 0)) w_int (fun _ _ => rfl)) (w_sub1 hr.b (w_var 2 (pv 2)) w_int (fun _ _ => rfl))) (a_cons (w_sub1 hr.b (w_var 2 (pv 2)) w_int (fun _ _ => rfl)) a_nil)))))))
  s_nil)
  (s_one (s_ret (w_var 0 (pv 0))))))

theorem tm_told (T : Tx FX w K mg base) (H_normal : FnK P w K mg base "normal" 4 p_normal (sp_normal (FX.TT K))) (H_occurrences : FnK P w K mg base "occurrences" 2 p_occurrences sp_occurrences) (H_substitute : FnK P w K mg base "substitute" 3 p_substitute sp_substitute) (H__variable_name : FnK P w K mg base "_variable_name" 1 p__variable_name sp__variable_name) (cdv : Value) (A : Around) (outer : List Env) (s : Shared) (H : Hp) (E : XK) (hr : Room 4 (A.deeper (envOfC "told" (defScope st_told) s.heap.objs.size (He.ga K "told") cdv))) (hq : Qt (A.deeper (envOfC "told" (defScope st_told) s.heap.objs.size (He.ga K "told") cdv))) (hcd : cdv = .ref (He.codeOf K ("told", none))) :
    PSs (cxOf CX0 P w K mg base N_told "told" (defScope st_told) (He.ga K "told") cdv A outer s H E).nox (defBody st_told) (LS K (t_told (FX.TT K))) :=
  (s_cons (s_setLc (i := 1) (own := [("given", 2)]) rfl sc_told.nd rfl rfl (sw_true rfl rfl rfl (by decide +kernel)) (i_any (w_var 0 (pv 0))) (blkOk_by (N := N_told) (sc := defScope st_told) (by decide +kernel)) (fun _ _ _ _ _ => (gw_name (pg_name (i := 2) sc_told.nd rfl (by first | exact .inl rfl | exact .inr rfl)) (by decide))) (fun _ _ _ _ _ => ts_nil) (fun _ _ _ _ _ => (w_callF H_normal (hr.mono (by decide)) hq rfl (a_cons (w_var 2 (pv 2)) a_nil))))
  (s_cons (s_set (i := 3) sc_told.nd rfl (by first | exact .inl rfl | exact .inr rfl) w_dnew)
  (s_cons (s_for PassesOwn.never rfl (i_any (w_var 1 (pv 1))) (g_name (pg_name (i := 2) sc_told.nd rfl (by first | exact .inl rfl | exact .inr rfl)))
  (s_one (s_for PassesOwn.never rfl (i_any (w_callF H_occurrences (hr.mono (by decide)) hq rfl (a_cons (w_var 2 (pv 2)) a_nil))) (g_tup rfl (gs_cons (g_name (pg_name (i := 4) sc_told.nd rfl (by first | exact .inl rfl | exact .inr rfl))) (gs_cons (g_name (pg_name (i := 5) sc_told.nd rfl (by first | exact .inl rfl | exact .inr rfl))) gs_nil)))
  (s_one (s_if (wt_notin hr.b (w_var 4 (pv 4)) (w_var 3 (pv 3)) rfl)
  (s_cons (s_set (i := 6) sc_told.nd rfl (by first | exact .inl rfl | exact .inr rfl) (w_callF H__variable_name (hr.mono (by decide)) hq rfl (a_cons (w_len (by rfl) (T.fr "len") (a_cons (w_var 3 (pv 3)) a_nil)) a_nil)))
  (s_one (s_put hr.b (w_var 3 (pv 3)) (w_var 4 (pv 4)) (w_ifExp (w_truth (w_var 5 (pv 5))) (w_tup (a_cons w_str (a_cons (w_tup a_nil) (a_cons (w_var 6 (pv 6)) a_nil)))) (w_tup (a_cons w_str (a_cons (w_var 6 (pv 6)) a_nil)))))))
  s_nil)))))
  (s_one (s_ret (w_tuplec (by rfl) (T.fr "tuple") (a_cons (w_lc (own := [("given", 2)]) rfl sc_told.nd (i_any (w_var 1 (pv 1))) (blkOk_by (N := N_told) (sc := defScope st_told) (by decide +kernel)) (fun _ _ _ _ _ => (gw_name (pg_name (i := 2) sc_told.nd rfl (by first | exact .inl rfl | exact .inr rfl)) (by decide))) (fun _ _ _ _ _ => ts_nil) (fun _ _ _ _ _ => (w_callF H_substitute (hr.mono (by decide)) hq rfl (a_cons (w_var 2 (pv 2)) (a_cons (w_var 3 (pv 3)) a_nil))))) a_nil)))))))

theorem tm__variable_name (T : Tx FX w K mg base) (cdv : Value) (A : Around) (outer : List Env) (s : Shared) (H : Hp) (E : XK) (hr : Room 0 (A.deeper (envOfC "_variable_name" (defScope st__variable_name) s.heap.objs.size (He.ga K "_variable_name") cdv))) (hq : Qt (A.deeper (envOfC "_variable_name" (defScope st__variable_name) s.heap.objs.size (He.ga K "_variable_name") cdv))) (hcd : cdv = .ref (He.codeOf K ("_variable_name", none))) :
    PSs (cxOf CX0 P w K mg base N__variable_name "_variable_name" (defScope st__variable_name) (He.ga K "_variable_name") cdv A outer s H E).nox (defBody st__variable_name) (LS K (t__variable_name)) :=
  (s_cons (s_set (i := 1) sc__variable_name.nd rfl (by first | exact .inl rfl | exact .inr rfl) w_str)
  (s_cons (s_set (i := 2) sc__variable_name.nd rfl (by first | exact .inl rfl | exact .inr rfl) (w_add (w_var 0 (pv 0)) w_int))
  (s_cons (s_while PassesOwn.never (wt_gt (w_var 2 (pv 2)) w_int)
  (s_cons (s_asg (w_divmod (by rfl) (T.fr "divmod") (a_cons (w_sub (w_var 2 (pv 2)) w_int) (a_cons (w_len (by rfl) (T.fr "len") (a_cons (w_gstr (by rfl) (T.str "LETTERS" "abcdefghijklmnopqrstuvwxyz")) a_nil)) a_nil))) (g_tup rfl (gs_cons (g_name (pg_name (i := 2) sc__variable_name.nd rfl (by first | exact .inl rfl | exact .inr rfl))) (gs_cons (g_name (pg_name (i := 3) sc__variable_name.nd rfl (by first | exact .inl rfl | exact .inr rfl))) gs_nil))))
  (s_one (s_set (i := 1) sc__variable_name.nd rfl (by first | exact .inl rfl | exact .inr rfl) (w_add (w_sub1 hr.b (w_gstr (by rfl) (T.str "LETTERS" "abcdefghijklmnopqrstuvwxyz")) (w_var 3 (pv 3)) (fun _ _ => rfl)) (w_var 1 (pv 1)))))))
  (s_one (s_ret (w_var 1 (pv 1)))))))

theorem tm__law_cell (T : Tx FX w K mg base) (cdv : Value) (A : Around) (outer : List Env) (s : Shared) (H : Hp) (E : XK) (hr : Room 0 (A.deeper (envOfC "_law_cell" (defScope st__law_cell) s.heap.objs.size (He.ga K "_law_cell") cdv))) (hq : Qt (A.deeper (envOfC "_law_cell" (defScope st__law_cell) s.heap.objs.size (He.ga K "_law_cell") cdv))) (hcd : cdv = .ref (He.codeOf K ("_law_cell", none))) :
    PSs (cxOf CX0 P w K mg base N__law_cell "_law_cell" (defScope st__law_cell) (He.ga K "_law_cell") cdv A outer s H E).nox (defBody st__law_cell) (LS K (t__law_cell)) :=
  (s_cons (s_if (wt_lt (w_var 1 (pv 1)) (w_len (by rfl) (T.fr "len") (a_cons (w_var 0 (pv 0)) a_nil)))
  (s_one (s_ret (w_sub1 hr.b (w_var 0 (pv 0)) (w_var 1 (pv 1)) (fun _ _ => rfl))))
  s_nil)
  (s_one (s_ret w_int)))

theorem tm__law_digits (T : Tx FX w K mg base) (H__law_cell : FnK P w K mg base "_law_cell" 1 p__law_cell sp__law_cell) (cdv : Value) (A : Around) (outer : List Env) (s : Shared) (H : Hp) (E : XK) (hr : Room 1 (A.deeper (envOfC "_law_digits" (defScope st__law_digits) s.heap.objs.size (He.ga K "_law_digits") cdv))) (hq : Qt (A.deeper (envOfC "_law_digits" (defScope st__law_digits) s.heap.objs.size (He.ga K "_law_digits") cdv))) (hcd : cdv = .ref (He.codeOf K ("_law_digits", none))) :
    PSs (cxOf CX0 P w K mg base N__law_digits "_law_digits" (defScope st__law_digits) (He.ga K "_law_digits") cdv A outer s H E).nox (defBody st__law_digits) (LS K (t__law_digits)) :=
  (s_cons (s_set (i := 3) sc__law_digits.nd rfl (by first | exact .inl rfl | exact .inr rfl) (w_lst a_nil))
  (s_cons (s_for PassesOwn.never rfl (i_range2 (by rfl) (T.fr "range") (a_cons (w_var 1 (pv 1)) (a_cons (w_var 2 (pv 2)) a_nil))) (g_name (pg_name (i := 4) sc__law_digits.nd rfl (by first | exact .inl rfl | exact .inr rfl)))
  (s_cons (s_set (i := 5) sc__law_digits.nd rfl (by first | exact .inl rfl | exact .inr rfl) (w_callF H__law_cell (hr.mono (by decide)) hq rfl (a_cons (w_var 0 (pv 0)) (a_cons (w_var 4 (pv 4)) a_nil))))
  (s_cons (s_if (wt_lt (w_var 5 (pv 5)) w_int)
  (s_one (s_set (i := 5) sc__law_digits.nd rfl (by first | exact .inl rfl | exact .inr rfl) (w_sub w_int (w_mul w_int (w_var 5 (pv 5))))))
  s_nil)
  (s_one (s_if (wt_ge (w_var 5 (pv 5)) (w_pow w_int w_int))
  (s_one (s_for PassesOwn.never rfl (i_range1 (by rfl) (T.fr "range") (a_cons w_int a_nil)) (g_name (pg_name (i := 6) sc__law_digits.nd rfl (by first | exact .inl rfl | exact .inr rfl)))
  (s_one (s_if (wt_gt (w_var 5 (pv 5)) w_int)
  (s_cons (s_expr (w_append (w_var 3 (pv 3)) (a_cons (w_mod (w_intc (by rfl) (T.fr "int") (a_cons (w_var 5 (pv 5)) a_nil)) w_int) a_nil)))
  (s_one (s_set (i := 5) sc__law_digits.nd rfl (by first | exact .inl rfl | exact .inr rfl) (w_fdiv (w_var 5 (pv 5)) w_int))))
  s_nil))))
  (s_cons (s_set (i := 7) sc__law_digits.nd rfl (by first | exact .inl rfl | exact .inr rfl) (w_mod (w_intc (by rfl) (T.fr "int") (a_cons (w_add (w_add (w_mul (w_var 5 (pv 5)) w_int) (w_mul (w_var 4 (pv 4)) w_int)) w_int) a_nil)) w_int))
  (s_one (s_for PassesOwn.never rfl (i_range1 (by rfl) (T.fr "range") (a_cons w_int a_nil)) (g_name (pg_name (i := 6) sc__law_digits.nd rfl (by first | exact .inl rfl | exact .inr rfl)))
  (s_cons (s_set (i := 7) sc__law_digits.nd rfl (by first | exact .inl rfl | exact .inr rfl) (w_mod (w_intc (by rfl) (T.fr "int") (a_cons (w_add (w_add (w_mul (w_var 7 (pv 7)) w_int) (w_mul w_int (w_var 6 (pv 6)))) w_int) a_nil)) w_int))
  (s_one (s_expr (w_append (w_var 3 (pv 3)) (a_cons (w_mod (w_intc (by rfl) (T.fr "int") (a_cons (w_fdiv (w_var 7 (pv 7)) w_int) a_nil)) w_int) a_nil)))))))))))))
  (s_one (s_ret (w_var 3 (pv 3))))))

theorem tm__law_draw (T : Tx FX w K mg base) (cdv : Value) (A : Around) (outer : List Env) (s : Shared) (H : Hp) (E : XK) (hr : Room 0 (A.deeper (envOfC "_law_draw" (defScope st__law_draw) s.heap.objs.size (He.ga K "_law_draw") cdv))) (hq : Qt (A.deeper (envOfC "_law_draw" (defScope st__law_draw) s.heap.objs.size (He.ga K "_law_draw") cdv))) (hcd : cdv = .ref (He.codeOf K ("_law_draw", none))) :
    PSs (cxOf CX0 P w K mg base N__law_draw "_law_draw" (defScope st__law_draw) (He.ga K "_law_draw") cdv A outer s H E).nox (defBody st__law_draw) (LS K (t__law_draw)) :=
  (s_cons (s_set (i := 2) sc__law_draw.nd rfl (by first | exact .inl rfl | exact .inr rfl) (w_sub1 hr.b (w_var 0 (pv 0)) w_int (fun _ _ => rfl)))
  (s_cons (s_put hr.b (w_var 0 (pv 0)) w_int (w_add (w_var 2 (pv 2)) w_int))
  (s_cons (s_if (wt_lt (w_var 2 (pv 2)) (w_len (by rfl) (T.fr "len") (a_cons (w_sub1 hr.b (w_var 0 (pv 0)) w_int (fun _ _ => rfl)) a_nil)))
  (s_one (s_ret (w_mod (w_intc (by rfl) (T.fr "int") (a_cons (w_sub1 hr.b (w_sub1 hr.b (w_var 0 (pv 0)) w_int (fun _ _ => rfl)) (w_var 2 (pv 2)) (fun _ _ => rfl)) a_nil)) (w_var 1 (pv 1)))))
  s_nil)
  (s_one (s_ret (w_mod (w_intc (by rfl) (T.fr "int") (a_cons (w_add (w_mul (w_var 2 (pv 2)) w_int) w_int) a_nil)) (w_var 1 (pv 1))))))))

theorem tm__law_type (T : Tx FX w K mg base) {k : Nat} {k__law_draw : Nat} (l__law_draw : k__law_draw ≤ k) (H__law_draw : FnK P w K mg base "_law_draw" k__law_draw p__law_draw sp__law_draw) {s__law_record : TSp} {k__law_record : Nat} (l__law_record : k__law_record ≤ k) (H__law_record : FnK P w K mg base "_law_record" k__law_record p__law_record s__law_record) {s__law_type : TSp} {k__law_type : Nat} (l__law_type : k__law_type ≤ k) (H__law_type : FnK P w K mg base "_law_type" k__law_type p__law_type s__law_type) (cdv : Value) (A : Around) (outer : List Env) (s : Shared) (H : Hp) (E : XK) (hr : Room k (A.deeper (envOfC "_law_type" (defScope st__law_type) s.heap.objs.size (He.ga K "_law_type") cdv))) (hq : Qt (A.deeper (envOfC "_law_type" (defScope st__law_type) s.heap.objs.size (He.ga K "_law_type") cdv))) (hcd : cdv = .ref (He.codeOf K ("_law_type", none))) :
    PSs (cxOf CX0 P w K mg base N__law_type "_law_type" (defScope st__law_type) (He.ga K "_law_type") cdv A outer s H E).nox (defBody st__law_type) (LS K (t__law_type s__law_record s__law_type)) :=
  (s_cons (s_set (i := 2) sc__law_type.nd rfl (by first | exact .inl rfl | exact .inr rfl) (w_callF H__law_draw (hr.mono l__law_draw) hq rfl (a_cons (w_var 0 (pv 0)) (a_cons w_int a_nil))))
  (s_cons (s_if (PW.pt (w_or (wt_eq hr.b (w_var 1 (pv 1)) w_int) (w_or1 (wt_lt (w_var 2 (pv 2)) w_int))))
  (s_one (s_ret (w_sub1 hr.b (w_lst (a_cons (w_tup (a_cons w_str a_nil)) (a_cons (w_tup (a_cons w_str a_nil)) (a_cons (w_tup (a_cons w_str (a_cons w_str a_nil))) (a_cons (w_tup (a_cons w_str (a_cons w_str a_nil))) (a_cons (w_tup (a_cons w_str (a_cons w_str a_nil))) (a_cons (w_tup (a_cons w_str (a_cons w_str a_nil))) a_nil))))))) (w_callF H__law_draw (hr.mono l__law_draw) hq rfl (a_cons (w_var 0 (pv 0)) (a_cons w_int a_nil))) (fun _ _ => rfl))))
  s_nil)
  (s_cons (s_if (wt_lt (w_var 2 (pv 2)) w_int)
  (s_one (s_ret (w_tup (a_cons w_str (a_cons (w_callF H__law_type (hr.mono l__law_type) hq rfl (a_cons (w_var 0 (pv 0)) (a_cons (w_sub (w_var 1 (pv 1)) w_int) a_nil))) (a_cons (w_callF H__law_type (hr.mono l__law_type) hq rfl (a_cons (w_var 0 (pv 0)) (a_cons (w_sub (w_var 1 (pv 1)) w_int) a_nil))) a_nil))))))
  s_nil)
  (s_one (s_ret (w_callF H__law_record (hr.mono l__law_record) hq rfl (a_cons (w_var 0 (pv 0)) (a_cons (w_var 1 (pv 1)) a_nil))))))))

theorem tm__law_record (T : Tx FX w K mg base) {k : Nat} {k__law_draw : Nat} (l__law_draw : k__law_draw ≤ k) (H__law_draw : FnK P w K mg base "_law_draw" k__law_draw p__law_draw sp__law_draw) {s__law_type : TSp} {k__law_type : Nat} (l__law_type : k__law_type ≤ k) (H__law_type : FnK P w K mg base "_law_type" k__law_type p__law_type s__law_type) (cdv : Value) (A : Around) (outer : List Env) (s : Shared) (H : Hp) (E : XK) (hr : Room k (A.deeper (envOfC "_law_record" (defScope st__law_record) s.heap.objs.size (He.ga K "_law_record") cdv))) (hq : Qt (A.deeper (envOfC "_law_record" (defScope st__law_record) s.heap.objs.size (He.ga K "_law_record") cdv))) (hcd : cdv = .ref (He.codeOf K ("_law_record", none))) :
    PSs (cxOf CX0 P w K mg base N__law_record "_law_record" (defScope st__law_record) (He.ga K "_law_record") cdv A outer s H E).nox (defBody st__law_record) (LS K (t__law_record s__law_type)) :=
  (s_cons (s_set (i := 2) sc__law_record.nd rfl (by first | exact .inl rfl | exact .inr rfl) (w_tuplec (by rfl) (T.fr "tuple") (a_cons (w_lc (own := [("k", 3)]) rfl sc__law_record.nd (i_range1 (by rfl) (T.fr "range") (a_cons (w_callF H__law_draw (hr.mono l__law_draw) hq rfl (a_cons (w_var 0 (pv 0)) (a_cons w_int a_nil))) a_nil)) (blkOk_by (N := N__law_record) (sc := defScope st__law_record) (by decide +kernel)) (fun _ _ _ _ _ => (gw_name (pg_name (i := 3) sc__law_record.nd rfl (by first | exact .inl rfl | exact .inr rfl)) (by decide))) (fun _ _ _ _ _ => ts_nil) (fun _ _ _ _ _ => (w_tup (a_cons (w_sub1 hr.b (w_lst (a_cons w_str (a_cons w_str (a_cons w_str (a_cons w_str a_nil))))) (w_callF H__law_draw (hr.mono l__law_draw) hq rfl (a_cons (w_var 0 (pv 0)) (a_cons w_int a_nil))) (fun _ _ => rfl)) (a_cons (w_callF H__law_type (hr.mono l__law_type) hq rfl (a_cons (w_var 0 (pv 0)) (a_cons (w_sub (w_var 1 (pv 1)) w_int) a_nil))) a_nil))))) a_nil)))
  (s_one (s_ret (w_tup (a_cons w_str (a_cons (w_var 2 (pv 2)) (a_cons (w_sub1 hr.b (w_lst (a_cons w_non (a_cons w_str (a_cons w_str (a_cons w_str a_nil))))) (w_callF H__law_draw (hr.mono l__law_draw) hq rfl (a_cons (w_var 0 (pv 0)) (a_cons w_int a_nil))) (fun _ _ => rfl)) a_nil)))))))

theorem tm__law_drawn_images (T : Tx FX w K mg base) {k : Nat} {k__law_draw : Nat} (l__law_draw : k__law_draw ≤ k) (H__law_draw : FnK P w K mg base "_law_draw" k__law_draw p__law_draw sp__law_draw) {s__law_type : TSp} {k__law_type : Nat} (l__law_type : k__law_type ≤ k) (H__law_type : FnK P w K mg base "_law_type" k__law_type p__law_type s__law_type) {s__law_record : TSp} {k__law_record : Nat} (l__law_record : k__law_record ≤ k) (H__law_record : FnK P w K mg base "_law_record" k__law_record p__law_record s__law_record) (cdv : Value) (A : Around) (outer : List Env) (s : Shared) (H : Hp) (E : XK) (hr : Room k (A.deeper (envOfC "_law_drawn_images" (defScope st__law_drawn_images) s.heap.objs.size (He.ga K "_law_drawn_images") cdv))) (hq : Qt (A.deeper (envOfC "_law_drawn_images" (defScope st__law_drawn_images) s.heap.objs.size (He.ga K "_law_drawn_images") cdv))) (hcd : cdv = .ref (He.codeOf K ("_law_drawn_images", none))) :
    PSs (cxOf CX0 P w K mg base N__law_drawn_images "_law_drawn_images" (defScope st__law_drawn_images) (He.ga K "_law_drawn_images") cdv A outer s H E).nox (defBody st__law_drawn_images) (LS K (t__law_drawn_images s__law_type s__law_record)) :=
  (s_cons (s_set (i := 2) sc__law_drawn_images.nd rfl (by first | exact .inl rfl | exact .inr rfl) w_dnew)
  (s_cons (s_for PassesOwn.never rfl (i_any (w_lst (a_cons w_str (a_cons w_str (a_cons w_str (a_cons w_str a_nil)))))) (g_name (pg_name (i := 3) sc__law_drawn_images.nd rfl (by first | exact .inl rfl | exact .inr rfl)))
  (s_one (s_if (wt_gt (w_callF H__law_draw (hr.mono l__law_draw) hq rfl (a_cons (w_var 0 (pv 0)) (a_cons w_int a_nil))) w_int)
  (s_one (s_put hr.b (w_var 2 (pv 2)) (w_var 3 (pv 3)) (w_callF H__law_type (hr.mono l__law_type) hq rfl (a_cons (w_var 0 (pv 0)) (a_cons (w_var 1 (pv 1)) a_nil)))))
  s_nil)))
  (s_cons (s_for PassesOwn.never rfl (i_any (w_lst (a_cons w_str (a_cons w_str (a_cons w_str a_nil))))) (g_name (pg_name (i := 3) sc__law_drawn_images.nd rfl (by first | exact .inl rfl | exact .inr rfl)))
  (s_one (s_if (wt_gt (w_callF H__law_draw (hr.mono l__law_draw) hq rfl (a_cons (w_var 0 (pv 0)) (a_cons w_int a_nil))) w_int)
  (s_one (s_put hr.b (w_var 2 (pv 2)) (w_var 3 (pv 3)) (w_callF H__law_record (hr.mono l__law_record) hq rfl (a_cons (w_var 0 (pv 0)) (a_cons (w_var 1 (pv 1)) a_nil)))))
  s_nil)))
  (s_one (s_ret (w_var 2 (pv 2)))))))

theorem tm__law_other_names (T : Tx FX w K mg base) (H_substitute : FnK P w K mg base "substitute" 3 p_substitute sp_substitute) (cdv : Value) (A : Around) (outer : List Env) (s : Shared) (H : Hp) (E : XK) (hr : Room 3 (A.deeper (envOfC "_law_other_names" (defScope st__law_other_names) s.heap.objs.size (He.ga K "_law_other_names") cdv))) (hq : Qt (A.deeper (envOfC "_law_other_names" (defScope st__law_other_names) s.heap.objs.size (He.ga K "_law_other_names") cdv))) (hcd : cdv = .ref (He.codeOf K ("_law_other_names", none))) :
    PSs (cxOf CX0 P w K mg base N__law_other_names "_law_other_names" (defScope st__law_other_names) (He.ga K "_law_other_names") cdv A outer s H E).nox (defBody st__law_other_names) (LS K (t__law_other_names)) :=
  (s_cons (s_set (i := 1) sc__law_other_names.nd rfl (by first | exact .inl rfl | exact .inr rfl) (w_disp (pp_cons w_str (w_tup (a_cons w_str (a_cons w_str a_nil))) (pp_cons w_str (w_tup (a_cons w_str (a_cons w_str a_nil))) (pp_cons w_str (w_tup (a_cons w_str (a_cons w_str a_nil))) (pp_cons w_str (w_tup (a_cons w_str (a_cons w_str a_nil))) pp_nil))))))
  (s_cons (s_put hr.b (w_var 1 (pv 1)) w_str (w_tup (a_cons w_str (a_cons (w_tup a_nil) (a_cons w_str a_nil)))))
  (s_cons (s_put hr.b (w_var 1 (pv 1)) w_str (w_tup (a_cons w_str (a_cons (w_tup a_nil) (a_cons w_str a_nil)))))
  (s_cons (s_put hr.b (w_var 1 (pv 1)) w_str (w_tup (a_cons w_str (a_cons (w_tup a_nil) (a_cons w_str a_nil)))))
  (s_one (s_ret (w_callF H_substitute (hr.mono (by decide)) hq rfl (a_cons (w_var 0 (pv 0)) (a_cons (w_var 1 (pv 1)) a_nil)))))))))

theorem tm_law (T : Tx FX w K mg base) {k : Nat} {k__law_digits : Nat} (l__law_digits : k__law_digits ≤ k) (H__law_digits : FnK P w K mg base "_law_digits" k__law_digits p__law_digits sp__law_digits) {s__law_type : TSp} {k__law_type : Nat} (l__law_type : k__law_type ≤ k) (H__law_type : FnK P w K mg base "_law_type" k__law_type p__law_type s__law_type) {s__law_drawn_images : TSp} {k__law_drawn_images : Nat} (l__law_drawn_images : k__law_drawn_images ≤ k) (H__law_drawn_images : FnK P w K mg base "_law_drawn_images" k__law_drawn_images p__law_drawn_images s__law_drawn_images) {k_variables : Nat} (l_variables : k_variables ≤ k) (H_variables : FnK P w K mg base "variables" k_variables p_variables sp_variables) {k_substitute : Nat} (l_substitute : k_substitute ≤ k) (H_substitute : FnK P w K mg base "substitute" k_substitute p_substitute sp_substitute) {k_normal : Nat} (l_normal : k_normal ≤ k) (H_normal : FnK P w K mg base "normal" k_normal p_normal (sp_normal (FX.TT K))) {k_told : Nat} (l_told : k_told ≤ k) (H_told : FnK P w K mg base "told" k_told p_told (sp_told (FX.TT K))) {k_symbols : Nat} (l_symbols : k_symbols ≤ k) (H_symbols : FnK P w K mg base "symbols" k_symbols p_symbols sp_symbols) {k__law_other_names : Nat} (l__law_other_names : k__law_other_names ≤ k) (H__law_other_names : FnK P w K mg base "_law_other_names" k__law_other_names p__law_other_names sp__law_other_names) (cdv : Value) (A : Around) (outer : List Env) (s : Shared) (H : Hp) (E : XK) (hr : Room k (A.deeper (envOfC "law" (defScope st_law) s.heap.objs.size (He.ga K "law") cdv))) (hq : Qt (A.deeper (envOfC "law" (defScope st_law) s.heap.objs.size (He.ga K "law") cdv))) (hcd : cdv = .ref (He.codeOf K ("law", none))) :
    PSs (cxOf CX0 P w K mg base N_law "law" (defScope st_law) (He.ga K "law") cdv A outer s H E).nox (defBody st_law) (LS K (t_law (FX.TT K) s__law_type s__law_drawn_images)) :=
  (s_cons (s_set (i := 1) sc_law.nd rfl (by first | exact .inl rfl | exact .inr rfl) (w_lst (a_cons (w_callF H__law_digits (hr.mono l__law_digits) hq rfl (a_cons (w_var 0 (pv 0)) (a_cons w_int (a_cons w_int a_nil)))) (a_cons w_int a_nil))))
  (s_cons (s_for PassesOwn.never rfl (i_range1 (by rfl) (T.fr "range") (a_cons w_int a_nil)) (g_name (pg_name (i := 2) sc_law.nd rfl (by first | exact .inl rfl | exact .inr rfl)))
  (s_cons (s_set (i := 3) sc_law.nd rfl (by first | exact .inl rfl | exact .inr rfl) (w_callF H__law_type (hr.mono l__law_type) hq rfl (a_cons (w_var 1 (pv 1)) (a_cons w_int a_nil))))
  (s_cons (s_set (i := 4) sc_law.nd rfl (by first | exact .inl rfl | exact .inr rfl) (w_callF H__law_drawn_images (hr.mono l__law_drawn_images) hq rfl (a_cons (w_var 1 (pv 1)) (a_cons w_int a_nil))))
  (s_cons (s_set (i := 5) sc_law.nd rfl (by first | exact .inl rfl | exact .inr rfl) (w_callF H__law_drawn_images (hr.mono l__law_drawn_images) hq rfl (a_cons (w_var 1 (pv 1)) (a_cons w_int a_nil))))
  (s_cons (s_set (i := 6) sc_law.nd rfl (by first | exact .inl rfl | exact .inr rfl) (w_dictc (by rfl) (T.fr "dict") (a_cons (w_var 5 (pv 5)) a_nil)))
  (s_cons (s_forD PassesOwn.never rfl (pv 4) (g_name (pg_name (i := 7) sc_law.nd rfl (by first | exact .inl rfl | exact .inr rfl)))
  (s_one (s_put hr.b (w_var 6 (pv 6)) (w_var 7 (pv 7)) (w_callF H_substitute (hr.mono l_substitute) hq rfl (a_cons (w_sub1 hr.b (w_var 4 (pv 4)) (w_var 7 (pv 7)) (fun _ _ => rfl)) (a_cons (w_var 5 (pv 5)) a_nil))))))
  (s_cons (s_if (wt_ne hr.b (w_callF H_normal (hr.mono l_normal) hq rfl (a_cons (w_callF H_substitute (hr.mono l_substitute) hq rfl (a_cons (w_callF H_substitute (hr.mono l_substitute) hq rfl (a_cons (w_var 3 (pv 3)) (a_cons (w_var 4 (pv 4)) a_nil))) (a_cons (w_var 5 (pv 5)) a_nil))) a_nil)) (w_callF H_normal (hr.mono l_normal) hq rfl (a_cons (w_callF H_substitute (hr.mono l_substitute) hq rfl (a_cons (w_var 3 (pv 3)) (a_cons (w_var 6 (pv 6)) a_nil))) a_nil)))
  (s_one (s_ret w_bl))
  s_nil)
  (s_cons (s_if (PW.pt (w_or (wt_ne hr.b (w_callF H_normal (hr.mono l_normal) hq rfl (a_cons (w_callF H_substitute (hr.mono l_substitute) hq rfl (a_cons (w_callF H_normal (hr.mono l_normal) hq rfl (a_cons (w_var 3 (pv 3)) a_nil)) (a_cons (w_var 4 (pv 4)) a_nil))) a_nil)) (w_callF H_normal (hr.mono l_normal) hq rfl (a_cons (w_callF H_substitute (hr.mono l_substitute) hq rfl (a_cons (w_var 3 (pv 3)) (a_cons (w_var 4 (pv 4)) a_nil))) a_nil))) (w_or1 (wt_ne hr.b (w_callF H_substitute (hr.mono l_substitute) hq rfl (a_cons (w_var 3 (pv 3)) (a_cons w_dnew a_nil))) (w_var 3 (pv 3))))))
  (s_one (s_ret w_bl))
  s_nil)
  (s_cons (s_if (wt_ne hr.b (w_callF H_normal (hr.mono l_normal) hq rfl (a_cons (w_callF H_normal (hr.mono l_normal) hq rfl (a_cons (w_var 3 (pv 3)) a_nil)) a_nil)) (w_callF H_normal (hr.mono l_normal) hq rfl (a_cons (w_var 3 (pv 3)) a_nil)))
  (s_one (s_ret w_bl))
  s_nil)
  (s_cons (s_set (i := 8) sc_law.nd rfl (by first | exact .inl rfl | exact .inr rfl) (w_tup (a_cons (w_var 3 (pv 3)) (a_cons (w_callF H_substitute (hr.mono l_substitute) hq rfl (a_cons (w_var 3 (pv 3)) (a_cons (w_var 4 (pv 4)) a_nil))) a_nil))))
  (s_cons (s_if (PW.pt (w_or (wt_ne hr.b (w_callF H_told (hr.mono l_told) hq rfl (a_cons (w_callF H_told (hr.mono l_told) hq rfl (a_cons (w_var 8 (pv 8)) a_nil)) a_nil)) (w_callF H_told (hr.mono l_told) hq rfl (a_cons (w_var 8 (pv 8)) a_nil))) (w_or1 (wt_ne hr.b (w_callF H_told (hr.mono l_told) hq rfl (a_cons (w_tuplec (by rfl) (T.fr "tuple") (a_cons (w_lc (own := [("kind", 9)]) rfl sc_law.nd (i_any (w_var 8 (pv 8))) (blkOk_by (N := N_law) (sc := defScope st_law) (by decide +kernel)) (fun _ _ _ _ _ => (gw_name (pg_name (i := 9) sc_law.nd rfl (by first | exact .inl rfl | exact .inr rfl)) (by decide))) (fun _ _ _ _ _ => ts_nil) (fun _ _ _ _ _ => (w_callF H__law_other_names (hr.mono l__law_other_names) hq rfl (a_cons (w_var 9 (pv 9)) a_nil)))) a_nil)) a_nil)) (w_callF H_told (hr.mono l_told) hq rfl (a_cons (w_var 8 (pv 8)) a_nil))))))
  (s_one (s_ret w_bl))
  s_nil)
  (s_cons (s_set (i := 10) sc_law.nd rfl (by first | exact .inl rfl | exact .inr rfl) (w_callF H_variables (hr.mono l_variables) hq rfl (a_cons (w_var 3 (pv 3)) a_nil)))
  (s_cons (s_set (i := 11) sc_law.nd rfl (by first | exact .inl rfl | exact .inr rfl) (w_callF H_variables (hr.mono l_variables) hq rfl (a_cons (w_callF H_normal (hr.mono l_normal) hq rfl (a_cons (w_var 3 (pv 3)) a_nil)) a_nil)))
  (s_one (s_if (PW.pt (w_or (wt_ne hr.b (w_callF H_symbols (hr.mono l_symbols) hq rfl (a_cons (w_callF H_normal (hr.mono l_normal) hq rfl (a_cons (w_var 3 (pv 3)) a_nil)) a_nil)) (w_callF H_symbols (hr.mono l_symbols) hq rfl (a_cons (w_var 3 (pv 3)) a_nil))) (w_or (wt_ne hr.b (w_sorted (by rfl) (T.fr "sorted") (a_cons (w_sub1 hr.b (w_var 11 (pv 11)) w_int (fun _ _ => rfl)) a_nil)) (w_sorted (by rfl) (T.fr "sorted") (a_cons (w_sub1 hr.b (w_var 10 (pv 10)) w_int (fun _ _ => rfl)) a_nil))) (w_or1 (wt_ne hr.b (w_sorted (by rfl) (T.fr "sorted") (a_cons (w_sub1 hr.b (w_var 11 (pv 11)) w_int (fun _ _ => rfl)) a_nil)) (w_sorted (by rfl) (T.fr "sorted") (a_cons (w_sub1 hr.b (w_var 10 (pv 10)) w_int (fun _ _ => rfl)) a_nil)))))))
  (s_one (s_ret w_bl))
  s_nil)))))))))))))))
  (s_one (s_ret w_bl))))

theorem ok_type_parts (T : Tx FX w K mg base) : FnK P w K mg base "type_parts" 1 p_type_parts sp_type_parts :=
  fn_mk T (k := 0) 0 rfl (by decide +kernel) sc_type_parts (fun _ _ _ _ _ _ us hl => match us, hl with | [_], _ => rfl) (by walk_at "len") (fun cdv A outer s H E hr hq hcd => tm_type_parts T  (cdv := cdv) (A := A) (outer := outer) (s := s) (H := H) (E := E) (hr := hr) (hq := hq) (hcd := hcd)) pure_type_parts

theorem ok_with_parts (T : Tx FX w K mg base) : FnK P w K mg base "with_parts" 1 p_with_parts sp_with_parts :=
  fn_mk T (k := 0) 1 rfl (by decide +kernel) sc_with_parts (fun _ _ _ _ _ _ us hl => match us, hl with | [_, _], _ => rfl) (by walk_at "len") (fun cdv A outer s H E hr hq hcd => tm_with_parts T  (cdv := cdv) (A := A) (outer := outer) (s := s) (H := H) (E := E) (hr := hr) (hq := hq) (hcd := hcd)) pure_with_parts

theorem ok_all_types (T : Tx FX w K mg base) : FnK P w K mg base "all_types" 2 p_all_types sp_all_types :=
  fn_mk T (k := 1) 2 rfl (by decide +kernel) sc_all_types (fun _ _ _ _ _ _ us hl => match us, hl with | [_], _ => rfl) (by walk_at "len") (fun cdv A outer s H E hr hq hcd => tm_all_types T (H_type_parts := (ok_type_parts T)) (cdv := cdv) (A := A) (outer := outer) (s := s) (H := H) (E := E) (hr := hr) (hq := hq) (hcd := hcd)) pure_all_types

theorem ok_occurrences (T : Tx FX w K mg base) : FnK P w K mg base "occurrences" 2 p_occurrences sp_occurrences :=
  fn_mk T (k := 1) 3 rfl (by decide +kernel) sc_occurrences (fun _ _ _ _ _ _ us hl => match us, hl with | [_], _ => rfl) (by walk_at "len") (fun cdv A outer s H E hr hq hcd => tm_occurrences T (H_type_parts := (ok_type_parts T)) (cdv := cdv) (A := A) (outer := outer) (s := s) (H := H) (E := E) (hr := hr) (hq := hq) (hcd := hcd)) pure_occurrences

theorem ok_variables (T : Tx FX w K mg base) : FnK P w K mg base "variables" 3 p_variables sp_variables :=
  fn_mk T (k := 2) 4 rfl (by decide +kernel) sc_variables (fun _ _ _ _ _ _ us hl => match us, hl with | [_], _ => rfl) (by walk_at "len") (fun cdv A outer s H E hr hq hcd => tm_variables T (H_occurrences := (ok_occurrences T)) (cdv := cdv) (A := A) (outer := outer) (s := s) (H := H) (E := E) (hr := hr) (hq := hq) (hcd := hcd)) pure_variables

theorem ok_symbols (T : Tx FX w K mg base) : FnK P w K mg base "symbols" 3 p_symbols sp_symbols :=
  fn_mk T (k := 2) 5 rfl (by decide +kernel) sc_symbols (fun _ _ _ _ _ _ us hl => match us, hl with | [_], _ => rfl) (by walk_at "len") (fun cdv A outer s H E hr hq hcd => tm_symbols T (H_all_types := (ok_all_types T)) (cdv := cdv) (A := A) (outer := outer) (s := s) (H := H) (E := E) (hr := hr) (hq := hq) (hcd := hcd)) pure_symbols

theorem ok__sorted_fields (T : Tx FX w K mg base) : FnK P w K mg base "_sorted_fields" 3 p__sorted_fields (sp__sorted_fields (FX.TT K)) :=
  fn_mk T (k := 2) 7 rfl (by decide +kernel) sc__sorted_fields (fun _ _ _ _ _ _ us hl => match us, hl with | [_], _ => rfl) (by walk_at "len") (fun cdv A outer s H E hr hq hcd => tm__sorted_fields T  (cdv := cdv) (A := A) (outer := outer) (s := s) (H := H) (E := E) (hr := hr) (hq := hq) (hcd := hcd)) (pure__sorted_fields (FX.TT K))

theorem ok_normal (T : Tx FX w K mg base) : FnK P w K mg base "normal" 4 p_normal (sp_normal (FX.TT K)) :=
  fn_mk T (k := 3) 6 rfl (by decide +kernel) sc_normal (fun _ _ _ _ _ _ us hl => match us, hl with | [_], _ => rfl) (by walk_at "len") (fun cdv A outer s H E hr hq hcd => tm_normal T (H_all_types := (ok_all_types T)) (H__sorted_fields := (ok__sorted_fields T)) (H_type_parts := (ok_type_parts T)) (H_with_parts := (ok_with_parts T)) (cdv := cdv) (A := A) (outer := outer) (s := s) (H := H) (E := E) (hr := hr) (hq := hq) (hcd := hcd)) (pure_normal (FX.TT K))

theorem ok__put_image (T : Tx FX w K mg base) : FnK P w K mg base "_put_image" 1 p__put_image sp__put_image :=
  fn_mk T (k := 0) 9 rfl (by decide +kernel) sc__put_image (fun _ _ _ _ _ _ us hl => match us, hl with | [_, _], _ => rfl) (by walk_at "len") (fun cdv A outer s H E hr hq hcd => tm__put_image T  (cdv := cdv) (A := A) (outer := outer) (s := s) (H := H) (E := E) (hr := hr) (hq := hq) (hcd := hcd)) pure__put_image

theorem ok_substitute (T : Tx FX w K mg base) : FnK P w K mg base "substitute" 3 p_substitute sp_substitute :=
  fn_mk T (k := 2) 8 rfl (by decide +kernel) sc_substitute (fun _ _ _ _ _ _ us hl => match us, hl with | [_, _], _ => rfl) (by walk_at "len") (fun cdv A outer s H E hr hq hcd => tm_substitute T (H_all_types := (ok_all_types T)) (H__put_image := (ok__put_image T)) (H_type_parts := (ok_type_parts T)) (H_with_parts := (ok_with_parts T)) (cdv := cdv) (A := A) (outer := outer) (s := s) (H := H) (E := E) (hr := hr) (hq := hq) (hcd := hcd)) pure_substitute

theorem ok__variable_name (T : Tx FX w K mg base) : FnK P w K mg base "_variable_name" 1 p__variable_name sp__variable_name :=
  fn_mk T (k := 0) 11 rfl (by decide +kernel) sc__variable_name (fun _ _ _ _ _ _ us hl => match us, hl with | [_], _ => rfl) (by walk_at "len") (fun cdv A outer s H E hr hq hcd => tm__variable_name T  (cdv := cdv) (A := A) (outer := outer) (s := s) (H := H) (E := E) (hr := hr) (hq := hq) (hcd := hcd)) pure__variable_name

theorem ok_told (T : Tx FX w K mg base) : FnK P w K mg base "told" 5 p_told (sp_told (FX.TT K)) :=
  fn_mk T (k := 4) 10 rfl (by decide +kernel) sc_told (fun _ _ _ _ _ _ us hl => match us, hl with | [_], _ => rfl) (by walk_at "len") (fun cdv A outer s H E hr hq hcd => tm_told T (H_normal := (ok_normal T)) (H_occurrences := (ok_occurrences T)) (H_substitute := (ok_substitute T)) (H__variable_name := (ok__variable_name T)) (cdv := cdv) (A := A) (outer := outer) (s := s) (H := H) (E := E) (hr := hr) (hq := hq) (hcd := hcd)) (pure_told (FX.TT K))

theorem ok__law_cell (T : Tx FX w K mg base) : FnK P w K mg base "_law_cell" 1 p__law_cell sp__law_cell :=
  fn_mk T (k := 0) 12 rfl (by decide +kernel) sc__law_cell (fun _ _ _ _ _ _ us hl => match us, hl with | [_, _], _ => rfl) (by walk_at "len") (fun cdv A outer s H E hr hq hcd => tm__law_cell T  (cdv := cdv) (A := A) (outer := outer) (s := s) (H := H) (E := E) (hr := hr) (hq := hq) (hcd := hcd)) pure__law_cell

theorem ok__law_digits (T : Tx FX w K mg base) : FnK P w K mg base "_law_digits" 2 p__law_digits sp__law_digits :=
  fn_mk T (k := 1) 13 rfl (by decide +kernel) sc__law_digits (fun _ _ _ _ _ _ us hl => match us, hl with | [_, _, _], _ => rfl) (by walk_at "len") (fun cdv A outer s H E hr hq hcd => tm__law_digits T (H__law_cell := (ok__law_cell T)) (cdv := cdv) (A := A) (outer := outer) (s := s) (H := H) (E := E) (hr := hr) (hq := hq) (hcd := hcd)) pure__law_digits

theorem ok__law_draw (T : Tx FX w K mg base) : FnK P w K mg base "_law_draw" 1 p__law_draw sp__law_draw :=
  fn_mk T (k := 0) 14 rfl (by decide +kernel) sc__law_draw (fun _ _ _ _ _ _ us hl => match us, hl with | [_, _], _ => rfl) (by walk_at "len") (fun cdv A outer s H E hr hq hcd => tm__law_draw T  (cdv := cdv) (A := A) (outer := outer) (s := s) (H := H) (E := E) (hr := hr) (hq := hq) (hcd := hcd)) pure__law_draw

theorem ok_rec (T : Tx FX w K mg base) : ∀ d : Nat, FnK P w K mg base "_law_type" (1 + 2 * d + 1) p__law_type (sp__law_type d) ∧ FnK P w K mg base "_law_record" (1 + 2 * d + 2) p__law_record (sp__law_record d)
  | 0 => by
    have n1 : FnK P w K mg base "_law_type" 0 p__law_type spNo := fn_no T 0 15 rfl (by decide +kernel) (fun _ _ _ _ _ _ us hl => match us, hl with | [_, _], _ => rfl)
    have n2 : FnK P w K mg base "_law_record" 0 p__law_record spNo := fn_no T 0 16 rfl (by decide +kernel) (fun _ _ _ _ _ _ us hl => match us, hl with | [_, _], _ => rfl)
    have h1 : FnK P w K mg base "_law_type" (1 + 2 * 0 + 1) p__law_type (sp__law_type 0) := fn_mk T 15 rfl (by decide +kernel) sc__law_type (fun _ _ _ _ _ _ us hl => match us, hl with | [_, _], _ => rfl) (by walk_at "len") (fun cdv A outer s H E hr hq hcd => tm__law_type T (l__law_draw := by omega) (H__law_draw := (ok__law_draw T)) (l__law_record := by omega) (H__law_record := n2) (l__law_type := by omega) (H__law_type := n1) (cdv := cdv) (A := A) (outer := outer) (s := s) (H := H) (E := E) (hr := hr) (hq := hq) (hcd := hcd)) (pure__law_type 0 spNo spNo (fun k e => by omega) (fun k e => by omega))
    exact ⟨h1, fn_mk T 16 rfl (by decide +kernel) sc__law_record (fun _ _ _ _ _ _ us hl => match us, hl with | [_, _], _ => rfl) (by walk_at "len") (fun cdv A outer s H E hr hq hcd => tm__law_record T (l__law_draw := by omega) (H__law_draw := (ok__law_draw T)) (l__law_type := by omega) (H__law_type := h1) (cdv := cdv) (A := A) (outer := outer) (s := s) (H := H) (E := E) (hr := hr) (hq := hq) (hcd := hcd)) (pure__law_record 0 _ rfl)⟩
  | d + 1 => by
    obtain ⟨i1, i2⟩ := ok_rec T d
    have h1 : FnK P w K mg base "_law_type" (1 + 2 * (d + 1) + 1) p__law_type (sp__law_type (d + 1)) := fn_mk T 15 rfl (by decide +kernel) sc__law_type (fun _ _ _ _ _ _ us hl => match us, hl with | [_, _], _ => rfl) (by walk_at "len") (fun cdv A outer s H E hr hq hcd => tm__law_type T (l__law_draw := by omega) (H__law_draw := (ok__law_draw T)) (l__law_record := by omega) (H__law_record := i2) (l__law_type := by omega) (H__law_type := i1) (cdv := cdv) (A := A) (outer := outer) (s := s) (H := H) (E := E) (hr := hr) (hq := hq) (hcd := hcd)) (pure__law_type (d + 1) _ _ (fun k e => by cases e; rfl) (fun k e => by cases e; rfl))
    exact ⟨h1, fn_mk T 16 rfl (by decide +kernel) sc__law_record (fun _ _ _ _ _ _ us hl => match us, hl with | [_, _], _ => rfl) (by walk_at "len") (fun cdv A outer s H E hr hq hcd => tm__law_record T (l__law_draw := by omega) (H__law_draw := (ok__law_draw T)) (l__law_type := by omega) (H__law_type := h1) (cdv := cdv) (A := A) (outer := outer) (s := s) (H := H) (E := E) (hr := hr) (hq := hq) (hcd := hcd)) (pure__law_record (d + 1) _ rfl)⟩

theorem ok_di (T : Tx FX w K mg base) : FnK P w K mg base "_law_drawn_images" 10 p__law_drawn_images (sp__law_drawn_images 0) :=
  fn_mk T (k := 9) 17 rfl (by decide +kernel) sc__law_drawn_images (fun _ _ _ _ _ _ us hl => match us, hl with | [_, _], _ => rfl) (by walk_at "len") (fun cdv A outer s H E hr hq hcd => tm__law_drawn_images T (l__law_draw := by omega) (H__law_draw := (ok__law_draw T)) (l__law_type := by omega) (H__law_type := (ok_rec T 1).1) (l__law_record := by omega) (H__law_record := (ok_rec T 0).2) (cdv := cdv) (A := A) (outer := outer) (s := s) (H := H) (E := E) (hr := hr) (hq := hq) (hcd := hcd)) (pure__law_drawn_images 0)

theorem ok__law_other_names (T : Tx FX w K mg base) : FnK P w K mg base "_law_other_names" 4 p__law_other_names sp__law_other_names :=
  fn_mk T (k := 3) 18 rfl (by decide +kernel) sc__law_other_names (fun _ _ _ _ _ _ us hl => match us, hl with | [_], _ => rfl) (by walk_at "len") (fun cdv A outer s H E hr hq hcd => tm__law_other_names T (H_substitute := (ok_substitute T)) (cdv := cdv) (A := A) (outer := outer) (s := s) (H := H) (E := E) (hr := hr) (hq := hq) (hcd := hcd)) pure__law_other_names

theorem ok_law (T : Tx FX w K mg base) : FnK P w K mg base "law" 21 p_law (sp_law (FX.TT K)) :=
  fn_mk T (k := 20) 19 rfl (by decide +kernel) sc_law (fun _ _ _ _ _ _ us hl => match us, hl with | [_], _ => rfl) (by walk_at "len") (fun cdv A outer s H E hr hq hcd => tm_law T (l__law_digits := by decide) (H__law_digits := (ok__law_digits T)) (l__law_type := by decide) (H__law_type := (ok_rec T 2).1) (l__law_drawn_images := by decide) (H__law_drawn_images := (ok_di T)) (l_variables := by decide) (H_variables := (ok_variables T)) (l_substitute := by decide) (H_substitute := (ok_substitute T)) (l_normal := by decide) (H_normal := (ok_normal T)) (l_told := by decide) (H_told := (ok_told T)) (l_symbols := by decide) (H_symbols := (ok_symbols T)) (l__law_other_names := by decide) (H__law_other_names := (ok__law_other_names T)) (cdv := cdv) (A := A) (outer := outer) (s := s) (H := H) (E := E) (hr := hr) (hq := hq) (hcd := hcd)) (pure_law (FX.TT K))

end
def ob (s : PySem.W.SharedT) : He.AlX := He.obsX 4 FX.fa FX.fn FX.ts (FX.tf.map (·.1)) FX.exB (HandSHeadRun.getT s)
abbrev RWL : PySem.W.OpenRow := PySem.W.OpenLaw.row PySem.Challenge.rw_rowtypes_k28_substitutions
abbrev hkL : PySem.W.Hook := He.hookX 4 FX.fa FX.fn FX.ts (FX.tf.map (·.1)) FX.exB
theorem ob_eq (s : PySem.W.SharedT) : ob s = hkL.obs s.abs := He.obsX_eq (HandSHeadRun.getT_eq s)
def namesL : List PySem.Str := ["LETTERS", "type_parts", "with_parts", "all_types", "occurrences", "variables", "symbols", "normal", "_sorted_fields", "substitute", "_put_image", "told", "_variable_name", "_law_cell", "_law_digits", "_law_draw", "_law_type", "_law_record", "_law_drawn_images", "_law_other_names"]
theorem runL (w : World) : HandSHeadRun.RunEq RWL (PySem.W.view RWL.prog [22]) hkL ob 4000 namesL w :=
  PySem.W.byRow2 "special-get-raises" (P := fun w => HandSHeadRun.RunEq RWL (PySem.W.view RWL.prog [22]) hkL ob 4000 namesL w)
    (fun w => by
      intro os
      kernel_rfl) (fun w => by
      intro os
      kernel_rfl) w
end TL
open PySem PySem.W PySem.Calls PyProof.Rows
set_option maxHeartbeats 0 in
theorem PySem.Challenge.cw_rowtypes_k28_substitutions_holds : PySem.Challenge.rw_rowtypes_k28_substitutions.Holds := by
  w_on; o_law
  refine HandSHeadRun.head_any (r := OpenLaw.row PySem.Challenge.rw_rowtypes_k28_substitutions) (q := view (OpenLaw.row PySem.Challenge.rw_rowtypes_k28_substitutions).prog [22]) (H := TL.hkL) (ob := TL.ob) (M := 4000) (loose := TL.namesL) (d := HandSHeadRun.topDef (OpenLaw.row PySem.Challenge.rw_rowtypes_k28_substitutions).prog 22) (kwd := []) TL.ob_eq
    (by kernel_rfl) (fun s => by kernel_rfl) TL.runL (by kernel_rfl) (by kernel_rfl) (by kernel_rfl) (by rfl) (by first | assumption | decide +kernel) (by decide +kernel) ⟨rfl, rfl, rfl, rfl, rfl, by decide +kernel⟩ ?hw ?hc
  case hw => w_witness2
  case hc =>
    exact TL.walk_tx (l := PySem.Challenge.rw_rowtypes_k28_substitutions) (k := 21) (D := TL.FX) (sp := fun K => TL.sp_law (TL.FX.TT K)) (st := TL.st_law) rfl (by kernel_rfl) (by kernel_rfl) ⟨rfl, by decide, by decide⟩ 19 rfl (by decide +kernel) (fun _ _ _ _ _ _ us hl => match us, hl with | [_], _ => rfl)
      (fun w K mg base T => TL.ok_law T) (fun K x ns G R hl hx hT h => ⟨x, ns, rfl, hx, hT, h⟩)

