import PyProof.Rows.All
import Wide.All
import OpenK.AllK
import Wide.FinOn
import HandS.ForMost
import HandS.TupAny
import HandS.TupMul
import HandS.IsInst
import HandS.Zip
import HandS.Style
import HandS.Flow
import HandS.ExcInit
import KE.DataEq
import KE.DataCmp
import KE.SortData
import PyProof.Rows.ReprR
import HandS.Dict
import HandS.TupSets
import KE.DataIsa
import HandS.ExcField
import HandS.ExcIs
import KE.KExcIs
import KE.LtSeq
import KE.LtData
import HandS.Sort
import PyProof.EqKinds
import PyProof.Rows.IntBool
import HandS.SortOrd
import KE.GoesEnum
import HandS.Conv
import PySem.Challenge.RW_somerows_k04_plans_recognized
import HandS.SetFor
import HandS.Strs
import PyProof.Rows.SortStr
import KE.KDictZip
import PyProof.FactsAll.dict
import KE.KRevSl
set_option Elab.async false
set_option linter.all false
set_option maxRecDepth 100000
set_option maxHeartbeats 3990000
/-! V0: a layer of plain data over the hand layer: what a value reads as (Dq), a heap with some addresses hidden (Off), slots (Sl), the state's relation (Rl), judgements. -/
namespace Vl
open PySem PySem.Spec PyProof.Rows L2

/-- all that H has, H' has -/
abbrev Sub (H H' : Hp) : Prop := ∀ b o, H b = some o → H' b = some o
theorem Sub.refl (H : Hp) : Sub H H := fun _ _ h => h
theorem Sub.trans {H H1 H2 : Hp} (a : Sub H H1) (b : Sub H1 H2) : Sub H H2 := fun x o h => b x o (a x o h)
/-- all but what stands at a is kept -/
def Kp (a : Addr) (H H' : Hp) : Prop := ∀ b o, b ≠ a → H b = some o → H' b = some o
theorem Kp.refl (a : Addr) (H : Hp) : Kp a H H := fun _ _ _ h => h
theorem Kp.trans {a : Addr} {H H1 H2 : Hp} (x : Kp a H H1) (y : Kp a H1 H2) : Kp a H H2 := fun b o n h => y b o n (x b o n h)
theorem Kp.of {a : Addr} {H H' : Hp} (s : Sub H H') : Kp a H H' := fun b o _ h => s b o h
theorem sub_upd {H : Hp} {p : Addr} {o : HO} (h : H p = none) : Sub H (upd H p o) := fun b u e => by
  rw [upd_ne (ne_of_none e h)]
  exact e
/-- the heap without what stands at O -/
def Off (O : List Addr) (H : Hp) : Hp := fun b => if b ∈ O then none else H b
theorem off_some {O : List Addr} {H : Hp} {b : Addr} {o : HO} : Off O H b = some o ↔ b ∉ O ∧ H b = some o := by
  unfold Off
  by_cases h : b ∈ O
  · rw [if_pos h]
    constructor
    · intro e; cases e
    · intro e; exact absurd h e.1
  · rw [if_neg h]
    constructor
    · intro e; exact ⟨h, e⟩
    · intro e; exact e.2
theorem off_in {O : List Addr} {H : Hp} {b : Addr} {o : HO} (h : b ∉ O) (e : H b = some o) : Off O H b = some o := off_some.mpr ⟨h, e⟩
theorem off_out {O : List Addr} {H : Hp} : Sub (Off O H) H := fun b o e => (off_some.mp e).2
theorem off_kp {a : Addr} {O : List Addr} {H H' : Hp} (k : Kp a H H') : Sub (Off (a :: O) H) (Off (a :: O) H') := fun b o e => by
  obtain ⟨n, e⟩ := off_some.mp e
  exact off_in n (k b o (fun z => n (by rw [z]; exact List.mem_cons_self)) e)
theorem off_sub {O O' : List Addr} {H : Hp} (h : ∀ b ∈ O', b ∈ O) : Sub (Off O H) (Off O' H) := fun b o e => by
  obtain ⟨n, e⟩ := off_some.mp e
  exact off_in (fun z => n (h b z)) e
theorem off_mono {O : List Addr} {H H' : Hp} (s : Sub H H') : Sub (Off O H) (Off O H') := fun b o e => by
  obtain ⟨n, e⟩ := off_some.mp e
  exact off_in n (s b o e)

/-! ### what a value reads as -/
/-- the mark of an exception, told as data -/
def exMark : Int := 2 ^ 2000
def exD (C : Addr) (fs : List (PyData × PyData)) : List (PyData × PyData) := (.int exMark, .int (C : Nat)) :: fs
mutual
inductive Dq (K : PySem.W.Frag) (H : Hp) : V → PyData → Prop
  | non : Dq K H .non .none
  | bl (b : Bool) : Dq K H (.bl b) (.bool b)
  | int (i : Int) : Dq K H (.int i) (.int i)
  | str (x : Str) : Dq K H (.str x) (.str x)
  | lst {a : Addr} {xs : List V} {ds : List PyData} : H a = some (.lst xs) → DqAll K H xs ds → Dq K H (.ref a) (.list ds)
  | tup {a : Addr} {xs : List V} {ds : List PyData} : SqT K H a xs → DqAll K H xs ds → Dq K H (.ref a) (.tuple ds)
  | emp {a : Addr} : H a = some (.dK []) → Dq K H (.ref a) (.dict [])
  | exc0 {e C : Addr} : H e = some (exo e C none) → Dq K H (.ref e) (.dict (exD C []))
  | exc1 {e C dx : Addr} {f : Str} {y : V} {d : PyData} : H e = some (exo e C (some dx)) → H dx = some (exd dx [(f, y)]) → Dq K H y d → Dq K H (.ref e) (.dict (exD C [(.str f, d)]))
inductive DqAll (K : PySem.W.Frag) (H : Hp) : List V → List PyData → Prop
  | nil : DqAll K H [] []
  | cons {v : V} {vs : List V} {d : PyData} {ds : List PyData} : Dq K H v d → DqAll K H vs ds → DqAll K H (v :: vs) (d :: ds)
end
theorem sqt_mono {K : PySem.W.Frag} {H H' : Hp} {a : Addr} {xs : List V} (s : Sub H H') (h : SqT K H a xs) : SqT K H' a xs := by
  rcases h with (h | ⟨o, h⟩) | h
  · exact .inl (.inl (s _ _ h))
  · exact .inl (.inr ⟨o, s _ _ h⟩)
  · exact .inr h
theorem sql_mono {K : PySem.W.Frag} {H H' : Hp} {a : Addr} {xs : List V} (s : Sub H H') (h : SqL K H a xs) : SqL K H' a xs := by
  rcases h with (h | ⟨o, h⟩) | h
  · exact .inl (.inl (s _ _ h))
  · exact .inl (.inr ⟨o, s _ _ h⟩)
  · exact .inr h
mutual
theorem Dq.mono {K : PySem.W.Frag} {H H' : Hp} (s : Sub H H') : ∀ {d : PyData} {v : V}, Dq K H v d → Dq K H' v d
  | _, _, .non => .non
  | _, _, .bl _ => .bl _
  | _, _, .int _ => .int _
  | _, _, .str _ => .str _
  | _, _, .lst h1 h2 => .lst (s _ _ h1) (DqAll.mono s h2)
  | _, _, .tup h1 h2 => .tup (sqt_mono s h1) (DqAll.mono s h2)
  | _, _, .emp h => .emp (s _ _ h)
  | _, _, .exc0 h => .exc0 (s _ _ h)
  | _, _, .exc1 h1 h2 h3 => .exc1 (s _ _ h1) (s _ _ h2) (Dq.mono s h3)
theorem DqAll.mono {K : PySem.W.Frag} {H H' : Hp} (s : Sub H H') : ∀ {ds : List PyData} {vs : List V}, DqAll K H vs ds → DqAll K H' vs ds
  | _, _, .nil => .nil
  | _, _, .cons h1 h2 => .cons (Dq.mono s h1) (DqAll.mono s h2)
end
/-! no exception within -/
mutual
def noX : PyData → Bool
  | .none | .bool _ | .int _ | .str _ => true
  | .list xs | .tuple xs => noXs xs
  | .dict [] => true
  | .dict (_ :: _) => false
def noXs : List PyData → Bool
  | [] => true
  | d :: ds => noX d && noXs ds
end
mutual
theorem noX_plain : ∀ d : PyData, d.plain = true → noX d = true
  | .none, _ | .bool _, _ | .int _, _ | .str _, _ => by simp only [noX]
  | .list xs, h | .tuple xs, h => by
    simp only [PyData.plain] at h
    simp only [noX]
    exact noXs_plain xs h
  | .dict _, h => by simp only [PyData.plain] at h; cases h
theorem noXs_plain : ∀ xs : List PyData, PyData.plainAll xs = true → noXs xs = true
  | [], _ => by simp only [noXs]
  | d :: ds, h => by
    simp only [PyData.plainAll, Bool.and_eq_true] at h
    simp only [noXs, Bool.and_eq_true]
    exact ⟨noX_plain d h.1, noXs_plain ds h.2⟩
end
theorem mark_not : decide (exMark.natAbs.log2 < 1920) = false := by decide +kernel
mutual
theorem Dq.clean {K : PySem.W.Frag} {H : Hp} : ∀ {d : PyData} {v : V}, Dq K H v d → d.showable = true → noX d = true
  | _, _, .non, _ | _, _, .bl _, _ | _, _, .int _, _ | _, _, .str _, _ => by simp only [noX]
  | _, _, .lst _ h2, h => by
    simp only [PyData.showable] at h
    simp only [noX]
    exact DqAll.clean h2 h
  | _, _, .tup _ h2, h => by
    simp only [PyData.showable] at h
    simp only [noX]
    exact DqAll.clean h2 h
  | _, _, .emp _, _ => by simp only [noX]
  | _, _, .exc0 _, h => by
    simp only [exD, PyData.showable, PyData.showableKv, mark_not, Bool.false_and] at h
    cases h
  | _, _, .exc1 _ _ _, h => by
    simp only [exD, PyData.showable, PyData.showableKv, mark_not, Bool.false_and] at h
    cases h
theorem DqAll.clean {K : PySem.W.Frag} {H : Hp} : ∀ {ds : List PyData} {vs : List V}, DqAll K H vs ds → PyData.showableAll ds = true → noXs ds = true
  | _, _, .nil, _ => by simp only [noXs]
  | _, _, .cons h1 h2, h => by
    simp only [PyData.showableAll, Bool.and_eq_true] at h
    simp only [noXs, Bool.and_eq_true]
    exact ⟨Dq.clean h1 h.1, DqAll.clean h2 h.2⟩
end
theorem Dq.to {K : PySem.W.Frag} {H H' : Hp} {d : PyData} {v : V} (h : Dq K H v d) (s : Sub H H') : Dq K H' v d := Dq.mono s h
theorem DqAll.to {K : PySem.W.Frag} {H H' : Hp} {d : List PyData} {v : List V} (h : DqAll K H v d) (s : Sub H H') : DqAll K H' v d := DqAll.mono s h
theorem DqAll.len {K : PySem.W.Frag} {H : Hp} : ∀ {vs : List V} {ds : List PyData}, DqAll K H vs ds → vs.length = ds.length
  | _, _, .nil => rfl
  | _, _, .cons _ t => congrArg (· + 1) (DqAll.len t)
theorem DqAll.app {K : PySem.W.Frag} {H : Hp} : ∀ {vs ws : List V} {ds es : List PyData}, DqAll K H vs ds → DqAll K H ws es → DqAll K H (vs ++ ws) (ds ++ es)
  | _, _, _, _, .nil, h => h
  | _, _, _, _, .cons a t, h => .cons a (DqAll.app t h)
theorem DqAll.at {K : PySem.W.Frag} {H : Hp} : ∀ {vs : List V} {ds : List PyData} {i : Nat} {d : PyData}, DqAll K H vs ds → ds[i]? = some d → ∃ v, vs[i]? = some v ∧ Dq K H v d
  | _, _, _, _, .nil, e => by simp at e
  | _, _, 0, _, .cons h _, e => by simp at e; subst e; exact ⟨_, rfl, h⟩
  | _, _, i + 1, d, .cons _ t, e => by
    obtain ⟨v, h1, h2⟩ := DqAll.at (i := i) (d := d) t (by simpa using e)
    exact ⟨v, by simpa using h1, h2⟩
theorem DqAll.at' {K : PySem.W.Frag} {H : Hp} : ∀ {vs : List V} {ds : List PyData} {i : Nat} {v : V}, DqAll K H vs ds → vs[i]? = some v → ∃ d, ds[i]? = some d ∧ Dq K H v d
  | _, _, _, _, .nil, e => by simp at e
  | _, _, 0, _, .cons h _, e => by simp at e; subst e; exact ⟨_, rfl, h⟩
  | _, _, i + 1, v, .cons _ t, e => by
    obtain ⟨d, h1, h2⟩ := DqAll.at' (i := i) (v := v) t (by simpa using e)
    exact ⟨d, by simpa using h1, h2⟩
theorem DqAll.take {K : PySem.W.Frag} {H : Hp} : ∀ {vs : List V} {ds : List PyData} (n : Nat), DqAll K H vs ds → DqAll K H (vs.take n) (ds.take n)
  | _, _, 0, _ => .nil
  | _, _, _ + 1, .nil => .nil
  | _, _, n + 1, .cons a t => .cons a (DqAll.take n t)
theorem DqAll.drop {K : PySem.W.Frag} {H : Hp} : ∀ {vs : List V} {ds : List PyData} (n : Nat), DqAll K H vs ds → DqAll K H (vs.drop n) (ds.drop n)
  | _, _, 0, h => h
  | _, _, _ + 1, .nil => .nil
  | _, _, n + 1, .cons _ t => DqAll.drop n t
theorem DqAll.set {K : PySem.W.Frag} {H : Hp} {v : V} {d : PyData} (h : Dq K H v d) : ∀ {vs : List V} {ds : List PyData} (n : Nat), DqAll K H vs ds → DqAll K H (vs.set n v) (ds.set n d)
  | _, _, _, .nil => .nil
  | _, _, 0, .cons _ t => .cons h t
  | _, _, n + 1, .cons a t => .cons a (DqAll.set h n t)
theorem DqAll.rev {K : PySem.W.Frag} {H : Hp} : ∀ {vs : List V} {ds : List PyData}, DqAll K H vs ds → DqAll K H vs.reverse ds.reverse
  | _, _, .nil => .nil
  | _, _, .cons a t => by
    rw [List.reverse_cons, List.reverse_cons]
    exact DqAll.app (DqAll.rev t) (.cons a .nil)
theorem DqAll.rep {K : PySem.W.Frag} {H : Hp} {vs : List V} {ds : List PyData} (h : DqAll K H vs ds) : ∀ k : Nat, DqAll K H (List.replicate k vs).flatten (List.replicate k ds).flatten
  | 0 => .nil
  | k + 1 => by
    rw [List.replicate_succ, List.replicate_succ, List.flatten_cons, List.flatten_cons]
    exact DqAll.app h (DqAll.rep h k)

/-! ### the pen, the slots, the relation -/
inductive Sl where
  | un | val (d : PyData) | own (ds : List PyData) | pen
abbrev Rho := List Sl
/-- most takes -/
abbrev LIM : Nat := 4000000000
/-- the pen at a: a list of its cells, how many were begun (at most g), the rest of the last -/
def Pen (K : PySem.W.Frag) (a : Addr) (O : List Addr) (g : Nat) (H : Hp) : Prop :=
  ∃ (c : Addr) (cells : List Int) (k : Nat) (rest : Int), H a = some (.lst [.ref c, .int (k : Int), .int rest]) ∧ Off (a :: O) H c = some (.lst (cells.map V.int)) ∧ cells.length ≤ 12 ∧ k ≤ g
theorem Pen.mono {K : PySem.W.Frag} {a : Addr} {O : List Addr} {g g' : Nat} {H : Hp} (h : Pen K a O g H) (l : g ≤ g') : Pen K a O g' H := by
  obtain ⟨c, cells, k, rest, h1, h2, h3, h4⟩ := h
  exact ⟨c, cells, k, rest, h1, h2, h3, Nat.le_trans h4 l⟩
theorem Pen.to {K : PySem.W.Frag} {a : Addr} {O O' : List Addr} {g : Nat} {H H' : Hp} (h : Pen K a O g H) (s : Sub (Off (a :: O) H) (Off (a :: O') H')) (e : H' a = H a) : Pen K a O' g H' := by
  obtain ⟨c, cells, k, rest, h1, h2, h3, h4⟩ := h
  exact ⟨c, cells, k, rest, by rw [e]; exact h1, s _ _ h2, h3, h4⟩
theorem Pen.live {K : PySem.W.Frag} {a : Addr} {O : List Addr} {g : Nat} {H : Hp} (h : Pen K a O g H) : H a ≠ none := by
  obtain ⟨c, cells, k, rest, h1, _⟩ := h
  rw [h1]
  exact fun z => nomatch z

def SlotR (K : PySem.W.Frag) (a : Addr) (H0 : Hp) (O : List Addr) (H : Hp) : Sl → Option (Option V) → Prop
  | .un, _ => True
  | .val d, o => ∃ v, o = some (some v) ∧ Dq K (Off (a :: O) H) v d
  | .own ds, o => ∃ p xs, o = some (some (.ref p)) ∧ p ∈ O ∧ H0 p = none ∧ H p = some (.lst xs) ∧ DqAll K (Off (a :: O) H) xs ds
  | .pen, o => o = some (some (.ref a))
/-- the state: a the pen, H0 the heap at the entry, O0 what is hidden at the entry; O what is hidden now, ρ the slots' data -/
structure Rl (K : PySem.W.Frag) (a : Addr) (H0 : Hp) (O0 O : List Addr) (ρ : Rho) (g : Nat) (σ : L2.St) (H : Hp) : Prop where
  keep : Kp a H0 H
  pen : Pen K a O g H
  sub : ∀ p ∈ O0, p ∈ O
  new : ∀ p ∈ O, p ∈ O0 ∨ H0 p = none
  noA : a ∉ O
  live : ∀ p ∈ O, H p ≠ none
  live0 : ∀ p ∈ O0, H0 p ≠ none
  len : ρ.length = σ.length
  slot : ∀ (i : Nat) (s : Sl), ρ[i]? = some s → SlotR K a H0 O H s σ[i]?
  inj : ∀ (i j : Nat) (ds es : List PyData) (o : Option V), ρ[i]? = some (Sl.own ds) → ρ[j]? = some (Sl.own es) → σ[i]? = some o → σ[j]? = some o → i = j
section
variable {K : PySem.W.Frag} {a : Addr} {H0 H H' : Hp} {O0 O : List Addr} {ρ : Rho} {g g' : Nat} {σ : L2.St}
theorem Rl.liveA (r : Rl K a H0 O0 O ρ g σ H) : ∀ p ∈ a :: O, H p ≠ none := fun p hp => by
  rcases List.mem_cons.mp hp with rfl | hp
  · exact r.pen.live
  · exact r.live p hp
theorem Rl.freshA (r : Rl K a H0 O0 O ρ g σ H) {p : Addr} (h : H p = none) : p ∉ a :: O := fun hp => r.liveA p hp h
/-- the heap goes on, the pen may have turned -/
theorem Rl.step (r : Rl K a H0 O0 O ρ g σ H) (k : Kp a H H') (p : Pen K a O g' H') : Rl K a H0 O0 O ρ g' σ H' where
  keep := r.keep.trans k
  pen := p
  sub := r.sub
  new := r.new
  noA := r.noA
  live := fun q hq e => by
    cases h : H q with
    | none => exact r.live q hq h
    | some o =>
      rw [k q o (fun z => r.noA (z ▸ hq)) h] at e
      cases e
  live0 := r.live0
  len := r.len
  slot := fun i s hs => by
    have h := r.slot i s hs
    cases s with
    | un => trivial
    | val d =>
      obtain ⟨v, e, h⟩ := h
      exact ⟨v, e, h.to (off_kp k)⟩
    | own ds =>
      obtain ⟨q, xs, e, hq, hn, hx, h⟩ := h
      exact ⟨q, xs, e, hq, hn, k q _ (fun z => r.noA (z ▸ hq)) hx, h.to (off_kp k)⟩
    | pen => exact h
  inj := r.inj
theorem Rl.ext (r : Rl K a H0 O0 O ρ g σ H) (s : Sub H H') : Rl K a H0 O0 O ρ g σ H' :=
  r.step (Kp.of s) (r.pen.to (off_kp (Kp.of s)) (by
    cases h : H a with
    | none => exact absurd h r.pen.live
    | some o => exact s a o h))
theorem Rl.more (r : Rl K a H0 O0 O ρ g σ H) (l : g ≤ g') : Rl K a H0 O0 O ρ g' σ H := r.step (Kp.refl _ _) (r.pen.mono l)
theorem Rl.val (r : Rl K a H0 O0 O ρ g σ H) {i : Nat} {d : PyData} (h : ρ[i]? = some (Sl.val d)) : ∃ v, σ[i]? = some (some v) ∧ Dq K (Off (a :: O) H) v d := r.slot i _ h
/-- a slot gets a value -/
theorem Rl.setVal (r : Rl K a H0 O0 O ρ g σ H) {i : Nat} {v : V} {d : PyData} (h : Dq K (Off (a :: O) H) v d) : Rl K a H0 O0 O (ρ.set i (.val d)) g (σ.set i (some v)) H where
  keep := r.keep
  pen := r.pen
  sub := r.sub
  new := r.new
  noA := r.noA
  live := r.live
  live0 := r.live0
  len := by rw [List.length_set, List.length_set]; exact r.len
  slot := fun j s hs => by
    by_cases hj : i = j
    · subst hj
      have hl : i < ρ.length := by
        have := (List.getElem?_eq_some_iff.mp hs).1
        rw [List.length_set] at this
        exact this
      rw [List.getElem?_set_self hl] at hs
      cases hs
      rw [List.getElem?_set_self (by rw [← r.len]; exact hl)]
      exact ⟨v, rfl, h⟩
    · rw [List.getElem?_set_ne hj] at hs
      rw [List.getElem?_set_ne hj]
      exact r.slot j s hs
  inj := fun j k ds es o h1 h2 e1 e2 => by
    have nj : i ≠ j := fun z => by
      subst z
      have hl : i < ρ.length := by
        have := (List.getElem?_eq_some_iff.mp h1).1
        rw [List.length_set] at this
        exact this
      rw [List.getElem?_set_self hl] at h1
      cases h1
    have nk : i ≠ k := fun z => by
      subst z
      have hl : i < ρ.length := by
        have := (List.getElem?_eq_some_iff.mp h2).1
        rw [List.length_set] at this
        exact this
      rw [List.getElem?_set_self hl] at h2
      cases h2
    rw [List.getElem?_set_ne nj] at h1 e1
    rw [List.getElem?_set_ne nk] at h2 e2
    exact r.inj j k ds es o h1 h2 e1 e2
theorem Rl.freshH (r : Rl K a H0 O0 O ρ g σ H) {p : Addr} (h : H p = none) : H0 p = none := by
  cases e : H0 p with
  | none => rfl
  | some o =>
    have n : p ≠ a := fun z => r.pen.live (z ▸ h)
    rw [r.keep p o n e] at h
    cases h
theorem off_new {o : HO} {p : Addr} (hp : H p = none) : Sub (Off (a :: O) H) (Off (a :: p :: O) (upd H p o)) := fun b u e => by
  obtain ⟨n, e⟩ := off_some.mp e
  have nb : b ≠ p := ne_of_none e hp
  refine off_in (fun z => ?_) (by rw [upd_ne nb]; exact e)
  rcases List.mem_cons.mp z with z | z
  · exact n (by rw [z]; exact List.mem_cons_self)
  · rcases List.mem_cons.mp z with z | z
    · exact nb z
    · exact n (List.mem_cons_of_mem _ z)
theorem off_shed {p : Addr} : Sub (Off (a :: p :: O) H) (Off (a :: O) H) := off_sub fun b hb => by
  rcases List.mem_cons.mp hb with z | z
  · rw [z]; exact List.mem_cons_self
  · exact List.mem_cons_of_mem _ (List.mem_cons_of_mem _ z)
/-- a new object is laid and hidden -/
theorem Rl.hide (r : Rl K a H0 O0 O ρ g σ H) {p : Addr} {o : HO} (hp : H p = none) : Rl K a H0 O0 (p :: O) ρ g σ (upd H p o) where
  keep := r.keep.trans (Kp.of (sub_upd hp))
  pen := r.pen.to (off_new hp) (upd_ne fun z => r.pen.live (by rw [z]; exact hp))
  sub := fun q hq => List.mem_cons_of_mem _ (r.sub q hq)
  new := fun q hq => by
    rcases List.mem_cons.mp hq with rfl | hq
    · exact .inr (r.freshH hp)
    · exact r.new q hq
  noA := fun hq => by
    rcases List.mem_cons.mp hq with e | hq
    · exact r.pen.live (by rw [e]; exact hp)
    · exact r.noA hq
  live := fun q hq => by
    rcases List.mem_cons.mp hq with rfl | hq
    · rw [upd_same]; exact fun z => nomatch z
    · intro e
      by_cases z : q = p
      · exact r.live q hq (by rw [z]; exact hp)
      · rw [upd_ne z] at e
        exact r.live q hq e
  live0 := r.live0
  len := r.len
  slot := fun i s hs => by
    have h := r.slot i s hs
    cases s with
    | un => trivial
    | val d =>
      obtain ⟨v, e, h⟩ := h
      exact ⟨v, e, h.to (off_new hp)⟩
    | own ds =>
      obtain ⟨q, xs, e, hq, hn, hx, h⟩ := h
      exact ⟨q, xs, e, List.mem_cons_of_mem _ hq, hn, by rw [upd_ne (ne_of_none hx hp)]; exact hx, h.to (off_new hp)⟩
    | pen => exact h
  inj := r.inj
/-- what was hidden for a time is hidden no more -/
theorem Rl.unhide {p : Addr} {g0 : Nat} (r0 : Rl K a H0 O0 O ρ g0 σ H) (r : Rl K a H0 O0 (p :: O) ρ g σ H') : Rl K a H0 O0 O ρ g σ H' where
  keep := r.keep
  pen := r.pen.to off_shed rfl
  sub := r0.sub
  new := r0.new
  noA := r0.noA
  live := fun q hq => r.live q (List.mem_cons_of_mem _ hq)
  live0 := r.live0
  len := r.len
  slot := fun i s hs => by
    have h := r.slot i s hs
    cases s with
    | un => trivial
    | val d =>
      obtain ⟨v, e, h⟩ := h
      exact ⟨v, e, h.to off_shed⟩
    | own ds =>
      obtain ⟨q, xs, e, hq, hn, hx, h⟩ := h
      obtain ⟨q', _, e', hq', _⟩ := r0.slot i _ hs
      rw [e] at e'
      cases e'
      exact ⟨q, xs, e, hq', hn, hx, h.to off_shed⟩
    | pen => exact h
  inj := r.inj
theorem set_slot {ρ : Rho} {i j : Nat} {s t : Sl} (hj : (ρ.set i t)[j]? = some s) : (i = j ∧ s = t ∧ i < ρ.length) ∨ (i ≠ j ∧ ρ[j]? = some s) := by
  by_cases h : i = j
  · subst h
    have hl : i < ρ.length := by
      have := (List.getElem?_eq_some_iff.mp hj).1
      rw [List.length_set] at this
      exact this
    rw [List.getElem?_set_self hl] at hj
    cases hj
    exact .inl ⟨rfl, rfl, hl⟩
  · rw [List.getElem?_set_ne h] at hj
    exact .inr ⟨h, hj⟩
/-- a hidden list that no slot has becomes a slot's own -/
theorem Rl.setOwn (r : Rl K a H0 O0 O ρ g σ H) {i : Nat} {p : Addr} {xs : List V} {ds : List PyData} (hO : p ∈ O) (hn : H0 p = none) (hp : H p = some (.lst xs)) (h : DqAll K (Off (a :: O) H) xs ds)
    (hno : ∀ (j : Nat) (es : List PyData), j ≠ i → ρ[j]? = some (Sl.own es) → σ[j]? ≠ some (some (.ref p))) : Rl K a H0 O0 O (ρ.set i (.own ds)) g (σ.set i (some (.ref p))) H where
  keep := r.keep
  pen := r.pen
  sub := r.sub
  new := r.new
  noA := r.noA
  live := r.live
  live0 := r.live0
  len := by rw [List.length_set, List.length_set]; exact r.len
  slot := fun j s hs => by
    rcases set_slot hs with ⟨rfl, rfl, hl⟩ | ⟨hj, hs⟩
    · rw [List.getElem?_set_self (by rw [← r.len]; exact hl)]
      exact ⟨p, xs, rfl, hO, hn, hp, h⟩
    · rw [List.getElem?_set_ne hj]
      exact r.slot j s hs
  inj := fun j k ds' es o h1 h2 e1 e2 => by
    rcases set_slot h1 with ⟨rfl, _, hl⟩ | ⟨hj, h1⟩
    · rcases set_slot h2 with ⟨rfl, _, _⟩ | ⟨hk, h2⟩
      · rfl
      · rw [List.getElem?_set_self (by rw [← r.len]; exact hl)] at e1
        cases e1
        rw [List.getElem?_set_ne hk] at e2
        exact absurd e2 (hno k es (Ne.symm hk) h2)
    · rcases set_slot h2 with ⟨rfl, _, hl⟩ | ⟨hk, h2⟩
      · rw [List.getElem?_set_self (by rw [← r.len]; exact hl)] at e2
        cases e2
        rw [List.getElem?_set_ne hj] at e1
        exact absurd e1 (hno j ds' (Ne.symm hj) h1)
      · rw [List.getElem?_set_ne hj] at e1
        rw [List.getElem?_set_ne hk] at e2
        exact r.inj j k ds' es o h1 h2 e1 e2
/-- a slot's own list becomes plain data: it is hidden no more -/
theorem Rl.disown (r : Rl K a H0 O0 O ρ g σ H) {i : Nat} {ds : List PyData} (hi : ρ[i]? = some (.own ds)) :
    ∃ O', Sub (Off (a :: O) H) (Off (a :: O') H) ∧ Rl K a H0 O0 O' (ρ.set i (.val (.list ds))) g σ H := by
  obtain ⟨p, xs, e, hp, hn, hx, h⟩ := r.slot i _ hi
  have h0 : p ∉ O0 := fun z => r.live0 p z hn
  have sb : Sub (Off (a :: O) H) (Off (a :: O.filter (fun q => decide (q ≠ p))) H) := off_sub fun b hb => by
    rcases List.mem_cons.mp hb with z | z
    · rw [z]; exact List.mem_cons_self
    · exact List.mem_cons_of_mem _ (List.mem_filter.mp z).1
  have ofil : ∀ {q : Addr}, q ∈ O → q ≠ p → q ∈ O.filter (fun q => decide (q ≠ p)) := fun {q} h1 h2 => List.mem_filter.mpr ⟨h1, decide_eq_true h2⟩
  have fo : ∀ {q : Addr}, q ∈ O.filter (fun q => decide (q ≠ p)) → q ∈ O := fun {q} h1 => (List.mem_filter.mp h1).1
  have npa : p ≠ a := fun z => r.noA (z ▸ hp)
  have out : p ∉ a :: O.filter (fun q => decide (q ≠ p)) := fun hq => by
    rcases List.mem_cons.mp hq with z | z
    · exact npa z
    · exact absurd rfl (of_decide_eq_true (List.mem_filter.mp z).2)
  have hl : i < ρ.length := (List.getElem?_eq_some_iff.mp hi).1
  refine ⟨_, sb, ⟨r.keep, r.pen.to sb rfl, fun q hq => ofil (r.sub q hq) fun z => h0 (z ▸ hq), fun q hq => r.new q (fo hq), fun hq => r.noA (fo hq), fun q hq => r.live q (fo hq), r.live0, by rw [List.length_set]; exact r.len, fun j s hs => ?_, fun j k ds' es o h1 h2 e1 e2 => ?_⟩⟩
  · rcases set_slot hs with ⟨rfl, rfl, _⟩ | ⟨hj, hs⟩
    · exact ⟨.ref p, e, .lst (off_in out hx) (h.to sb)⟩
    · have q := r.slot j s hs
      cases s with
      | un => trivial
      | val d =>
        obtain ⟨v, e', h'⟩ := q
        exact ⟨v, e', h'.to sb⟩
      | own es =>
        obtain ⟨q, ys, e', hq, hn', hx', h'⟩ := q
        refine ⟨q, ys, e', ofil hq fun z => hj ?_, hn', hx', h'.to sb⟩
        exact r.inj i j ds es _ hi hs e (by rw [e', z])
      | pen => exact q
  · rcases set_slot h1 with ⟨_, z, _⟩ | ⟨_, h1⟩
    · cases z
    · rcases set_slot h2 with ⟨_, z, _⟩ | ⟨_, h2⟩
      · cases z
      · exact r.inj j k ds' es o h1 h2 e1 e2
end
end Vl
/-! V1: judgements over data; expressions. -/
namespace Vl
open PySem PySem.Spec PyProof.Rows L2

abbrev WE := Rho → Nat → (PyData → Nat → Prop) → Prop
abbrev WL := Rho → Nat → (List PyData → Nat → Prop) → Prop
abbrev WT := Rho → Nat → (Bool → Nat → Prop) → Prop
abbrev WP := Rho → Nat → (Rho → Nat → Prop) → Prop
/-- an expression's value reads as data -/
def tE (K : PySem.W.Frag) (W : WE) : TE := fun σ H Q => ∃ (a : Addr) (H0 : Hp) (O0 O : List Addr) (ρ : Rho) (g : Nat) (R : PyData → Nat → Prop), Rl K a H0 O0 O ρ g σ H ∧ W ρ g R ∧
  ∀ d g' v H', Kp a H H' → Rl K a H0 O0 O ρ g' σ H' → Dq K (Off (a :: O) H') v d → R d g' → Q v H'
/-- an expression's value is a new list -/
def tL (K : PySem.W.Frag) (W : WL) : TE := fun σ H Q => ∃ (a : Addr) (H0 : Hp) (O0 O : List Addr) (ρ : Rho) (g : Nat) (R : List PyData → Nat → Prop), Rl K a H0 O0 O ρ g σ H ∧ W ρ g R ∧
  ∀ ds g' p xs H', Kp a H H' → Rl K a H0 O0 (p :: O) ρ g' σ H' → H p = none → H' p = some (.lst xs) → DqAll K (Off (a :: p :: O) H') xs ds → R ds g' → Q (.ref p) H'
def tT (K : PySem.W.Frag) (W : WT) : TT := fun σ H Q => ∃ (a : Addr) (H0 : Hp) (O0 O : List Addr) (ρ : Rho) (g : Nat) (R : Bool → Nat → Prop), Rl K a H0 O0 O ρ g σ H ∧ W ρ g R ∧
  ∀ b g' H', Kp a H H' → Rl K a H0 O0 O ρ g' σ H' → R b g' → Q b H'
/-- items, arguments -/
def tA (K : PySem.W.Frag) (W : WL) : TA := fun σ H Q => ∃ (a : Addr) (H0 : Hp) (O0 O : List Addr) (ρ : Rho) (g : Nat) (R : List PyData → Nat → Prop), Rl K a H0 O0 O ρ g σ H ∧ W ρ g R ∧
  ∀ ds g' vs H', Kp a H H' → Rl K a H0 O0 O ρ g' σ H' → DqAll K (Off (a :: O) H') vs ds → R ds g' → Q vs H'
/-- arguments of a call of a def: data, or the pen -/
inductive ArgsR (K : PySem.W.Frag) (a : Addr) (H : Hp) : List V → Rho → Prop
  | nil : ArgsR K a H [] []
  | val {v : V} {d : PyData} {vs : List V} {as : Rho} : Dq K H v d → ArgsR K a H vs as → ArgsR K a H (v :: vs) (.val d :: as)
  | pen {vs : List V} {as : Rho} : ArgsR K a H vs as → ArgsR K a H (.ref a :: vs) (.pen :: as)
theorem ArgsR.to {K : PySem.W.Frag} {a : Addr} {H H' : Hp} (s : Sub H H') : ∀ {vs : List V} {as : Rho}, ArgsR K a H vs as → ArgsR K a H' vs as
  | _, _, .nil => .nil
  | _, _, .val h t => .val (h.to s) (ArgsR.to s t)
  | _, _, .pen t => .pen (ArgsR.to s t)
theorem ArgsR.len {K : PySem.W.Frag} {a : Addr} {H : Hp} : ∀ {vs : List V} {as : Rho}, ArgsR K a H vs as → vs.length = as.length
  | _, _, .nil => rfl
  | _, _, .val _ t => congrArg (· + 1) (ArgsR.len t)
  | _, _, .pen t => congrArg (· + 1) (ArgsR.len t)
def tP (K : PySem.W.Frag) (W : WP) : TA := fun σ H Q => ∃ (a : Addr) (H0 : Hp) (O0 O : List Addr) (ρ : Rho) (g : Nat) (R : Rho → Nat → Prop), Rl K a H0 O0 O ρ g σ H ∧ W ρ g R ∧
  ∀ as g' vs H', Kp a H H' → Rl K a H0 O0 O ρ g' σ H' → ArgsR K a (Off (a :: O) H') vs as → R as g' → Q vs H'

abbrev VE (X : Cx) (e : Expr) (W : WE) : Prop := PE X e (tE X.K W)
abbrev VL (X : Cx) (e : Expr) (W : WL) : Prop := PE X e (tL X.K W)
abbrev VT (X : Cx) (e : Expr) (W : WT) : Prop := PT X e (tT X.K W)
abbrev VW (X : Cx) (e : Expr) (W : WT) : Prop := PW X e (tT X.K W)
abbrev VA (X : Cx) (es : List Expr) (W : WL) : Prop := PA X es (tA X.K W)
abbrev VP (X : Cx) (es : List Expr) (W : WP) : Prop := PA X es (tP X.K W)

section
variable {X : Cx} {e a b c : Expr} {es rest : List Expr} {pos : Pos} {t t' : TE} {W Wa Wb Wc : WE}
theorem pe_weak (h : PE X e t) (w : ∀ σ H Q, t' σ H Q → t σ H Q) : PE X e t' := ⟨fun pins s σ H Q I q => h.run pins s σ H Q I (w σ H Q q)⟩
theorem pt_weak {t t' : TT} (h : PT X e t) (w : ∀ σ H Q, t' σ H Q → t σ H Q) : PT X e t' := ⟨fun pins s σ H Q I q => h.run pins s σ H Q I (w σ H Q q)⟩
theorem pw_weak {t t' : TT} (h : PW X e t) (w : ∀ σ H Q, t' σ H Q → t σ H Q) : PW X e t' := ⟨fun whole pins s σ H Q I q => h.run whole pins s σ H Q I (w σ H Q q)⟩
theorem pa_weak {t t' : TA} (h : PA X es t) (w : ∀ σ H Q, t' σ H Q → t σ H Q) : PA X es t' := ⟨fun pos pins s σ H Q I q => h.run pos pins s σ H Q I (w σ H Q q)⟩

/-! ### names, constants -/
def wVar (i : Nat) : WE := fun ρ g R => match ρ[i]? with
  | some (.val d) => R d g
  | _ => False
theorem wVar_of {i : Nat} {ρ : Rho} {g : Nat} {R : PyData → Nat → Prop} (h : wVar i ρ g R) : ∃ d, ρ[i]? = some (.val d) ∧ R d g := by
  unfold wVar at h
  split at h
  · rename_i d e
    exact ⟨d, e, h⟩
  · exact h.elim
theorem v_of_var {i : Nat} (h : PE X e (tVar i)) : VE X e (wVar i) := pe_weak h fun σ H Q ⟨a, H0, O0, O, ρ, g, R, r, w, q⟩ => by
  obtain ⟨d, hd, hR⟩ := wVar_of w
  obtain ⟨v, hv, dv⟩ := r.val hd
  exact ⟨v, hv, q d g v H (Kp.refl _ _) r dv hR⟩
theorem vv (i : Nat) {x : Str} {pos : Pos} (hN : X.N[i]? = some x := by rfl) (hv : Vis X.env.scope x := by first | exact Or.inl rfl | exact Or.inr (Or.inl rfl) | exact Or.inr (Or.inr rfl)) (hd : (x == ("__debug__" : Str)) = false := by decide)
    (hcd : (x == ("__classdict__" : Str)) = false := by decide) : VE X (.Name x pos) (wVar i) := v_of_var (pe_var hN hv hd hcd)
def wC (d : PyData) : WE := fun _ g R => R d g
theorem v_of_c {v : V} {d : PyData} (h : PE X e (tC v)) (hd : ∀ K H, Dq K H v d) : VE X e (wC d) := pe_weak h fun σ H Q ⟨a, H0, O0, O, ρ, g, R, r, w, q⟩ => q d g v H (Kp.refl _ _) r (hd _ _) w
theorem v_int {i : Int} {j pos} : VE X (.Constant (.int i) j pos) (wC (.int i)) := v_of_c pe_int fun _ _ => .int i
theorem v_bl {i : Bool} {j pos} : VE X (.Constant (.bool i) j pos) (wC (.bool i)) := v_of_c pe_bl fun _ _ => .bl i
theorem v_non {j pos} : VE X (.Constant .none j pos) (wC .none) := v_of_c pe_non fun _ _ => .non
theorem v_str {x : Str} {j pos} : VE X (.Constant (.str x) j pos) (wC (.str x)) := v_of_c pe_str fun _ _ => .str x

/-! ### items, arguments, displays -/
def wNil : WL := fun _ g R => R [] g
def wCons (W : WE) (V : WL) : WL := fun ρ g R => W ρ g fun d g1 => V ρ g1 fun ds g2 => R (d :: ds) g2
theorem va_nil : VA X [] wNil := pa_weak pa_nil fun σ H Q ⟨a, H0, O0, O, ρ, g, R, r, w, q⟩ => q [] g [] H (Kp.refl _ _) r .nil w
theorem va_cons {V : WL} (h : VE X e W) (t : VA X es V) (hs : starEach (e :: es) X.env = (false, eval e X.env) :: starEach es X.env := by rfl) : VA X (e :: es) (wCons W V) :=
  pa_weak (pa_cons h t hs) fun σ H Q ⟨a, H0, O0, O, ρ, g, R, r, w, q⟩ => ⟨a, H0, O0, O, ρ, g, _, r, w, fun d g1 v H1 k1 r1 d1 w1 => ⟨a, H0, O0, O, ρ, g1, _, r1, w1, fun ds g2 vs H2 k2 r2 d2 w2 =>
    q (d :: ds) g2 (v :: vs) H2 (k1.trans k2) r2 (.cons (d1.to (off_kp k2)) d2) w2⟩⟩
def pNil : WP := fun _ g R => R [] g
def pCons (W : WE) (V : WP) : WP := fun ρ g R => W ρ g fun d g1 => V ρ g1 fun ds g2 => R (.val d :: ds) g2
def pPen (i : Nat) (V : WP) : WP := fun ρ g R => ρ[i]? = some .pen ∧ V ρ g fun ds g2 => R (.pen :: ds) g2
theorem vp_nil : VP X [] pNil := pa_weak pa_nil fun σ H Q ⟨a, H0, O0, O, ρ, g, R, r, w, q⟩ => q [] g [] H (Kp.refl _ _) r .nil w
theorem vp_cons {V : WP} (h : VE X e W) (t : VP X es V) (hs : starEach (e :: es) X.env = (false, eval e X.env) :: starEach es X.env := by rfl) : VP X (e :: es) (pCons W V) :=
  pa_weak (pa_cons h t hs) fun σ H Q ⟨a, H0, O0, O, ρ, g, R, r, w, q⟩ => ⟨a, H0, O0, O, ρ, g, _, r, w, fun d g1 v H1 k1 r1 d1 w1 => ⟨a, H0, O0, O, ρ, g1, _, r1, w1, fun ds g2 vs H2 k2 r2 d2 w2 =>
    q (.val d :: ds) g2 (v :: vs) H2 (k1.trans k2) r2 (.val (d1.to (off_kp k2)) d2) w2⟩⟩
theorem vp_pen (i : Nat) {V : WP} {x : Str} {pos : Pos} (t : VP X es V) (hN : X.N[i]? = some x := by rfl) (hv : Vis X.env.scope x := by first | exact Or.inl rfl | exact Or.inr (Or.inl rfl) | exact Or.inr (Or.inr rfl)) (hd : (x == ("__debug__" : Str)) = false := by decide)
    (hcd : (x == ("__classdict__" : Str)) = false := by decide) (hs : starEach (.Name x pos :: es) X.env = (false, eval (.Name x pos) X.env) :: starEach es X.env := by rfl) : VP X (.Name x pos :: es) (pPen i V) :=
  pa_weak (pa_cons (pe_var hN hv hd hcd) t hs) fun σ H Q ⟨a, H0, O0, O, ρ, g, R, r, w, q⟩ => ⟨.ref a, r.slot i _ w.1, a, H0, O0, O, ρ, g, _, r, w.2, fun ds g2 vs H2 k2 r2 d2 w2 =>
    q (.pen :: ds) g2 (.ref a :: vs) H2 k2 r2 (.pen d2) w2⟩
def wTup (V : WL) : WE := fun ρ g R => V ρ g fun ds g1 => ds.length ≤ sizeLine ∧ R (.tuple ds) g1
theorem v_tup {V : WL} {x1} (h : VA X es V) : VE X (.Tuple es x1 pos) (wTup V) :=
  pe_weak (pe_tup h) fun σ H Q ⟨a, H0, O0, O, ρ, g, R, r, w, q⟩ => ⟨a, H0, O0, O, ρ, g, _, r, w, fun ds g1 vs H1 k1 r1 d1 w1 => ⟨by rw [d1.len]; exact w1.1, fun p hp => by
    have s := sub_upd (o := .tup vs) hp
    exact q (.tuple ds) g1 (.ref p) _ (k1.trans (Kp.of s)) (r1.ext s) (.tup (.inl (.inl (off_in (r1.freshA hp) upd_same))) (d1.to (off_mono s))) w1.2⟩⟩
def lLst (V : WL) : WL := fun ρ g R => V ρ g fun ds g1 => ds.length ≤ sizeLine ∧ R ds g1
theorem vl_lst {V : WL} (h : VA X es V) : VL X (.List es pos) (lLst V) :=
  pe_weak (pe_lst h) fun σ H Q ⟨a, H0, O0, O, ρ, g, R, r, w, q⟩ => ⟨a, H0, O0, O, ρ, g, _, r, w, fun ds g1 vs H1 k1 r1 d1 w1 => ⟨by rw [d1.len]; exact w1.1, fun p hp => by
    have s := sub_upd (o := .lst vs) hp
    have hp0 : H p = none := by
      cases e : H p with
      | none => rfl
      | some o =>
        by_cases z : p = a
        · exact absurd hp (r1.liveA p (by rw [z]; exact List.mem_cons_self))
        · rw [k1 p o z e] at hp
          cases hp
    exact q ds g1 p vs _ (k1.trans (Kp.of s)) (r1.hide hp) hp0 upd_same (d1.to (off_new hp)) w1.2⟩⟩
/-- a new list, as data -/
def wL (V : WL) : WE := fun ρ g R => V ρ g fun ds g1 => R (.list ds) g1
theorem v_l {V : WL} (h : VL X e V) : VE X e (wL V) :=
  pe_weak h fun σ H Q ⟨a, H0, O0, O, ρ, g, R, r, w, q⟩ => ⟨a, H0, O0, O, ρ, g, _, r, w, fun ds g1 p xs H1 k1 r1 hp hx d1 w1 => by
    exact q (.list ds) g1 (.ref p) H1 k1 (r.unhide r1) (.lst (off_in (r.freshA hp) hx) (d1.to off_shed)) w1⟩
theorem v_lst {V : WL} (h : VA X es V) : VE X (.List es pos) (wL (lLst V)) := v_l (vl_lst h)

/-! ### operators by data -/
abbrev F2 := PyData → PyData → (PyData → Prop) → Prop
/-- the operation r, told over data by f -/
def OpS (K : PySem.W.Frag) (r : R2) (f : F2) : Prop := ∀ (A : List Addr) (H : Hp) (x y : V) (dx dy : PyData) (R : PyData → Prop) (Q : VK), (∀ p ∈ A, H p ≠ none) → Dq K (Off A H) x dx → Dq K (Off A H) y dy → f dx dy R →
  (∀ z dz H', Sub H H' → Dq K (Off A H') z dz → R dz → Q z H') → r x y H Q
theorem OpS.or1 {K : PySem.W.Frag} {r r' : R2} {f f' : F2} (h : OpS K r f) (h' : OpS K r' f') : OpS K (fun x y H Q => r x y H Q ∨ r' x y H Q) (fun x y R => f x y R ∨ f' x y R) :=
  fun A H x y dx dy R Q hA hx hy w q => by
    rcases w with w | w
    · exact .inl (h A H x y dx dy R Q hA hx hy w q)
    · exact .inr (h' A H x y dx dy R Q hA hx hy w q)
theorem OpS.weak {K : PySem.W.Frag} {r : R2} {f f' : F2} (h : OpS K r f) (w : ∀ x y R, f' x y R → f x y R) : OpS K r f' := fun A H x y dx dy R Q hA hx hy wf q => h A H x y dx dy R Q hA hx hy (w _ _ _ wf) q
def wOp (f : F2) (Wa Wb : WE) : WE := fun ρ g R => Wa ρ g fun x g1 => Wb ρ g1 fun y g2 => f x y fun z => R z g2
theorem tE_op {K : PySem.W.Frag} {r : R2} {f : F2} (hf : OpS K r f) {Wa Wb : WE} : ∀ σ H Q, tE K (wOp f Wa Wb) σ H Q → tOp r (tE K Wa) (tE K Wb) σ H Q :=
  fun σ H Q ⟨a, H0, O0, O, ρ, g, R, r, w, q⟩ => ⟨a, H0, O0, O, ρ, g, _, r, w, fun d g1 v H1 k1 r1 d1 w1 => ⟨a, H0, O0, O, ρ, g1, _, r1, w1, fun d' g2 v' H2 k2 r2 d2 w2 =>
    hf (a :: O) H2 v v' d d' _ Q r2.liveA (d1.to (off_kp k2)) d2 w2 fun z dz H3 s hz hR => q dz g2 z H3 ((k1.trans k2).trans (Kp.of s)) (r2.ext s) hz hR⟩⟩
theorem v_bin {op : Operator} {r : R2} {f : F2} (ho : OpR X (binaryOp op) r) (hf : OpS X.K r f) (ha : VE X a Wa) (hb : VE X b Wb) : VE X (.BinOp a op b pos) (wOp f Wa Wb) := pe_weak (pe_op ho ha hb) (tE_op hf)
theorem v_cmp {op : CmpOp} {r : R2} {f : F2} (ho : OpR X (compareOp op) r) (hf : OpS X.K r f) (ha : VE X a Wa) (hb : VE X b Wb) (hm : behindInMarks op b = false) : VE X (.Compare a [op] [b] pos) (wOp f Wa Wb) := pe_weak (pe_cmpR ho ha hb hm) (tE_op hf)
/-- a bool, as a test -/
def wB (W : WE) : WT := fun ρ g R => W ρ g fun d g1 => match d with
  | .bool k => R k g1
  | _ => False
theorem tT_of {K : PySem.W.Frag} {W : WE} : ∀ σ H Q, tT K (wB W) σ H Q → tE K W σ H fun x H' => ∃ k, x = .bl k ∧ Q k H' :=
  fun σ H Q ⟨a, H0, O0, O, ρ, g, R, r, w, q⟩ => ⟨a, H0, O0, O, ρ, g, _, r, w, fun d g1 v H1 k1 r1 d1 w1 => by
    cases d with
    | bool k =>
      cases d1
      exact ⟨k, rfl, q k g1 H1 k1 r1 w1⟩
    | _ => exact w1.elim⟩
theorem tE_mono {K : PySem.W.Frag} {W : WE} {σ : L2.St} {H : Hp} {Q Q' : VK} (h : tE K W σ H Q) (k : ∀ v H', Q v H' → Q' v H') : tE K W σ H Q' := by
  obtain ⟨a, H0, O0, O, ρ, g, R, r, w, q⟩ := h
  exact ⟨a, H0, O0, O, ρ, g, R, r, w, fun d g' v H' h1 h2 h3 h4 => k _ _ (q d g' v H' h1 h2 h3 h4)⟩
theorem t_cmp {op : CmpOp} {r : R2} {f : F2} (ho : OpR X (compareOp op) r) (hf : OpS X.K r f) (ha : VE X a Wa) (hb : VE X b Wb) (hm : behindInMarks op b = false) : VT X (.Compare a [op] [b] pos) (wB (wOp f Wa Wb)) :=
  pt_weak (pt_cmpR ho ha hb hm) fun σ H Q h => tE_op hf σ H _ (tT_of σ H Q h)
/-- a value of which the test is its truth (a name, a call) -/
theorem t_val (h : VE X e W) (he : ∀ whole, isTrue e X.env whole = (do let v ← whole; standAt e.pos; holding [v] (truthy v)) := by intro _; rfl) : VT X e (wB W) := pt_weak (pt_val h he) tT_of
/-- a < b < c -/
def wChain (f f' : F2) (Wa Wb Wc : WE) : WE := fun ρ g R => Wa ρ g fun x g1 => Wb ρ g1 fun y g2 => f x y fun z => match z with
  | .bool true => Wc ρ g2 fun w g3 => f' y w fun u => R u g3
  | .bool false => R (.bool false) g2
  | _ => False
theorem tE_chain {K : PySem.W.Frag} {r r' : R2} {f f' : F2} (hf : OpS K r f) (hf' : OpS K r' f') {Wa Wb Wc : WE} : ∀ σ H Q, tE K (wChain f f' Wa Wb Wc) σ H Q → tChain r r' (tE K Wa) (tE K Wb) (tE K Wc) σ H Q :=
  fun σ H Q ⟨a, H0, O0, O, ρ, g, R, r, w, q⟩ => ⟨a, H0, O0, O, ρ, g, _, r, w, fun d g1 v H1 k1 r1 d1 w1 => ⟨a, H0, O0, O, ρ, g1, _, r1, w1, fun d' g2 v' H2 k2 r2 d2 w2 =>
    hf (a :: O) H2 v v' d d' _ _ r2.liveA (d1.to (off_kp k2)) d2 w2 fun z dz H3 s hz hR => by
      cases dz with
      | bool k =>
        cases hz
        refine ⟨k, rfl, ?_⟩
        cases k with
        | false =>
          rw [if_neg Bool.false_ne_true]
          exact q _ g2 _ H3 ((k1.trans k2).trans (Kp.of s)) (r2.ext s) (.bl false) hR
        | true =>
          rw [if_pos rfl]
          exact ⟨a, H0, O0, O, ρ, g2, _, r2.ext s, hR, fun d3 g3 v3 H4 k3 r3 d3' w3 =>
            hf' (a :: O) H4 v' v3 d' d3 _ Q r3.liveA ((d2.to (off_mono s)).to (off_kp k3)) d3' w3 fun z dz H5 s5 hz hR => q dz g3 z H5 (((k1.trans k2).trans (Kp.of s)).trans (k3.trans (Kp.of s5))) (r3.ext s5) hz hR⟩
      | _ => exact hR.elim⟩⟩
theorem v_chain {op op' : CmpOp} {r r' : R2} {f f' : F2} (ho : OpR X (compareOp op) r) (hf : OpS X.K r f) (ho' : OpR X (compareOp op') r') (hf' : OpS X.K r' f') (ha : VE X a Wa) (hb : VE X b Wb) (hc : VE X c Wc)
    (hm : lastMarks [op, op'] [b, c] = false := by with_unfolding_all rfl) : VE X (.Compare a [op, op'] [b, c] pos) (wChain f f' Wa Wb Wc) := pe_weak (pe_chain ho ho' ha hb hc hm) (tE_chain hf hf')
theorem t_chain {op op' : CmpOp} {r r' : R2} {f f' : F2} (ho : OpR X (compareOp op) r) (hf : OpS X.K r f) (ho' : OpR X (compareOp op') r') (hf' : OpS X.K r' f') (ha : VE X a Wa) (hb : VE X b Wb) (hc : VE X c Wc)
    (hm : lastMarks [op, op'] [b, c] = false := by with_unfolding_all rfl) : VT X (.Compare a [op, op'] [b, c] pos) (wB (wChain f f' Wa Wb Wc)) :=
  pt_weak (pt_chain ho ho' ha hb hc hm) fun σ H Q h => tE_chain hf hf' σ H _ (tT_of σ H Q h)

/-! ### and, or, not -/
def wAnd (Wa Wb : WT) : WT := fun ρ g R => Wa ρ g fun k g1 => if k = true then Wb ρ g1 R else R false g1
def wOr (Wa Wb : WT) : WT := fun ρ g R => Wa ρ g fun k g1 => if k = true then R true g1 else Wb ρ g1 R
def wNot (Wa : WT) : WT := fun ρ g R => Wa ρ g fun k g1 => R (!k) g1
theorem tT_and {K : PySem.W.Frag} {Wa Wb : WT} : ∀ σ H Q, tT K (wAnd Wa Wb) σ H Q → tAnd (tT K Wa) (tT K Wb) σ H Q :=
  fun σ H Q ⟨a, H0, O0, O, ρ, g, R, r, w, q⟩ => ⟨a, H0, O0, O, ρ, g, _, r, w, fun b g1 H1 k1 r1 w1 => by
    cases b with
    | true =>
      rw [if_pos rfl] at w1 ⊢
      exact ⟨a, H0, O0, O, ρ, g1, R, r1, w1, fun b g2 H2 k2 r2 w2 => q b g2 H2 (k1.trans k2) r2 w2⟩
    | false =>
      rw [if_neg Bool.false_ne_true] at w1 ⊢
      exact q false g1 H1 k1 r1 w1⟩
theorem tT_or {K : PySem.W.Frag} {Wa Wb : WT} : ∀ σ H Q, tT K (wOr Wa Wb) σ H Q → tOr (tT K Wa) (tT K Wb) σ H Q :=
  fun σ H Q ⟨a, H0, O0, O, ρ, g, R, r, w, q⟩ => ⟨a, H0, O0, O, ρ, g, _, r, w, fun b g1 H1 k1 r1 w1 => by
    cases b with
    | true =>
      rw [if_pos rfl] at w1 ⊢
      exact q true g1 H1 k1 r1 w1
    | false =>
      rw [if_neg Bool.false_ne_true] at w1 ⊢
      exact ⟨a, H0, O0, O, ρ, g1, R, r1, w1, fun b g2 H2 k2 r2 w2 => q b g2 H2 (k1.trans k2) r2 w2⟩⟩
theorem w_and1 {Wa : WT} (h : VT X a Wa) : VW X (.BoolOp .And [a] pos) Wa := pw_and1 h
theorem w_or1 {Wa : WT} (h : VT X a Wa) : VW X (.BoolOp .Or [a] pos) Wa := pw_or1 h
theorem w_and {Wa Wb : WT} (h : VT X a Wa) (h2 : VW X (.BoolOp .And (b :: rest) pos) Wb) : VW X (.BoolOp .And (a :: b :: rest) pos) (wAnd Wa Wb) := pw_weak (pw_and h h2) tT_and
theorem w_or {Wa Wb : WT} (h : VT X a Wa) (h2 : VW X (.BoolOp .Or (b :: rest) pos) Wb) : VW X (.BoolOp .Or (a :: b :: rest) pos) (wOr Wa Wb) := pw_weak (pw_or h h2) tT_or
theorem t_w {Wa : WT} (h : VW X e Wa) : VT X e Wa := PW.pt h
theorem t_not {Wa : WT} (h : VT X a Wa) : VT X (.UnaryOp .Not a pos) (wNot Wa) := pt_weak (pt_not h) fun σ H Q ⟨a, H0, O0, O, ρ, g, R, r, w, q⟩ => ⟨a, H0, O0, O, ρ, g, _, r, w, fun b g1 H1 k1 r1 w1 => q (!b) g1 H1 k1 r1 w1⟩
/-- as values, of bools -/
def wAndV (Wa Wb : WE) : WE := fun ρ g R => wB Wa ρ g fun k g1 => if k = true then Wb ρ g1 R else R (.bool false) g1
def wOrV (Wa Wb : WE) : WE := fun ρ g R => wB Wa ρ g fun k g1 => if k = true then R (.bool true) g1 else Wb ρ g1 R
def wNotV (Wa : WE) : WE := fun ρ g R => wB Wa ρ g fun k g1 => R (.bool (!k)) g1
theorem v_one {op} (h : VE X a Wa) : VE X (.BoolOp op [a] pos) Wa := pe_one h
theorem v_and (h : VE X a Wa) (h2 : VE X (.BoolOp .And (b :: rest) pos) Wb) : VE X (.BoolOp .And (a :: b :: rest) pos) (wAndV Wa Wb) :=
  pe_weak (pe_and h h2) fun σ H Q ⟨a, H0, O0, O, ρ, g, R, r, w, q⟩ => ⟨a, H0, O0, O, ρ, g, _, r, w, fun d g1 v H1 k1 r1 d1 w1 => by
    cases d with
    | bool k =>
      cases d1
      refine ⟨k, rfl, ?_⟩
      have w1 : if k = true then Wb ρ g1 R else R (.bool false) g1 := w1
      cases k with
      | true =>
        rw [if_pos rfl] at w1 ⊢
        exact ⟨a, H0, O0, O, ρ, g1, R, r1, w1, fun b g2 v2 H2 k2 r2 d2 w2 => q b g2 v2 H2 (k1.trans k2) r2 d2 w2⟩
      | false =>
        rw [if_neg Bool.false_ne_true] at w1 ⊢
        exact q _ g1 _ H1 k1 r1 (.bl false) w1
    | _ => exact w1.elim⟩
theorem v_or (h : VE X a Wa) (h2 : VE X (.BoolOp .Or (b :: rest) pos) Wb) : VE X (.BoolOp .Or (a :: b :: rest) pos) (wOrV Wa Wb) :=
  pe_weak (pe_or h h2) fun σ H Q ⟨a, H0, O0, O, ρ, g, R, r, w, q⟩ => ⟨a, H0, O0, O, ρ, g, _, r, w, fun d g1 v H1 k1 r1 d1 w1 => by
    cases d with
    | bool k =>
      cases d1
      refine ⟨k, rfl, ?_⟩
      have w1 : if k = true then R (.bool true) g1 else Wb ρ g1 R := w1
      cases k with
      | true =>
        rw [if_pos rfl] at w1 ⊢
        exact q _ g1 _ H1 k1 r1 (.bl true) w1
      | false =>
        rw [if_neg Bool.false_ne_true] at w1 ⊢
        exact ⟨a, H0, O0, O, ρ, g1, R, r1, w1, fun b g2 v2 H2 k2 r2 d2 w2 => q b g2 v2 H2 (k1.trans k2) r2 d2 w2⟩
    | _ => exact w1.elim⟩
theorem v_not (h : VE X a Wa) : VE X (.UnaryOp .Not a pos) (wNotV Wa) :=
  pe_weak (pe_not h) fun σ H Q ⟨a, H0, O0, O, ρ, g, R, r, w, q⟩ => ⟨a, H0, O0, O, ρ, g, _, r, w, fun d g1 v H1 k1 r1 d1 w1 => by
    cases d with
    | bool k =>
      cases d1
      exact ⟨k, rfl, q _ g1 _ H1 k1 r1 (.bl _) w1⟩
    | _ => exact w1.elim⟩
def wIf (T : WT) (Wa Wb : WE) : WE := fun ρ g R => T ρ g fun k g1 => if k = true then Wa ρ g1 R else Wb ρ g1 R
theorem v_if {T : WT} (h : VT X c T) (ha : VE X a Wa) (hb : VE X b Wb) : VE X (.IfExp c a b pos) (wIf T Wa Wb) :=
  pe_weak (pe_ifExp h ha hb) fun σ H Q ⟨a, H0, O0, O, ρ, g, R, r, w, q⟩ => ⟨a, H0, O0, O, ρ, g, _, r, w, fun k g1 H1 k1 r1 w1 => by
    cases k with
    | true =>
      rw [if_pos rfl] at w1 ⊢
      exact ⟨a, H0, O0, O, ρ, g1, R, r1, w1, fun b g2 v2 H2 k2 r2 d2 w2 => q b g2 v2 H2 (k1.trans k2) r2 d2 w2⟩
    | false =>
      rw [if_neg Bool.false_ne_true] at w1 ⊢
      exact ⟨a, H0, O0, O, ρ, g1, R, r1, w1, fun b g2 v2 H2 k2 r2 d2 w2 => q b g2 v2 H2 (k1.trans k2) r2 d2 w2⟩⟩
end
end Vl
/-! V2: data in the machine's heap; operators and built-ins over data. -/
namespace Vl
open PySem PySem.Spec PyProof.Rows L2

section
variable {X : Cx} {pins : List (Addr × Obj)} {σ : L2.St} {H : Hp} {s : Shared}
mutual
theorem Dq.reads (I : Inv X pins σ H s) : ∀ (d : PyData) (v : V) (u : Value), noX d = true → Dq X.K H v d → RelV v u → ∃ as, Reads s.heap u d as
  | .none, _, _, _, h, r => by
    cases h
    cases r
    exact ⟨_, Reads.none⟩
  | .bool b, _, _, _, h, r => by
    cases h
    cases r
    exact ⟨_, Reads.bool b⟩
  | .int i, _, _, _, h, r => by
    cases h
    obtain ⟨t, rfl⟩ := r
    exact ⟨_, Reads.int i t⟩
  | .str x, _, _, _, h, r => by
    cases h
    obtain ⟨t, rfl⟩ := r
    exact ⟨_, Reads.str x t⟩
  | .list ds, _, _, nx, h, r => by
    simp only [noX] at nx
    cases h with
    | lst hs ha =>
      cases r
      obtain ⟨its, rv, ⟨o, n, ho, hc, _, hd⟩, _⟩ := I.list (SqL.of hs)
      obtain ⟨as, hr⟩ := DqAll.reads I ds _ its nx ha rv
      exact ⟨_, Reads.list ho hc hd hr⟩
  | .tuple ds, _, _, nx, h, r => by
    simp only [noX] at nx
    cases h with
    | tup hs ha =>
      cases r
      obtain ⟨its, rv, ⟨o, ho, hc, n, hd⟩, _⟩ := I.tuple hs
      obtain ⟨as, hr⟩ := DqAll.reads I ds _ its nx ha rv
      exact ⟨_, Reads.tuple ho hc hd hr⟩
  | .dict _, _, _, nx, h, r => by
    cases h with
    | exc0 => simp only [exD, noX] at nx; cases nx
    | exc1 => simp only [exD, noX] at nx; cases nx
    | emp e =>
      cases r
      obtain ⟨_, _, vs, rel, o, es, ep, h1, h2, h3, _, h5, _⟩ := dk_of I.hok e
      cases rel
      have he : es.toList = [] := by
        generalize es.toList = l at h5
        cases h5
        rfl
      exact ⟨_, Reads.dict (kvs := []) h1 h2.1 h3 (by rw [he]; exact .nil) (by rw [he]; exact .nil)⟩
theorem DqAll.reads (I : Inv X pins σ H s) : ∀ (ds : List PyData) (vs : List V) (us : List Value), noXs ds = true → DqAll X.K H vs ds → Vals vs us → ∃ as, ReadsAll s.heap us ds as
  | [], _, _, _, h, r => by
    cases h
    cases r
    exact ⟨_, .nil⟩
  | d :: ds, _, _, nx, h, r => by
    simp only [noXs, Bool.and_eq_true] at nx
    cases h with
    | cons h1 h2 =>
      cases r with
      | cons r1 r2 =>
        obtain ⟨as, q1⟩ := Dq.reads I d _ _ nx.1 h1 r1
        obtain ⟨bs, q2⟩ := DqAll.reads I ds _ _ nx.2 h2 r2
        exact ⟨_, .cons q1 q2⟩
end
end

/-! ### ints -/
def fII (g : Int → Int → PyData) (C : Int → Int → Prop) : F2 := fun x y R => match x, y with
  | .int i, .int j => C i j ∧ R (g i j)
  | _, _ => False
theorem opS_I {K : PySem.W.Frag} {C : Int → Int → Prop} {f : Int → Int → Int} : OpS K (rI C fun i j => .int (f i j)) (fII (fun i j => .int (f i j)) C) := fun A H x y dx dy R Q _ hx hy w q => by
  cases dx <;> try exact w.elim
  cases dy <;> try exact w.elim
  cases hx
  cases hy
  exact ⟨_, _, rfl, rfl, w.1, q _ _ H (Sub.refl _) (.int _) w.2⟩
theorem opS_I0 {K : PySem.W.Frag} {f : Int → Int → Int} : OpS K (rI0 fun i j => .int (f i j)) (fII (fun i j => .int (f i j)) fun _ _ => True) := fun A H x y dx dy R Q _ hx hy w q => by
  cases dx <;> try exact w.elim
  cases dy <;> try exact w.elim
  cases hx
  cases hy
  exact ⟨_, _, rfl, rfl, q _ _ H (Sub.refl _) (.int _) w.2⟩
theorem opS_B0 {K : PySem.W.Frag} {f : Int → Int → Bool} : OpS K (rI0 fun i j => .bl (f i j)) (fII (fun i j => .bool (f i j)) fun _ _ => True) := fun A H x y dx dy R Q _ hx hy w q => by
  cases dx <;> try exact w.elim
  cases dy <;> try exact w.elim
  cases hx
  cases hy
  exact ⟨_, _, rfl, rfl, q _ _ H (Sub.refl _) (.bl _) w.2⟩
abbrev fSub : F2 := fII (fun i j => .int (i - j)) fun _ _ => True
abbrev fMulI : F2 := fII (fun i j => .int (i * j)) CMul
abbrev fDiv : F2 := fII (fun i j => .int (i / j)) CDiv
abbrev fMod : F2 := fII (fun i j => .int (i % j)) fun _ j => 0 < j
abbrev fPow : F2 := fII (fun i j => .int (i ^ j.toNat)) CPow
abbrev fLtI : F2 := fII (fun i j => .bool (decide (i < j))) fun _ _ => True
abbrev fLe : F2 := fII (fun i j => .bool (decide (i ≤ j))) fun _ _ => True
abbrev fGt : F2 := fII (fun i j => .bool (decide (j < i))) fun _ _ => True
abbrev fGe : F2 := fII (fun i j => .bool (decide (j ≤ i))) fun _ _ => True

/-! ### + -/
def fAdd : F2 := fun x y R => match x, y with
  | .int i, .int j => R (.int (i + j))
  | .tuple xs, .tuple ys => xs.length + ys.length ≤ sizeLine ∧ R (.tuple (xs ++ ys))
  | .list xs, .list ys => xs.length + ys.length ≤ sizeLine ∧ R (.list (xs ++ ys))
  | _, _ => False
def rAddA (K : PySem.W.Frag) : R2 := fun x y H Q => (rI0 (fun i j => .int (i + j)) x y H Q ∨ rCatA K x y H Q) ∨ rCat x y H Q
theorem op_addA {X : Cx} : OpR X (binaryOp .Add) (rAddA X.K) := (op_add.or op_catA).or op_cat
theorem off_upd {A : List Addr} {H : Hp} {p : Addr} {o : HO} (hA : ∀ q ∈ A, H q ≠ none) (hp : H p = none) : Off A (upd H p o) p = some o := off_in (fun z => hA p z hp) upd_same
theorem opS_add {K : PySem.W.Frag} : OpS K (rAddA K) fAdd := fun A H x y dx dy R Q hA hx hy w q => by
  cases dx <;> try exact w.elim
  · cases dy <;> try exact w.elim
    cases hx
    cases hy
    exact .inl (.inl ⟨_, _, rfl, rfl, q _ _ H (Sub.refl _) (.int _) w⟩)
  · rename_i xs
    cases dy <;> try exact w.elim
    rename_i ys
    cases hx with
    | @lst a vs _ ha hv =>
      cases hy with
      | @lst b ws _ hb hw =>
        refine .inr ⟨_, _, _, _, rfl, rfl, off_out _ _ ha, off_out _ _ hb, by rw [hv.len, hw.len]; exact w.1, fun p hp => ?_⟩
        have s := sub_upd (o := .lst (vs ++ ws)) hp
        exact q _ _ _ s (.lst (off_upd hA hp) ((hv.app hw).to (off_mono s))) w.2
  · rename_i xs
    cases dy <;> try exact w.elim
    rename_i ys
    cases hx with
    | @tup a vs _ ha hv =>
      cases hy with
      | @tup b ws _ hb hw =>
        refine .inl (.inr ⟨_, _, _, _, rfl, rfl, sqt_mono off_out ha, sqt_mono off_out hb, by rw [hv.len, hw.len]; exact w.1, fun e => ?_, fun n e => ?_, fun n1 n2 p hp => ?_⟩)
        · subst e
          cases hv
          exact q _ _ H (Sub.refl _) (.tup hb hw) (by simpa using w.2)
        · subst e
          cases hw
          exact q _ _ H (Sub.refl _) (.tup ha hv) (by simpa using w.2)
        · have s := sub_upd (o := .tup (vs ++ ws)) hp
          exact q _ _ _ s (.tup (.inl (.inl (off_upd hA hp))) ((hv.app hw).to (off_mono s))) w.2

/-! ### == and in, plain data (without dicts) -/
def rEqP (K : PySem.W.Frag) (neg : Bool) : R2 := fun x y H Q => ∃ d e, Dq K H x d ∧ Dq K H y e ∧ d.plain = true ∧ e.plain = true ∧ min d.depth e.depth ≤ 60 ∧ Q (.bl (if neg = true then !PyData.eqv d e else PyData.eqv d e)) H
theorem op_eqP {X : Cx} (hu : X.A.units + 64 < cLine) : OpR X (compareOp .Eq) (rEqP X.K false) := by
  intro pins s σ H x y v u Q I rx ry h
  obtain ⟨d, e, hd, he, pd, pe, hz, q⟩ := h
  obtain ⟨as, r1⟩ := Dq.reads I d x v (noX_plain d pd) hd rx
  obtain ⟨bs, r2⟩ := Dq.reads I e y u (noX_plain e pe) he ry
  exact PySem.SeqAt.eq_plain r1 r2 pd pe (by omega) ⟨.bl _, H, I, rfl, q⟩
theorem op_neP {X : Cx} (hu : X.A.units + 64 < cLine) : OpR X (compareOp .NotEq) (rEqP X.K true) := by
  intro pins s σ H x y v u Q I rx ry h
  obtain ⟨d, e, hd, he, pd, pe, hz, q⟩ := h
  obtain ⟨as, r1⟩ := Dq.reads I d x v (noX_plain d pd) hd rx
  obtain ⟨bs, r2⟩ := Dq.reads I e y u (noX_plain e pe) he ry
  exact PySem.SeqAt.ne_plain r1 r2 pd pe (by omega) ⟨.bl _, H, I, rfl, q⟩
def fEq : F2 := fun d e R => (d.plain = true ∧ e.plain = true ∧ min d.depth e.depth ≤ 60) ∧ R (.bool (PyData.eqv d e))
def fNe : F2 := fun d e R => (d.plain = true ∧ e.plain = true ∧ min d.depth e.depth ≤ 60) ∧ R (.bool (!PyData.eqv d e))
theorem opS_eq {K : PySem.W.Frag} : OpS K (rEqP K false) fEq := fun A H x y dx dy R Q hA hx hy w q =>
  ⟨dx, dy, hx.to off_out, hy.to off_out, w.1.1, w.1.2.1, w.1.2.2, q _ _ H (Sub.refl _) (.bl _) w.2⟩
theorem opS_ne {K : PySem.W.Frag} : OpS K (rEqP K true) fNe := fun A H x y dx dy R Q hA hx hy w q =>
  ⟨dx, dy, hx.to off_out, hy.to off_out, w.1.1, w.1.2.1, w.1.2.2, q _ _ H (Sub.refl _) (.bl _) w.2⟩
def itemsD : PyData → Option (List PyData)
  | .list xs => some xs
  | .tuple xs => some xs
  | _ => none
def rInP (K : PySem.W.Frag) (neg : Bool) : R2 := fun x y H Q => ∃ d c xs, Dq K H x d ∧ Dq K H y c ∧ itemsD c = some xs ∧ PyData.plainAll xs = true ∧ d.plain = true ∧ min (PyData.depthAll xs) d.depth ≤ 60 ∧
  Q (.bl (if neg = true then !(xs.any fun y => PyData.eqv y d) else xs.any fun y => PyData.eqv y d)) H
theorem op_inP {X : Cx} (hu : X.A.units + 64 < cLine) : OpR X (compareOp .In) (rInP X.K false) := by
  intro pins s σ H x y v u Q I rx ry h
  obtain ⟨d, c, xs, hd, hc, hi, pa, pd, hz, q⟩ := h
  obtain ⟨as, r1⟩ := Dq.reads I d x v (noX_plain d pd) hd rx
  have nc : noX c = true := by
    cases c <;> cases hi <;> (simp only [noX]; exact noXs_plain _ pa)
  obtain ⟨bs, r2⟩ := Dq.reads I c y u nc hc ry
  cases c <;> cases hi
  · exact PySem.SeqAt.in_list_data r2 r1 pa pd (by omega) ⟨.bl _, H, I, rfl, q⟩
  · exact PySem.SeqAt.in_tuple_data r2 r1 pa pd (by omega) ⟨.bl _, H, I, rfl, q⟩
theorem op_niP {X : Cx} (hu : X.A.units + 64 < cLine) : OpR X (compareOp .NotIn) (rInP X.K true) := by
  intro pins s σ H x y v u Q I rx ry h
  obtain ⟨d, c, xs, hd, hc, hi, pa, pd, hz, q⟩ := h
  obtain ⟨as, r1⟩ := Dq.reads I d x v (noX_plain d pd) hd rx
  have nc : noX c = true := by
    cases c <;> cases hi <;> (simp only [noX]; exact noXs_plain _ pa)
  obtain ⟨bs, r2⟩ := Dq.reads I c y u nc hc ry
  cases c <;> cases hi
  · exact PySem.SeqAt.notIn_list_data r2 r1 pa pd (by omega) ⟨.bl _, H, I, rfl, q⟩
  · exact PySem.SeqAt.notIn_tuple_data r2 r1 pa pd (by omega) ⟨.bl _, H, I, rfl, q⟩
def fIn : F2 := fun d c R => ∃ xs, itemsD c = some xs ∧ (PyData.plainAll xs = true ∧ d.plain = true ∧ min (PyData.depthAll xs) d.depth ≤ 60) ∧ R (.bool (xs.any fun y => PyData.eqv y d))
def fNi : F2 := fun d c R => ∃ xs, itemsD c = some xs ∧ (PyData.plainAll xs = true ∧ d.plain = true ∧ min (PyData.depthAll xs) d.depth ≤ 60) ∧ R (.bool (!(xs.any fun y => PyData.eqv y d)))
theorem opS_in {K : PySem.W.Frag} : OpS K (rInP K false) fIn := fun A H x y dx dy R Q hA hx hy ⟨xs, h1, h2, w⟩ q =>
  ⟨dx, dy, xs, hx.to off_out, hy.to off_out, h1, h2.1, h2.2.1, h2.2.2, q _ _ H (Sub.refl _) (.bl _) w⟩
theorem opS_ni {K : PySem.W.Frag} : OpS K (rInP K true) fNi := fun A H x y dx dy R Q hA hx hy ⟨xs, h1, h2, w⟩ q =>
  ⟨dx, dy, xs, hx.to off_out, hy.to off_out, h1, h2.1, h2.2.1, h2.2.2, q _ _ H (Sub.refl _) (.bl _) w⟩

/-! ### the rules, by the sign -/
section
variable {X : Cx} {e a b c : Expr} {es rest : List Expr} {pos : Pos} {W Wa Wb Wc : WE}
theorem v_add (ha : VE X a Wa) (hb : VE X b Wb) : VE X (.BinOp a .Add b pos) (wOp fAdd Wa Wb) := v_bin op_addA opS_add ha hb
theorem v_sub (ha : VE X a Wa) (hb : VE X b Wb) : VE X (.BinOp a .Sub b pos) (wOp fSub Wa Wb) := v_bin op_sub opS_I0 ha hb
theorem v_mulI (ha : VE X a Wa) (hb : VE X b Wb) : VE X (.BinOp a .Mult b pos) (wOp fMulI Wa Wb) := v_bin op_mul opS_I ha hb
theorem v_div (ha : VE X a Wa) (hb : VE X b Wb) : VE X (.BinOp a .FloorDiv b pos) (wOp fDiv Wa Wb) := v_bin op_fdiv opS_I ha hb
theorem v_mod (ha : VE X a Wa) (hb : VE X b Wb) : VE X (.BinOp a .Mod b pos) (wOp fMod Wa Wb) := v_bin op_mod opS_I ha hb
theorem v_pow (ha : VE X a Wa) (hb : VE X b Wb) : VE X (.BinOp a .Pow b pos) (wOp fPow Wa Wb) := v_bin op_pow opS_I ha hb
theorem v_lt (ha : VE X a Wa) (hb : VE X b Wb) : VE X (.Compare a [.Lt] [b] pos) (wOp fLtI Wa Wb) := v_cmp op_lt opS_B0 ha hb (nomark _)
theorem v_le (ha : VE X a Wa) (hb : VE X b Wb) : VE X (.Compare a [.LtE] [b] pos) (wOp fLe Wa Wb) := v_cmp op_le opS_B0 ha hb (nomark _)
theorem v_gt (ha : VE X a Wa) (hb : VE X b Wb) : VE X (.Compare a [.Gt] [b] pos) (wOp fGt Wa Wb) := v_cmp op_gt opS_B0 ha hb (nomark _)
theorem v_ge (ha : VE X a Wa) (hb : VE X b Wb) : VE X (.Compare a [.GtE] [b] pos) (wOp fGe Wa Wb) := v_cmp op_ge opS_B0 ha hb (nomark _)
theorem v_eq (hu : X.A.units + 64 < cLine) (ha : VE X a Wa) (hb : VE X b Wb) : VE X (.Compare a [.Eq] [b] pos) (wOp fEq Wa Wb) := v_cmp (op_eqP hu) opS_eq ha hb (nomark _)
theorem v_ne (hu : X.A.units + 64 < cLine) (ha : VE X a Wa) (hb : VE X b Wb) : VE X (.Compare a [.NotEq] [b] pos) (wOp fNe Wa Wb) := v_cmp (op_neP hu) opS_ne ha hb (nomark _)
theorem v_in (hu : X.A.units + 64 < cLine) (ha : VE X a Wa) (hb : VE X b Wb) (hm : behindInMarks .In b = false := by rfl) : VE X (.Compare a [.In] [b] pos) (wOp fIn Wa Wb) := v_cmp (op_inP hu) opS_in ha hb hm
theorem v_ni (hu : X.A.units + 64 < cLine) (ha : VE X a Wa) (hb : VE X b Wb) (hm : behindInMarks .NotIn b = false := by rfl) : VE X (.Compare a [.NotIn] [b] pos) (wOp fNi Wa Wb) := v_cmp (op_niP hu) opS_ni ha hb hm
theorem t_lt (ha : VE X a Wa) (hb : VE X b Wb) : VT X (.Compare a [.Lt] [b] pos) (wB (wOp fLtI Wa Wb)) := t_cmp op_lt opS_B0 ha hb (nomark _)
theorem t_le (ha : VE X a Wa) (hb : VE X b Wb) : VT X (.Compare a [.LtE] [b] pos) (wB (wOp fLe Wa Wb)) := t_cmp op_le opS_B0 ha hb (nomark _)
theorem t_gt (ha : VE X a Wa) (hb : VE X b Wb) : VT X (.Compare a [.Gt] [b] pos) (wB (wOp fGt Wa Wb)) := t_cmp op_gt opS_B0 ha hb (nomark _)
theorem t_ge (ha : VE X a Wa) (hb : VE X b Wb) : VT X (.Compare a [.GtE] [b] pos) (wB (wOp fGe Wa Wb)) := t_cmp op_ge opS_B0 ha hb (nomark _)
theorem t_eq (hu : X.A.units + 64 < cLine) (ha : VE X a Wa) (hb : VE X b Wb) : VT X (.Compare a [.Eq] [b] pos) (wB (wOp fEq Wa Wb)) := t_cmp (op_eqP hu) opS_eq ha hb (nomark _)
theorem t_ne (hu : X.A.units + 64 < cLine) (ha : VE X a Wa) (hb : VE X b Wb) : VT X (.Compare a [.NotEq] [b] pos) (wB (wOp fNe Wa Wb)) := t_cmp (op_neP hu) opS_ne ha hb (nomark _)
theorem t_in (hu : X.A.units + 64 < cLine) (ha : VE X a Wa) (hb : VE X b Wb) (hm : behindInMarks .In b = false := by rfl) : VT X (.Compare a [.In] [b] pos) (wB (wOp fIn Wa Wb)) := t_cmp (op_inP hu) opS_in ha hb hm
theorem t_ni (hu : X.A.units + 64 < cLine) (ha : VE X a Wa) (hb : VE X b Wb) (hm : behindInMarks .NotIn b = false := by rfl) : VT X (.Compare a [.NotIn] [b] pos) (wB (wOp fNi Wa Wb)) := t_cmp (op_niP hu) opS_ni ha hb hm
theorem v_lele (ha : VE X a Wa) (hb : VE X b Wb) (hc : VE X c Wc) (hm : lastMarks [.LtE, .LtE] [b, c] = false := by with_unfolding_all rfl) : VE X (.Compare a [.LtE, .LtE] [b, c] pos) (wChain fLe fLe Wa Wb Wc) := v_chain op_le opS_B0 op_le opS_B0 ha hb hc hm
theorem v_lelt (ha : VE X a Wa) (hb : VE X b Wb) (hc : VE X c Wc) (hm : lastMarks [.LtE, .Lt] [b, c] = false := by with_unfolding_all rfl) : VE X (.Compare a [.LtE, .Lt] [b, c] pos) (wChain fLe fLtI Wa Wb Wc) := v_chain op_le opS_B0 op_lt opS_B0 ha hb hc hm
theorem t_lele (ha : VE X a Wa) (hb : VE X b Wb) (hc : VE X c Wc) (hm : lastMarks [.LtE, .LtE] [b, c] = false := by with_unfolding_all rfl) : VT X (.Compare a [.LtE, .LtE] [b, c] pos) (wB (wChain fLe fLe Wa Wb Wc)) := t_chain op_le opS_B0 op_le opS_B0 ha hb hc hm
theorem t_lelt (ha : VE X a Wa) (hb : VE X b Wb) (hc : VE X c Wc) (hm : lastMarks [.LtE, .Lt] [b, c] = false := by with_unfolding_all rfl) : VT X (.Compare a [.LtE, .Lt] [b, c] pos) (wB (wChain fLe fLtI Wa Wb Wc)) := t_chain op_le opS_B0 op_lt opS_B0 ha hb hc hm
/-- -a -/
def wNeg (W : WE) : WE := fun ρ g R => W ρ g fun d g1 => match d with
  | .int i => R (.int (-i)) g1
  | _ => False
theorem v_neg (ha : VE X a Wa) : VE X (.UnaryOp .USub a pos) (wNeg Wa) := pe_weak (pe_un un_neg ha) fun σ H Q ⟨a, H0, O0, O, ρ, g, R, r, w, q⟩ => ⟨a, H0, O0, O, ρ, g, _, r, w, fun d g1 v H1 k1 r1 d1 w1 => by
  cases d <;> try exact w1.elim
  cases d1
  exact ⟨_, rfl, q _ g1 _ H1 k1 r1 (.int _) w1⟩⟩
/-- a is None -/
def wIsN (neg : Bool) (W : WE) : WE := fun ρ g R => W ρ g fun d g1 => R (.bool (match d with | .none => !neg | _ => neg)) g1
theorem v_isN {j pos'} (ha : VE X a Wa) : VE X (.Compare a [.Is] [.Constant .none j pos'] pos) (wIsN false Wa) := pe_weak (pe_cmp (pc_isN ha)) fun σ H Q ⟨a, H0, O0, O, ρ, g, R, r, w, q⟩ => ⟨a, H0, O0, O, ρ, g, _, r, w, fun d g1 v H1 k1 r1 d1 w1 => by
  have z := q _ g1 _ H1 k1 r1 (.bl _) w1
  cases d1 <;> exact z⟩
theorem v_notN {j pos'} (ha : VE X a Wa) : VE X (.Compare a [.IsNot] [.Constant .none j pos'] pos) (wIsN true Wa) := pe_weak (pe_cmp (pc_notN ha)) fun σ H Q ⟨a, H0, O0, O, ρ, g, R, r, w, q⟩ => ⟨a, H0, O0, O, ρ, g, _, r, w, fun d g1 v H1 k1 r1 d1 w1 => by
  have z := q _ g1 _ H1 k1 r1 (.bl _) w1
  cases d1 <;> exact z⟩
theorem t_isN {j pos'} (ha : VE X a Wa) : VT X (.Compare a [.Is] [.Constant .none j pos'] pos) (wB (wIsN false Wa)) := pt_weak (pt_cmp (pc_isN ha)) fun σ H Q ⟨a, H0, O0, O, ρ, g, R, r, w, q⟩ => ⟨a, H0, O0, O, ρ, g, _, r, w, fun d g1 v H1 k1 r1 d1 w1 => by
  have z := q _ g1 H1 k1 r1 w1
  cases d1 <;> exact ⟨_, rfl, z⟩⟩
theorem t_notN {j pos'} (ha : VE X a Wa) : VT X (.Compare a [.IsNot] [.Constant .none j pos'] pos) (wB (wIsN true Wa)) := pt_weak (pt_cmp (pc_notN ha)) fun σ H Q ⟨a, H0, O0, O, ρ, g, R, r, w, q⟩ => ⟨a, H0, O0, O, ρ, g, _, r, w, fun d g1 v H1 k1 r1 d1 w1 => by
  have z := q _ g1 H1 k1 r1 w1
  cases d1 <;> exact ⟨_, rfl, z⟩⟩
/-- a[b] -/
def fIx : F2 := fun x y R => match y with
  | .int i => ∃ xs d, itemsD x = some xs ∧ atI xs i = some d ∧ R d
  | _ => False
theorem atI_all {K : PySem.W.Frag} {H : Hp} {vs : List V} {ds : List PyData} {i : Int} {d : PyData} (h : DqAll K H vs ds) (e : atI ds i = some d) : ∃ v, atI vs i = some v ∧ Dq K H v d := by
  unfold atI at e ⊢
  rw [h.len]
  cases hx : ixN ds.length i with
  | none => rw [hx] at e; cases e
  | some j =>
    rw [hx] at e
    obtain ⟨v, h1, h2⟩ := DqAll.at h (show ds[j]? = some d from e)
    exact ⟨v, h1, h2⟩
def rIxLT (K : PySem.W.Frag) : R2 := fun x y H Q => rIxL K x y H Q ∨ rIxT K x y H Q
theorem ix_lt : IxR X (rIxLT X.K) := ix_list.or ix_tup
theorem opS_ix {K : PySem.W.Frag} : OpS K (rIxLT K) fIx := fun A H x y dx dy R Q hA hx hy w q => by
  cases dy <;> try exact w.elim
  cases hy
  obtain ⟨xs, d, h1, h2, w⟩ := w
  cases hx <;> cases h1
  · rename_i ha hv
    obtain ⟨v, e, hd⟩ := atI_all hv h2
    exact .inl ⟨_, _, _, v, rfl, rfl, SqL.of (off_out _ _ ha), e, q v d H (Sub.refl _) hd w⟩
  · rename_i ha hv
    obtain ⟨v, e, hd⟩ := atI_all hv h2
    exact .inr ⟨_, _, _, v, rfl, rfl, sqt_mono off_out ha, e, q v d H (Sub.refl _) hd w⟩
theorem v_ix (ha : VE X a Wa) (hb : VE X b Wb) (hs : PlainIx b := by exact fun _ _ => rfl) : VE X (.Subscript a b pos) (wOp fIx Wa Wb) := pe_weak (pe_ix ix_lt ha hb hs) (tE_op opS_ix)

/-! ### calls of built-ins over data -/
/-- what a call of one argument is told by -/
def CallS (K : PySem.W.Frag) (r : List V → Hp → VK → Prop) (f : List PyData → (PyData → Prop) → Prop) : Prop := ∀ (A : List Addr) (H : Hp) (xs : List V) (ds : List PyData) (R : PyData → Prop) (Q : VK), (∀ p ∈ A, H p ≠ none) → DqAll K (Off A H) xs ds → f ds R →
  (∀ z dz H', Sub H H' → Dq K (Off A H') z dz → R dz → Q z H') → r xs H Q
def wCall (f : List PyData → (PyData → Prop) → Prop) (V : WL) : WE := fun ρ g R => V ρ g fun ds g1 => f ds fun d => R d g1
theorem tE_call {K : PySem.W.Frag} {r : List V → Hp → VK → Prop} {f : List PyData → (PyData → Prop) → Prop} (hf : CallS K r f) {V : WL} : ∀ σ H Q, tE K (wCall f V) σ H Q → tCB r (tA K V) σ H Q :=
  fun σ H Q ⟨a, H0, O0, O, ρ, g, R, r, w, q⟩ => ⟨a, H0, O0, O, ρ, g, _, r, w, fun ds g1 vs H1 k1 r1 d1 w1 => hf (a :: O) H1 vs ds _ Q r1.liveA d1 w1 fun z dz H2 s hz hR => q dz g1 z H2 (k1.trans (Kp.of s)) (r1.ext s) hz hR⟩
theorem v_callB {id : String} {x : Str} {r : List V → Hp → VK → Prop} {f : List PyData → (PyData → Prop) → Prop} {V : WL} {p : Pos} (hc : CallR X (.builtin id) r) (hf : CallS X.K r f) (hg : Gl X x) (hm : X.mg x = none) (hv : bootBuiltins x = some (.builtin id)) (ha : VA X (e :: es) V)
    (hn : x ≠ "__name__" := by decide) (hdb : (x == ("__debug__" : Str)) = false := by decide) (he : starEach (e :: es) X.env = (false, eval e X.env) :: starEach es X.env := by rfl) (hpl : (backTo pos (starEach es X.env)).any (·.1) = false := by rfl) :
    VE X (.Call (.Name x p) (e :: es) [] pos) (wCall f V) := pe_weak (pe_callB hc hg hm hv ha hn hdb he hpl) (tE_call hf)
theorem v_callT {T : String} {x : Str} {r : List V → Hp → VK → Prop} {f : List PyData → (PyData → Prop) → Prop} {V : WL} {p : Pos} (hc : CallR X (.type T) r) (hf : CallS X.K r f) (hg : Gl X x) (hm : X.mg x = none) (hv : bootBuiltins x = some (.type T)) (ha : VA X (e :: es) V)
    (hn : x ≠ "__name__" := by decide) (hdb : (x == ("__debug__" : Str)) = false := by decide) (he : starEach (e :: es) X.env = (false, eval e X.env) :: starEach es X.env := by rfl) (hpl : (backTo pos (starEach es X.env)).any (·.1) = false := by rfl) :
    VE X (.Call (.Name x p) (e :: es) [] pos) (wCall f V) := pe_weak (pe_callTy hc hg hm hv ha hn hdb he hpl) (tE_call hf)
/-- len -/
def fLen : List PyData → (PyData → Prop) → Prop := fun ds R => ∃ d xs, ds = [d] ∧ itemsD d = some xs ∧ R (.int xs.length)
theorem callS_len {K : PySem.W.Frag} : CallS K (fun xs H Q => ∃ p ys, xs = [.ref p] ∧ (SqL K H p ys ∨ SqT K H p ys) ∧ Q (.int ys.length) H) fLen := fun A H xs ds R Q hA hx w q => by
  obtain ⟨d, ys, rfl, h1, w⟩ := w
  cases hx with
  | cons h t =>
    cases t
    cases h <;> cases h1
    · rename_i ha hv
      exact ⟨_, _, rfl, .inl (SqL.of (off_out _ _ ha)), q _ _ H (Sub.refl _) (by rw [hv.len]; exact .int _) w⟩
    · rename_i ha hv
      exact ⟨_, _, rfl, .inr (sqt_mono off_out ha), q _ _ H (Sub.refl _) (by rw [hv.len]; exact .int _) w⟩
theorem v_len {V : WL} {p : Pos} (hg : Gl X "len") (hm : X.mg "len" = none) (ha : VA X [e] V) (he : starEach [e] X.env = (false, eval e X.env) :: starEach [] X.env := by rfl) : VE X (.Call (.Name "len" p) [e] [] pos) (wCall fLen V) := v_callB call_len_seq callS_len hg hm PySem.boot_len ha (he := he) (hpl := rfl)
/-- int(int | bool) -/
def fInt : List PyData → (PyData → Prop) → Prop := fun ds R => match ds with
  | [.int i] => R (.int i)
  | [.bool b] => R (.int (if b = true then 1 else 0))
  | _ => False
theorem callS_int {K : PySem.W.Frag} : CallS K (fun xs H Q => (∃ i, xs = [.int i] ∧ Q (.int i) H) ∨ ∃ k, xs = [.bl k] ∧ Q (.int (if k then 1 else 0)) H) fInt := fun A H xs ds R Q hA hx w q => by
  cases hx with
  | nil => exact w.elim
  | cons h t =>
    cases t with
    | cons _ _ => cases h <;> exact w.elim
    | nil =>
      cases h <;> try exact w.elim
      · exact .inr ⟨_, rfl, q _ _ H (Sub.refl _) (.int _) w⟩
      · exact .inl ⟨_, rfl, q _ _ H (Sub.refl _) (.int _) w⟩
theorem v_toInt {V : WL} {p : Pos} (hg : Gl X "int") (hm : X.mg "int" = none) (ha : VA X [e] V) (hv : bootBuiltins "int" = some (.type "int") := by decide +kernel) (he : starEach [e] X.env = (false, eval e X.env) :: starEach [] X.env := by rfl) : VE X (.Call (.Name "int" p) [e] [] pos) (wCall fInt V) := v_callT call_int1 callS_int hg hm hv ha (he := he) (hpl := rfl)
/-- tuple(list | tuple) -/
def fTuple : List PyData → (PyData → Prop) → Prop := fun ds R => ∃ d xs, ds = [d] ∧ itemsD d = some xs ∧ R (.tuple xs)
theorem callS_tuple {K : PySem.W.Frag} : CallS K (fun xs H Q => ∃ p ys, xs = [.ref p] ∧ ((SqL K H p ys ∧ ∀ l, H l = none → Q (.ref l) (upd H l (.tup ys))) ∨ (SqT K H p ys ∧ Q (.ref p) H))) fTuple := fun A H xs ds R Q hA hx w q => by
  obtain ⟨d, ys, rfl, h1, w⟩ := w
  cases hx with
  | cons h t =>
    cases t
    cases h <;> cases h1
    · rename_i xs ha hv
      refine ⟨_, _, rfl, .inl ⟨SqL.of (off_out _ _ ha), fun l hl => ?_⟩⟩
      have s := sub_upd (o := .tup xs) hl
      exact q _ _ _ s (.tup (.inl (.inl (off_upd hA hl))) (hv.to (off_mono s))) w
    · rename_i ha hv
      exact ⟨_, _, rfl, .inr ⟨sqt_mono off_out ha, q _ _ H (Sub.refl _) (.tup ha hv) w⟩⟩
theorem v_toTuple {V : WL} {p : Pos} (hg : Gl X "tuple") (hm : X.mg "tuple" = none) (ha : VA X [e] V) (hv : bootBuiltins "tuple" = some (.type "tuple") := by decide +kernel) (he : starEach [e] X.env = (false, eval e X.env) :: starEach [] X.env := by rfl) : VE X (.Call (.Name "tuple" p) [e] [] pos) (wCall fTuple V) := v_callT call_tuple_of callS_tuple hg hm hv ha (he := he) (hpl := rfl)
/-- any, all of a list of bools -/
def boolsD : List PyData → Option (List Bool)
  | [] => some []
  | .bool b :: r => (boolsD r).map (b :: ·)
  | _ => none
theorem boolsD_all {K : PySem.W.Frag} {H : Hp} : ∀ {vs : List V} {ds : List PyData} {bs : List Bool}, DqAll K H vs ds → boolsD ds = some bs → vs = bs.map V.bl
  | _, _, bs, .nil, e => by cases e; rfl
  | _, _, bs, .cons h t, e => by
    cases h with
    | bl b =>
      unfold boolsD at e
      obtain ⟨cs, h1, h2⟩ := Option.map_eq_some_iff.mp e
      subst h2
      rw [List.map_cons, ← boolsD_all t h1]
    | _ => cases e
def fAnyAll (k : Bool) : List PyData → (PyData → Prop) → Prop := fun ds R => ∃ xs bs, ds = [.list xs] ∧ boolsD xs = some bs ∧ R (.bool (if k = true then bs.any id else bs.all id))
theorem callS_any {K : PySem.W.Frag} : CallS K (rAny K) (fAnyAll true) := fun A H xs ds R Q hA hx w q => by
  obtain ⟨ys, bs, rfl, h1, w⟩ := w
  cases hx with
  | cons h t =>
    cases t
    cases h with
    | lst ha hv =>
      refine ⟨_, bs, rfl, ?_, q _ _ H (Sub.refl _) (.bl _) w⟩
      rw [← boolsD_all hv h1]
      exact SqL.of (off_out _ _ ha)
theorem callS_all {K : PySem.W.Frag} : CallS K (rAll K) (fAnyAll false) := fun A H xs ds R Q hA hx w q => by
  obtain ⟨ys, bs, rfl, h1, w⟩ := w
  cases hx with
  | cons h t =>
    cases t
    cases h with
    | lst ha hv =>
      refine ⟨_, bs, rfl, ?_, q _ _ H (Sub.refl _) (.bl _) w⟩
      rw [← boolsD_all hv h1]
      exact SqL.of (off_out _ _ ha)
theorem v_any {V : WL} {p : Pos} (hc : X.calm = true) (hg : Gl X "any") (hm : X.mg "any" = none) (ha : VA X [e] V) (hv : bootBuiltins "any" = some (.builtin "any") := by decide +kernel) (he : starEach [e] X.env = (false, eval e X.env) :: starEach [] X.env := by rfl) : VE X (.Call (.Name "any" p) [e] [] pos) (wCall (fAnyAll true) V) := v_callB (cr_any hc) callS_any hg hm hv ha (he := he) (hpl := rfl)
theorem v_all {V : WL} {p : Pos} (hc : X.calm = true) (hg : Gl X "all") (hm : X.mg "all" = none) (ha : VA X [e] V) (hv : bootBuiltins "all" = some (.builtin "all") := by decide +kernel) (he : starEach [e] X.env = (false, eval e X.env) :: starEach [] X.env := by rfl) : VE X (.Call (.Name "all" p) [e] [] pos) (wCall (fAnyAll false) V) := v_callB (cr_all hc) callS_all hg hm hv ha (he := he) (hpl := rfl)
end
end Vl
/-! V3: targets, loops, comprehensions, statements, defs over data. -/
namespace Vl
open PySem PySem.Spec PyProof.Rows L2

section
variable {K : PySem.W.Frag} {a : Addr} {H0 H H' : Hp} {O0 O : List Addr} {ρ : Rho} {g g' : Nat} {σ : L2.St}
theorem Rl.setUn (r : Rl K a H0 O0 O ρ g σ H) (v : Nat) : Rl K a H0 O0 O (ρ.set v .un) g (σ.set v none) H where
  keep := r.keep
  pen := r.pen
  sub := r.sub
  new := r.new
  noA := r.noA
  live := r.live
  live0 := r.live0
  len := by rw [List.length_set, List.length_set]; exact r.len
  slot := fun j s hs => by
    rcases set_slot hs with ⟨rfl, rfl, hl⟩ | ⟨hj, hs⟩
    · trivial
    · rw [List.getElem?_set_ne hj]
      exact r.slot j s hs
  inj := fun j k ds es o h1 h2 e1 e2 => by
    rcases set_slot h1 with ⟨_, z, _⟩ | ⟨hj, h1⟩
    · cases z
    · rcases set_slot h2 with ⟨_, z, _⟩ | ⟨hk, h2⟩
      · cases z
      · rw [List.getElem?_set_ne hj] at e1
        rw [List.getElem?_set_ne hk] at e2
        exact r.inj j k ds es o h1 h2 e1 e2
def wipeV (ρ : Rho) : List Nat → Rho
  | [] => ρ
  | v :: vs => (wipeV ρ vs).set v .un
theorem Rl.wipe (r : Rl K a H0 O0 O ρ g σ H) : ∀ vs : List Nat, Rl K a H0 O0 O (wipeV ρ vs) g (L2.wipe σ vs) H
  | [] => r
  | v :: vs => (Rl.wipe r vs).setUn v
theorem wipeV_own {ρ : Rho} {j : Nat} {es : List PyData} : ∀ {vs : List Nat}, (wipeV ρ vs)[j]? = some (Sl.own es) → ρ[j]? = some (Sl.own es)
  | [], h => h
  | v :: vs, h => by
    rcases set_slot (show ((wipeV ρ vs).set v Sl.un)[j]? = some (Sl.own es) from h) with ⟨_, z, _⟩ | ⟨_, h⟩
    · cases z
    · exact wipeV_own h
/-- a new hidden object, the rest gone on -/
theorem Rl.stepH (r : Rl K a H0 O0 O ρ g σ H) {D : Addr} (k : Kp a H H') (hD : H D = none) (hD' : H' D ≠ none) (p : Pen K a (D :: O) g' H') : Rl K a H0 O0 (D :: O) ρ g' σ H' where
  keep := r.keep.trans k
  pen := p
  sub := fun q hq => List.mem_cons_of_mem _ (r.sub q hq)
  new := fun q hq => by
    rcases List.mem_cons.mp hq with rfl | hq
    · exact .inr (r.freshH hD)
    · exact r.new q hq
  noA := fun hq => by
    rcases List.mem_cons.mp hq with e | hq
    · exact r.pen.live (by rw [e]; exact hD)
    · exact r.noA hq
  live := fun q hq => by
    rcases List.mem_cons.mp hq with rfl | hq
    · exact hD'
    · intro e
      cases h : H q with
      | none => exact r.live q hq h
      | some o =>
        rw [k q o (fun z => r.noA (z ▸ hq)) h] at e
        cases e
  live0 := r.live0
  len := r.len
  slot := fun i s hs => by
    have sb : Sub (Off (a :: O) H) (Off (a :: D :: O) H') := fun b o e => by
      obtain ⟨n, e⟩ := off_some.mp e
      have na : b ≠ a := fun z => n (by rw [z]; exact List.mem_cons_self)
      refine off_in (fun z => ?_) (k b o na e)
      rcases List.mem_cons.mp z with z | z
      · exact na z
      · rcases List.mem_cons.mp z with z | z
        · rw [z, hD] at e
          cases e
        · exact n (List.mem_cons_of_mem _ z)
    have h := r.slot i s hs
    cases s with
    | un => trivial
    | val d =>
      obtain ⟨v, e, h⟩ := h
      exact ⟨v, e, h.to sb⟩
    | own ds =>
      obtain ⟨q, xs, e, hq, hn, hx, h⟩ := h
      exact ⟨q, xs, e, List.mem_cons_of_mem _ hq, hn, k q _ (fun z => r.noA (z ▸ hq)) hx, h.to sb⟩
    | pen => exact h
  inj := r.inj
theorem off_poke {p : Addr} {o : HO} (hp : p ∈ a :: O) : Sub (Off (a :: O) H) (Off (a :: O) (upd H p o)) := fun b u e => by
  obtain ⟨n, e⟩ := off_some.mp e
  exact off_in n (by rw [upd_ne (fun z => n (by rw [z]; exact hp))]; exact e)
/-- a hidden object changes -/
theorem Rl.poke (r : Rl K a H0 O0 O ρ g σ H) {D : Addr} {o : HO} (hD : D ∈ O) (h0 : H0 D = none) (hno : ∀ (j : Nat) (es : List PyData), ρ[j]? = some (Sl.own es) → σ[j]? ≠ some (some (.ref D))) : Rl K a H0 O0 O ρ g σ (upd H D o) where
  keep := fun b u n e => by
    have nb : b ≠ D := fun z => by rw [z, h0] at e; cases e
    rw [upd_ne nb]
    exact r.keep b u n e
  pen := r.pen.to (off_poke (List.mem_cons_of_mem _ hD)) (upd_ne fun z => r.noA (z ▸ hD))
  sub := r.sub
  new := r.new
  noA := r.noA
  live := fun q hq e => by
    by_cases z : q = D
    · rw [z, upd_same] at e; cases e
    · rw [upd_ne z] at e; exact r.live q hq e
  live0 := r.live0
  len := r.len
  slot := fun i s hs => by
    have h := r.slot i s hs
    cases s with
    | un => trivial
    | val d =>
      obtain ⟨v, e, h⟩ := h
      exact ⟨v, e, h.to (off_poke (List.mem_cons_of_mem _ hD))⟩
    | own ds =>
      obtain ⟨q, xs, e, hq, hn, hx, h⟩ := h
      exact ⟨q, xs, e, hq, hn, by rw [upd_ne (fun z => hno i ds hs (by rw [e, z]))]; exact hx, h.to (off_poke (List.mem_cons_of_mem _ hD))⟩
    | pen => exact h
  inj := r.inj
/-- a slot's own list changes -/
theorem Rl.change (r : Rl K a H0 O0 O ρ g σ H) {i : Nat} {p : Addr} {ds es : List PyData} {ys : List V} (hi : ρ[i]? = some (.own ds)) (hp : σ[i]? = some (some (.ref p))) (h : DqAll K (Off (a :: O) H) ys es) :
    Rl K a H0 O0 O (ρ.set i (.own es)) g σ (upd H p (.lst ys)) := by
  obtain ⟨q, xs, e, hq, hn, hx, h'⟩ := r.slot i _ hi
  rw [hp] at e
  cases e
  have sb : Sub (Off (a :: O) H) (Off (a :: O) (upd H p (.lst ys))) := off_poke (List.mem_cons_of_mem _ hq)
  refine ⟨fun b u n e => ?_, r.pen.to sb (upd_ne fun z => r.noA (z ▸ hq)), r.sub, r.new, r.noA, fun q' hq' e => ?_, r.live0, by rw [List.length_set]; exact r.len, fun j s hs => ?_, fun j k ds' es' o h1 h2 e1 e2 => ?_⟩
  · have nb : b ≠ p := fun z => by rw [z, hn] at e; cases e
    rw [upd_ne nb]
    exact r.keep b u n e
  · by_cases z : q' = p
    · rw [z, upd_same] at e; cases e
    · rw [upd_ne z] at e; exact r.live q' hq' e
  · rcases set_slot hs with ⟨rfl, rfl, hl⟩ | ⟨hj, hs⟩
    · exact ⟨p, ys, hp, hq, hn, upd_same, h.to sb⟩
    · have z := r.slot j s hs
      cases s with
      | un => trivial
      | val d =>
        obtain ⟨v, e, z⟩ := z
        exact ⟨v, e, z.to sb⟩
      | own es' =>
        obtain ⟨q', xs', e, hq', hn', hx', z⟩ := z
        exact ⟨q', xs', e, hq', hn', by rw [upd_ne (fun y => hj (r.inj i j ds es' _ hi hs hp (by rw [e, y])))]; exact hx', z.to sb⟩
      | pen => exact z
  · rcases set_slot h1 with ⟨rfl, _, _⟩ | ⟨hj, h1⟩
    · rcases set_slot h2 with ⟨rfl, _, _⟩ | ⟨hk, h2⟩
      · rfl
      · exact r.inj _ _ _ _ o hi h2 e1 e2
    · rcases set_slot h2 with ⟨rfl, _, _⟩ | ⟨hk, h2⟩
      · exact r.inj _ _ _ _ o h1 hi e1 e2
      · exact r.inj j k ds' es' o h1 h2 e1 e2
end

/-! ### targets -/
abbrev WG := PyData → Rho → (Rho → Prop) → Prop
abbrev WGs := List PyData → Rho → (Rho → Prop) → Prop
def tG (K : PySem.W.Frag) (js : List Nat) (G : WG) : TG := fun v σ H Q => ∃ (a : Addr) (H0 : Hp) (O0 O : List Addr) (ρ : Rho) (g : Nat) (d : PyData) (S : Rho → Prop), Rl K a H0 O0 O ρ g σ H ∧ Dq K (Off (a :: O) H) v d ∧ G d ρ S ∧
  ∀ ρ' σ', (∀ vs : List Nat, (∀ j ∈ js, j ∈ vs) → L2.wipe σ' vs = L2.wipe σ vs) → Rl K a H0 O0 O ρ' g σ' H → S ρ' → Q σ' H
def tGs (K : PySem.W.Frag) (js : List Nat) (G : WGs) : TGs := fun vs σ H Q => ∃ (a : Addr) (H0 : Hp) (O0 O : List Addr) (ρ : Rho) (g : Nat) (ds : List PyData) (S : Rho → Prop), Rl K a H0 O0 O ρ g σ H ∧ DqAll K (Off (a :: O) H) vs ds ∧ G ds ρ S ∧
  ∀ ρ' σ', (∀ vs : List Nat, (∀ j ∈ js, j ∈ vs) → L2.wipe σ' vs = L2.wipe σ vs) → Rl K a H0 O0 O ρ' g σ' H → S ρ' → Q σ' H
abbrev VG (X : Cx) (e : Expr) (js : List Nat) (G : WG) : Prop := PG X e (tG X.K js G)
abbrev VGs (X : Cx) (es : List Expr) (js : List Nat) (G : WGs) : Prop := PGs X es (tGs X.K js G)
theorem wipe_set {σ : L2.St} {j : Nat} {x : Option V} : ∀ {vs : List Nat}, j ∈ vs → L2.wipe (σ.set j x) vs = L2.wipe σ vs
  | [], h => absurd h (by simp)
  | v :: vs, h => by
    show (L2.wipe (σ.set j x) vs).set v none = (L2.wipe σ vs).set v none
    by_cases hj : j ∈ vs
    · rw [wipe_set hj]
    · have e : j = v := by
        rcases List.mem_cons.mp h with z | z
        · exact z
        · exact absurd z hj
      subst e
      have q : ∀ ws : List Nat, j ∉ ws → L2.wipe (σ.set j x) ws = (L2.wipe σ ws).set j x := by
        intro ws
        induction ws with
        | nil => intro _; rfl
        | cons u ws ih =>
          intro hn
          show (L2.wipe (σ.set j x) ws).set u none = ((L2.wipe σ ws).set u none).set j x
          rw [ih (fun z => hn (List.mem_cons_of_mem _ z)), List.set_comm _ _ (fun z => hn (by rw [z]; exact List.mem_cons_self))]
      rw [q vs hj, List.set_set]
theorem wipe_wipe {σ : L2.St} {vs : List Nat} : ∀ {us : List Nat}, (∀ j ∈ us, j ∈ vs) → L2.wipe (L2.wipe σ us) vs = L2.wipe σ vs
  | [], _ => rfl
  | u :: us, h => by
    show L2.wipe ((L2.wipe σ us).set u none) vs = L2.wipe σ vs
    rw [wipe_set (h u List.mem_cons_self), wipe_wipe fun j hj => h j (List.mem_cons_of_mem _ hj)]
section
variable {X : Cx} {e : Expr} {es : List Expr} {pos : Pos}
theorem pg_weak {t t' : TG} (h : PG X e t) (w : ∀ v σ H Q, t' v σ H Q → t v σ H Q) : PG X e t' := ⟨fun pins s σ H v u Q I r q => h.run pins s σ H v u Q I r (w v σ H Q q)⟩
theorem pgs_weak {t t' : TGs} (h : PGs X es t) (w : ∀ v σ H Q, t' v σ H Q → t v σ H Q) : PGs X es t' := ⟨fun pins s σ H v u Q I r q => h.run pins s σ H v u Q I r (w v σ H Q q)⟩
def gN (j : Nat) : WG := fun d ρ S => S (ρ.set j (.val d))
theorem vg_n (j : Nat) {x : Str} (hN : X.N.Nodup) (hi : X.N[j]? = some x := by rfl) (hx : Loc X.env.scope x := by first | exact Or.inl rfl | exact Or.inr rfl) (hf : X.fn x = true ∨ X.env.scope.names.lookup x = some .local := by first | exact .inl rfl | exact .inr rfl | assumption) : VG X (.Name x pos) [j] (gN j) :=
  pg_weak (pg_name hN hi hx hf) fun v σ H Q ⟨a, H0, O0, O, ρ, g, d, S, r, hd, w, q⟩ => q _ _ (fun vs hv => wipe_set (hv j (List.mem_singleton.mpr rfl))) (r.setVal hd) w
def gsNil : WGs := fun ds ρ S => ds = [] ∧ S ρ
def gsCons (G : WG) (Gs : WGs) : WGs := fun ds ρ S => match ds with
  | d :: r => G d ρ fun ρ' => Gs r ρ' S
  | [] => False
theorem vgs_nil : VGs X [] [] gsNil := pgs_weak pgs_nil fun vs σ H Q ⟨a, H0, O0, O, ρ, g, ds, S, r, hd, w, q⟩ => by
  obtain ⟨rfl, w⟩ := w
  cases hd
  exact ⟨rfl, q _ _ (fun _ _ => rfl) r w⟩
theorem vgs_cons {js ks : List Nat} {G : WG} {Gs : WGs} (h : VG X e js G) (t : VGs X es ks Gs) (hs : (assignEach (e :: es) X.env).map (·.2) = assign e X.env :: (assignEach es X.env).map (·.2) := by rfl) : VGs X (e :: es) (js ++ ks) (gsCons G Gs) :=
  pgs_weak (pgs_cons h t hs) fun vs σ H Q ⟨a, H0, O0, O, ρ, g, ds, S, r, hd, w, q⟩ => by
    cases hd with
    | nil => exact w.elim
    | @cons v vs d ds h1 h2 =>
      exact ⟨v, vs, rfl, a, H0, O0, O, ρ, g, d, _, r, h1, w, fun ρ' σ' hw r' w' => ⟨a, H0, O0, O, ρ', g, ds, S, r', h2, w', fun ρ2 σ2 hw2 r2 w2 => q ρ2 σ2 (fun vs hv => (hw2 vs fun j hj => hv j (List.mem_append_right _ hj)).trans (hw vs fun j hj => hv j (List.mem_append_left _ hj))) r2 w2⟩⟩
def gT (n : Nat) (Gs : WGs) : WG := fun d ρ S => match d with
  | .tuple ds => ds.length = n ∧ Gs ds ρ S
  | _ => False
end

/-! ### what is iterated -/
def Feed (K : PySem.W.Frag) (a : Addr) (Hd : Hp) (J : It) (ds : List PyData) : Prop := ∀ (i : Nat) (O' : List Addr) (H2 : Hp), Sub Hd (Off (a :: O') H2) → (∀ p ∈ a :: O', H2 p ≠ none) →
  (∀ d, ds[i]? = some d → J.go i H2 ∧ ∀ x H3, J.yld i H2 x H3 → Sub H2 H3 ∧ Dq K (Off (a :: O') H3) x d) ∧ (ds.length ≤ i → J.stop i H2)
def tI (K : PySem.W.Frag) (WI : WL) : TI := fun σ H S => ∃ (a : Addr) (H0 : Hp) (O0 O : List Addr) (ρ : Rho) (g : Nat) (R : List PyData → Nat → Prop), Rl K a H0 O0 O ρ g σ H ∧ WI ρ g R ∧
  ∀ ds g' J H', Kp a H H' → Rl K a H0 O0 O ρ g' σ H' → Feed K a (Off (a :: O) H') J ds → R ds g' → S J H'
abbrev VI (X : Cx) (tg e : Expr) (W : WL) : Prop := PI X tg e (tI X.K W)
section
variable {X : Cx} {tg e : Expr} {es : List Expr} {pos : Pos}
theorem pi_weak {t t' : TI} (h : PI X tg e t) (w : ∀ σ H R, t' σ H R → t σ H R) : PI X tg e t' := ⟨fun pins s σ H R I q => h.run pins s σ H R I (w σ H R q)⟩
theorem feed_list {K : PySem.W.Frag} {a l : Addr} {Hd : Hp} {xs : List V} {ds : List PyData} (h : Hd l = some (.lst xs)) (hd : DqAll K Hd xs ds) : Feed K a Hd (Itl K l) ds := fun i O' H2 s _ => by
  have hl : SqL K H2 l xs := SqL.of (off_out _ _ (s _ _ h))
  refine ⟨fun d e => ?_, fun hi => ⟨xs, hl, by rw [hd.len]; exact hi⟩⟩
  obtain ⟨v, hv, dv⟩ := DqAll.at hd e
  refine ⟨⟨xs, v, hl, hv⟩, fun x H3 ⟨e3, hx⟩ => ?_⟩
  subst e3
  have := hx xs hl
  rw [hv] at this
  cases this
  exact ⟨Sub.refl _, dv.to s⟩
theorem feed_tup {K : PySem.W.Frag} {a l : Addr} {Hd : Hp} {xs : List V} {ds : List PyData} (h : SqT K Hd l xs) (hd : DqAll K Hd xs ds) : Feed K a Hd (Itt K l) ds := fun i O' H2 s _ => by
  have hl : SqT K H2 l xs := sqt_mono off_out (sqt_mono s h)
  refine ⟨fun d e => ?_, fun hi => ⟨xs, hl, by rw [hd.len]; exact hi⟩⟩
  obtain ⟨v, hv, dv⟩ := DqAll.at hd e
  refine ⟨⟨xs, v, hl, hv⟩, fun x H3 ⟨e3, hx⟩ => ?_⟩
  subst e3
  have := hx xs hl
  rw [hv] at this
  cases this
  exact ⟨Sub.refl _, dv.to s⟩
/-- for x in (a list | a tuple): which one must be known -/
def iL (W : WE) : WL := fun ρ g R => W ρ g fun d g1 => match d with
  | .list ds => R ds g1
  | _ => False
def iT (W : WE) : WL := fun ρ g R => W ρ g fun d g1 => match d with
  | .tuple ds => R ds g1
  | _ => False
theorem vi_list {W : WE} (h : VE X e W) : VI X tg e (iL W) := pi_weak (pi_list h) fun σ H S ⟨a, H0, O0, O, ρ, g, R, r, w, q⟩ => ⟨a, H0, O0, O, ρ, g, _, r, w, fun d g1 v H1 k1 r1 d1 w1 => by
  cases d1 with
  | lst h1 h2 => exact ⟨_, rfl, ⟨_, SqL.of (off_out _ _ h1)⟩, q _ g1 _ H1 k1 r1 (feed_list h1 h2) w1⟩
  | _ => exact w1.elim⟩
theorem vi_tup {W : WE} (h : VE X e W) : VI X tg e (iT W) := pi_weak (pi_tup h) fun σ H S ⟨a, H0, O0, O, ρ, g, R, r, w, q⟩ => ⟨a, H0, O0, O, ρ, g, _, r, w, fun d g1 v H1 k1 r1 d1 w1 => by
  cases d1 with
  | tup h1 h2 => exact ⟨_, rfl, ⟨_, sqt_mono off_out h1⟩, q _ g1 _ H1 k1 r1 (feed_tup h1 h2) w1⟩
  | _ => exact w1.elim⟩
def rangeD (i j : Int) : List PyData := (List.range (j - i).toNat).map fun k => .int (i + (k : Nat))
theorem feed_rng {K : PySem.W.Frag} {a : Addr} {Hd : Hp} (lo : Int) (n : Nat) : Feed K a Hd (Itr lo n) ((List.range n).map fun k => .int (lo + (k : Nat))) := fun i O' H2 s _ => by
  refine ⟨fun d e => ?_, fun hi => (show n ≤ i by simpa using hi)⟩
  rw [List.getElem?_map] at e
  by_cases hi : i < n
  · rw [List.getElem?_range hi] at e
    cases e
    refine ⟨hi, fun x H3 ⟨e3, hx⟩ => ?_⟩
    subst e3 hx
    exact ⟨Sub.refl _, .int _⟩
  · rw [List.getElem?_eq_none (by simpa using hi)] at e
    cases e
def iR1 (V : WL) : WL := fun ρ g R => V ρ g fun ds g1 => match ds with
  | [.int j] => (-(2 ^ 62) ≤ j ∧ j < 2 ^ 62) ∧ R (rangeD 0 j) g1
  | _ => False
def iR2 (V : WL) : WL := fun ρ g R => V ρ g fun ds g1 => match ds with
  | [.int i, .int j] => (-(2 ^ 62) ≤ i ∧ i < 2 ^ 62 ∧ -(2 ^ 62) ≤ j ∧ j < 2 ^ 62) ∧ R (rangeD i j) g1
  | _ => False
theorem vi_range1 {V : WL} {p : Pos} (hg : Gl X "range") (hm : X.mg "range" = none) (h : VA X [e] V) (hs : starEach [e] X.env = [(false, eval e X.env)] := by rfl) : VI X tg (.Call (.Name "range" p) [e] [] pos) (iR1 V) :=
  pi_weak (pi_range1 hg hm h hs) fun σ H S ⟨a, H0, O0, O, ρ, g, R, r, w, q⟩ => ⟨a, H0, O0, O, ρ, g, _, r, w, fun ds g1 vs H1 k1 r1 d1 w1 => by
    cases d1 with
    | nil => exact w1.elim
    | cons h1 t =>
      cases t with
      | cons _ _ => cases h1 <;> exact w1.elim
      | nil =>
        cases h1 with
        | int j =>
          refine ⟨j, rfl, w1.1.1, w1.1.2, q _ g1 _ H1 k1 r1 ?_ w1.2⟩
          have := feed_rng (K := X.K) (a := a) (Hd := Off (a :: O) H1) 0 j.toNat
          have e : rangeD 0 j = (List.range j.toNat).map fun k => PyData.int (0 + (k : Nat)) := by unfold rangeD; rw [Int.sub_zero]
          rw [e]
          exact this
        | _ => exact w1.elim⟩
theorem vi_range2 {e2 : Expr} {V : WL} {p : Pos} (hg : Gl X "range") (hm : X.mg "range" = none) (h : VA X [e, e2] V) (hs : starEach [e, e2] X.env = [(false, eval e X.env), (false, eval e2 X.env)] := by rfl) (hs2 : starEach [e2] X.env = [(false, eval e2 X.env)] := by rfl) :
    VI X tg (.Call (.Name "range" p) [e, e2] [] pos) (iR2 V) :=
  pi_weak (pi_range2 hg hm h hs hs2) fun σ H S ⟨a, H0, O0, O, ρ, g, R, r, w, q⟩ => ⟨a, H0, O0, O, ρ, g, _, r, w, fun ds g1 vs H1 k1 r1 d1 w1 => by
    cases d1 with
    | nil => exact w1.elim
    | cons h1 t =>
      cases t with
      | nil => cases h1 <;> exact w1.elim
      | cons h2 t =>
        cases t with
        | cons _ _ => cases h1 <;> cases h2 <;> exact w1.elim
        | nil =>
          cases h1 with
          | int i =>
            cases h2 with
            | int j => exact ⟨i, j, rfl, w1.1, q _ g1 _ H1 k1 r1 (feed_rng i (j - i).toNat) w1.2⟩
            | _ => exact w1.elim
          | _ => exact w1.elim⟩
end

/-! ### comprehensions -/
def wYes : WT := fun _ g R => R true g
def lcV (G : WG) (T : WT) (E : WE) : List PyData → Rho → List PyData → Nat → (List PyData → Nat → Prop) → Prop
  | [], _, acc, g, R => R acc g
  | d :: ds, ρ, acc, g, R => G d ρ fun ρ' => T ρ' g fun b g1 => if b = true then E ρ' g1 fun y g2 => lcV G T E ds ρ (acc ++ [y]) g2 R else lcV G T E ds ρ acc g1 R
def lLc (WI : WL) (G : WG) (T : WT) (E : WE) (vs : List Nat) : WL := fun ρ g R => WI ρ g fun ds g1 => ds.length ≤ sizeLine ∧ lcV G T E ds (wipeV ρ vs) [] g1 R
theorem tL_lc {K : PySem.W.Frag} {WI : WL} {js : List Nat} {G : WG} {T : WT} {E : WE} {vs : List Nat} (hj : ∀ j ∈ js, j ∈ vs) : ∀ σ H Q, tL K (lLc WI G T E vs) σ H Q → tLc (tI K WI) (tG K js G) (tT K T) (tE K E) vs σ H Q :=
  fun σ H Q ⟨a, H0, O0, O, ρ, g, R, r, w, q⟩ => ⟨a, H0, O0, O, ρ, g, _, r, w, fun ds g1 J H1 k1 r1 fd w1 D hD => by
    obtain ⟨hz, w1⟩ := w1
    have hD0 : H D = none := by
      cases e : H D with
      | none => rfl
      | some o =>
        by_cases z : D = a
        · exact absurd hD (r1.liveA D (by rw [z]; exact List.mem_cons_self))
        · rw [k1 D o z e] at hD
          cases hD
    have nDa : D ≠ a := fun z => r1.pen.live (z ▸ hD)
    have hno : ∀ (j : Nat) (es : List PyData), (wipeV ρ vs)[j]? = some (Sl.own es) → (L2.wipe σ vs)[j]? ≠ some (some (.ref D)) := fun j es h e => by
      obtain ⟨q', xs, e', hq, _⟩ := (r1.wipe vs).slot j _ h
      rw [e] at e'
      cases e'
      exact r1.live D hq hD
    have st : ∀ {y : V} {H4 : Hp} {o : HO}, Kp a H1 H4 → Kp a H1 (upd H4 D o) := fun {y H4 o} k b u n e => by
      rw [upd_ne (ne_of_none e hD)]
      exact k b u n e
    refine ⟨fun i m H' => ∃ g' acc xs, m = ds.length - i ∧ i ≤ ds.length ∧ Kp a H1 H' ∧ Rl K a H0 O0 (D :: O) (wipeV ρ vs) g' (L2.wipe σ vs) H' ∧ H' D = some (.lst xs) ∧ DqAll K (Off (a :: D :: O) H') xs acc ∧ acc.length ≤ i ∧ lcV G T E (ds.drop i) (wipeV ρ vs) acc g' R,
      ⟨ds.length, g1, [], [], rfl, Nat.zero_le _, Kp.of (sub_upd hD), (r1.wipe vs).hide hD, upd_same, .nil, Nat.le_refl _, w1⟩, ?_⟩
    rintro i m H2 ⟨g2, acc, xs, rfl, hi, k2, r2, hx, hd, hl, w2⟩
    have sb : Sub (Off (a :: O) H1) (Off (a :: D :: O) H2) := fun b o e => by
      obtain ⟨n, e⟩ := off_some.mp e
      have na : b ≠ a := fun z => n (by rw [z]; exact List.mem_cons_self)
      refine off_in (fun z => ?_) (k2 b o na e)
      rcases List.mem_cons.mp z with z | z
      · exact na z
      · rcases List.mem_cons.mp z with z | z
        · rw [z, hD] at e
          cases e
        · exact n (List.mem_cons_of_mem _ z)
    obtain ⟨f1, f2⟩ := fd i (D :: O) H2 sb r2.liveA
    by_cases hlt : i < ds.length
    · have e0 : ds.drop i = ds[i] :: ds.drop (i + 1) := List.drop_eq_getElem_cons hlt
      rw [e0] at w2
      obtain ⟨go, f3⟩ := f1 ds[i] (List.getElem?_eq_getElem hlt)
      refine .inr ⟨go, fun H' => ∃ g' acc xs, Kp a H1 H' ∧ Rl K a H0 O0 (D :: O) (wipeV ρ vs) g' (L2.wipe σ vs) H' ∧ H' D = some (.lst xs) ∧ DqAll K (Off (a :: D :: O) H') xs acc ∧ acc.length ≤ i + 1 ∧ lcV G T E (ds.drop (i + 1)) (wipeV ρ vs) acc g' R,
        fun H' ⟨g', acc, xs, z⟩ => ⟨ds.length - (i + 1), by omega, g', acc, xs, rfl, hlt, z⟩, fun x H3 hy => ?_⟩
      obtain ⟨s3, dx⟩ := f3 x H3 hy
      refine ⟨a, H0, O0, D :: O, wipeV ρ vs, g2, ds[i], _, r2.ext s3, dx, w2, fun ρ' σ' hw r' w' => ⟨(hw vs hj).trans (wipe_wipe fun _ h => h), ?_⟩⟩
      refine ⟨a, H0, O0, D :: O, ρ', g2, _, r', w', fun b g3 H4 k4 r4 w4 => ?_⟩
      have back : ∀ {H5 : Hp} {g5 : Nat}, Kp a H3 H5 → Pen K a (D :: O) g5 H5 → Rl K a H0 O0 (D :: O) (wipeV ρ vs) g5 (L2.wipe σ vs) H5 := fun {H5 g5} k p => (r2.ext s3).step k p
      cases b with
      | true =>
        rw [if_pos rfl] at w4
        refine iteT ?_
        refine ⟨a, H0, O0, D :: O, ρ', g3, _, r4, w4, fun y g5 v H5 k5 r5 d5 w5 => ?_⟩
        have k35 : Kp a H3 H5 := k4.trans k5
        have hD5 : H5 D = some (.lst xs) := k35 D _ nDa (s3 _ _ hx)
        refine ⟨xs, hD5, by rw [hd.len]; omega, g5, acc ++ [y], xs ++ [v], ?_, ?_, upd_same, ?_, by rw [List.length_append, List.length_singleton]; omega, w5⟩
        · exact st (y := v) ((k2.trans (Kp.of s3)).trans k35)
        · exact (back k35 r5.pen).poke List.mem_cons_self (r1.freshH hD) hno
        · have s5 : Sub (Off (a :: D :: O) H5) (Off (a :: D :: O) (upd H5 D (.lst (xs ++ [v])))) := off_poke (List.mem_cons_of_mem _ List.mem_cons_self)
          exact DqAll.app (((hd.to (off_mono s3)).to (off_kp k35)).to s5) (.cons (d5.to s5) .nil)
      | false =>
        rw [if_neg Bool.false_ne_true] at w4
        refine iteF ?_
        exact ⟨g3, acc, xs, (k2.trans (Kp.of s3)).trans k4, back k4 r4.pen, k4 D _ nDa (s3 _ _ hx), (hd.to (off_mono s3)).to (off_kp k4), by omega, w4⟩
    · have e0 : ds.drop i = [] := List.drop_eq_nil_of_le (by omega)
      rw [e0] at w2
      refine .inl ⟨f2 (by omega), ?_⟩
      exact q acc g2 D xs H2 (k1.trans k2) (r.stepH (k1.trans k2) hD0 (by rw [hx]; exact fun z => nomatch z) r2.pen) hD0 hx hd w2⟩
abbrev VTs (X : Cx) (ifs : List Expr) (T : WT) : Prop := PTs X ifs (tT X.K T)
section
variable {X : Cx} {elt tg iter c : Expr} {ifs : List Expr} {pos : Pos}
theorem pts_weak {t t' : TT} (h : PTs X ifs t) (w : ∀ σ H Q, t' σ H Q → t σ H Q) : PTs X ifs t' := ⟨fun pins s σ H Q I q => h.run pins s σ H Q I (w σ H Q q)⟩
theorem vts_nil : VTs X [] wYes := pts_weak pts_nil fun σ H Q ⟨a, H0, O0, O, ρ, g, R, r, w, q⟩ => q true g H (Kp.refl _ _) r w
theorem vts_one {T : WT} (h : VT X c T) : VTs X [c] T := pts_one h
theorem vl_lc {scope : Scope} {own : List (Str × Nat)} {WI : WL} {js : List Nat} {G : WG} {T : WT} {E : WE} (hc : X.calm = true) (hN : X.N.Nodup) (hi : VI X tg iter WI) (ok : BlkOk X.N X.env.scope scope own)
    (hg : ∀ (s : Shared) (H : Hp) (C : Addr) (cl : List (Str × Addr)) (fp : List Addr), VG (X.blk s H scope (compEnvC scope cl C X.env) fp) tg js G) (ht : ∀ (s : Shared) (H : Hp) (C : Addr) (cl : List (Str × Addr)) (fp : List Addr), VTs (X.blk s H scope (compEnvC scope cl C X.env) fp) ifs T)
    (he : ∀ (s : Shared) (H : Hp) (C : Addr) (cl : List (Str × Addr)) (fp : List Addr), VE (X.blk s H scope (compEnvC scope cl C X.env) fp) elt E) (hj : ∀ j ∈ js, j ∈ own.map (·.2) := by decide) (hs : ∀ x, foldedSetIterable iter X.env x = pure x := by intro _; rfl) :
    VL X (.ListComp elt [⟨tg, iter, ifs, 0⟩] scope pos) (lLc WI G T E (own.map (·.2))) := pe_weak (pe_lc hc hN hi ok hg ht he hs) (tL_lc hj)
end

/-! ### statements -/
structure EndsV where
  nx : Rho → Nat → Prop
  rt : PyData → Nat → Prop
  bk : Rho → Nat → Prop := fun _ _ => False
  ct : Rho → Nat → Prop := fun _ _ => False
abbrev WS := EndsV → Rho → Nat → Prop
structure Er (K : PySem.W.Frag) (a : Addr) (H0 : Hp) (O0 : List Addr) (Hd : Hp) (V : EndsV) (D : Ends) : Prop where
  nx : ∀ O' ρ' g' σ' H', Sub Hd (Off (a :: O') H') → Rl K a H0 O0 O' ρ' g' σ' H' → V.nx ρ' g' → D.nx σ' H'
  bk : ∀ O' ρ' g' σ' H', Sub Hd (Off (a :: O') H') → Rl K a H0 O0 O' ρ' g' σ' H' → V.bk ρ' g' → D.bk σ' H'
  ct : ∀ O' ρ' g' σ' H', Sub Hd (Off (a :: O') H') → Rl K a H0 O0 O' ρ' g' σ' H' → V.ct ρ' g' → D.ct σ' H'
  rt : ∀ d g' v H', Kp a H0 H' → Pen K a O0 g' H' → Dq K (Off (a :: O0) H') v d → V.rt d g' → D.rt v H'
theorem Er.on {K : PySem.W.Frag} {a : Addr} {H0 : Hp} {O0 : List Addr} {Hd Hd' : Hp} {V : EndsV} {D : Ends} (e : Er K a H0 O0 Hd V D) (s : Sub Hd Hd') : Er K a H0 O0 Hd' V D :=
  ⟨fun O' ρ' g' σ' H' z => e.nx O' ρ' g' σ' H' (s.trans z), fun O' ρ' g' σ' H' z => e.bk O' ρ' g' σ' H' (s.trans z), fun O' ρ' g' σ' H' z => e.ct O' ρ' g' σ' H' (s.trans z), e.rt⟩
def tS (K : PySem.W.Frag) (W : WS) : TS := fun D σ H => ∃ (a : Addr) (H0 : Hp) (O0 O : List Addr) (ρ : Rho) (g : Nat) (V : EndsV), Rl K a H0 O0 O ρ g σ H ∧ W V ρ g ∧ Er K a H0 O0 (Off (a :: O) H) V D
abbrev VS (X : Cx) (st : Stmt) (W : WS) : Prop := PS X st (tS X.K W)
abbrev VSs (X : Cx) (st : List Stmt) (W : WS) : Prop := PSs X st (tS X.K W)
section
variable {X : Cx} {st : Stmt} {rest as bs : List Stmt} {e c : Expr} {pos : Pos} {W V : WS}
theorem ps_weak {t t' : TS} (h : PS X st t) (w : ∀ D σ H, t' D σ H → t D σ H) : PS X st t' := ⟨fun pins s σ H D I q => h.run pins s σ H D I (w D σ H q)⟩
theorem pss_weak {t t' : TS} (h : PSs X rest t) (w : ∀ D σ H, t' D σ H → t D σ H) : PSs X rest t' := ⟨fun pins s σ H D I q => h.run pins s σ H D I (w D σ H q)⟩
def sNext : WS := fun V ρ g => V.nx ρ g
def sSeq (W V : WS) : WS := fun D => W { D with nx := V D }
theorem tS_next {K : PySem.W.Frag} : ∀ D σ H, tS K sNext D σ H → tNext D σ H := fun D σ H ⟨a, H0, O0, O, ρ, g, V, r, w, e⟩ => e.nx O ρ g σ H (Sub.refl _) r w
theorem vss_nil : VSs X [] sNext := pss_weak pss_nil tS_next
theorem vs_pass : VS X (.Pass pos) sNext := ps_weak ps_pass tS_next
theorem vs_doc {x j pos pos'} : VS X (.Expr (.Constant (.str x) j pos) pos') sNext := ps_weak ps_doc tS_next
theorem vss_cons (h : VS X st W) (t : VSs X rest V) : VSs X (st :: rest) (sSeq W V) := pss_weak (pss_cons h t) fun D σ H ⟨a, H0, O0, O, ρ, g, U, r, w, e⟩ => ⟨a, H0, O0, O, ρ, g, _, r, w,
  ⟨fun O' ρ' g' σ' H' s r' w' => ⟨a, H0, O0, O', ρ', g', U, r', w', e.on s⟩, e.bk, e.ct, e.rt⟩⟩
theorem vss_one (h : VS X st W) : VSs X [st] W := pss_one h
def sBreak : WS := fun V ρ g => V.bk ρ g
def sCont : WS := fun V ρ g => V.ct ρ g
theorem vs_break : VS X (.Break pos) sBreak := ps_weak ps_break fun D σ H ⟨a, H0, O0, O, ρ, g, V, r, w, e⟩ => e.bk O ρ g σ H (Sub.refl _) r w
theorem vs_cont : VS X (.Continue pos) sCont := ps_weak ps_continue fun D σ H ⟨a, H0, O0, O, ρ, g, V, r, w, e⟩ => e.ct O ρ g σ H (Sub.refl _) r w
def sRet (W : WE) : WS := fun V ρ g => W ρ g V.rt
theorem Rl.back {K : PySem.W.Frag} {a : Addr} {H0 H : Hp} {O0 O : List Addr} {ρ : Rho} {g : Nat} {σ : L2.St} (r : Rl K a H0 O0 O ρ g σ H) : Sub (Off (a :: O) H) (Off (a :: O0) H) := off_sub fun b hb => by
  rcases List.mem_cons.mp hb with z | z
  · rw [z]; exact List.mem_cons_self
  · exact List.mem_cons_of_mem _ (r.sub b z)
theorem vs_ret {W : WE} (h : VE X e W) : VS X (.Return (some e) pos) (sRet W) := ps_weak (ps_ret h) fun D σ H ⟨a, H0, O0, O, ρ, g, V, r, w, en⟩ => ⟨a, H0, O0, O, ρ, g, _, r, w, fun d g1 v H1 k1 r1 d1 w1 =>
  en.rt d g1 v H1 r1.keep (r1.pen.to r1.back rfl) (d1.to r1.back) w1⟩
def sRetN : WS := fun V _ g => V.rt .none g
theorem vs_retN : VS X (.Return none pos) sRetN := ps_weak ps_retN fun D σ H ⟨a, H0, O0, O, ρ, g, V, r, w, en⟩ => en.rt _ g _ H r.keep (r.pen.to r.back rfl) .non w
def sIf (T : WT) (W V : WS) : WS := fun D ρ g => T ρ g fun k g1 => if k = true then W D ρ g1 else V D ρ g1
theorem vs_if {T : WT} (h : VT X c T) (ha : VSs X as W) (hb : VSs X bs V) : VS X (.If c as bs pos) (sIf T W V) := ps_weak (ps_if h ha hb) fun D σ H ⟨a, H0, O0, O, ρ, g, U, r, w, en⟩ => ⟨a, H0, O0, O, ρ, g, _, r, w, fun k g1 H1 k1 r1 w1 => by
  cases k with
  | true =>
    rw [if_pos rfl] at w1 ⊢
    exact ⟨a, H0, O0, O, ρ, g1, U, r1, w1, en.on (off_kp k1)⟩
  | false =>
    rw [if_neg Bool.false_ne_true] at w1 ⊢
    exact ⟨a, H0, O0, O, ρ, g1, U, r1, w1, en.on (off_kp k1)⟩⟩
def sSet (i : Nat) (W : WE) : WS := fun V ρ g => W ρ g fun d g1 => V.nx (ρ.set i (.val d)) g1
theorem tS_set {K : PySem.W.Frag} {i : Nat} {W : WE} : ∀ D σ H, tS K (sSet i W) D σ H → tAsg (tE K W) (gName i) D σ H := fun D σ H ⟨a, H0, O0, O, ρ, g, V, r, w, en⟩ => ⟨a, H0, O0, O, ρ, g, _, r, w, fun d g1 v H1 k1 r1 d1 w1 =>
  en.nx O _ g1 _ H1 (off_kp k1) (r1.setVal d1) w1⟩
theorem vs_set (i : Nat) {x : Str} {W : WE} {pos' : Pos} (hN : X.N.Nodup) (he : VE X e W) (hi : X.N[i]? = some x := by rfl) (hx : Loc X.env.scope x := by first | exact Or.inl rfl | exact Or.inr rfl) (hs : swapsWith e (some (.Name x pos')) pos.line X.env = pure false := by rfl)
    (hf : X.fn x = true ∨ X.env.scope.names.lookup x = some .local := by first | exact .inl rfl | exact .inr rfl | assumption) : VS X (.Assign [.Name x pos'] e pos) (sSet i W) := ps_weak (ps_set hN hi hx he hs hf) tS_set
def sOwn (i : Nat) (W : WL) : WS := fun V ρ g => W ρ g fun ds g1 => V.nx (ρ.set i (.own ds)) g1
theorem tS_own {K : PySem.W.Frag} {i : Nat} {W : WL} : ∀ D σ H, tS K (sOwn i W) D σ H → tAsg (tL K W) (gName i) D σ H := fun D σ H ⟨a, H0, O0, O, ρ, g, V, r, w, en⟩ => ⟨a, H0, O0, O, ρ, g, _, r, w, fun ds g1 p xs H1 k1 r1 hp hx d1 w1 => by
  refine en.nx (p :: O) _ g1 _ H1 (fun b o e => ?_) (r1.setOwn List.mem_cons_self (r.freshH hp) hx d1 fun j es hj hs e => ?_) w1
  · obtain ⟨n, e⟩ := off_some.mp e
    have na : b ≠ a := fun z => n (by rw [z]; exact List.mem_cons_self)
    refine off_in (fun z => ?_) (k1 b o na e)
    rcases List.mem_cons.mp z with z | z
    · exact na z
    · rcases List.mem_cons.mp z with z | z
      · rw [z, hp] at e
        cases e
      · exact n (List.mem_cons_of_mem _ z)
  · obtain ⟨q, _, e', hq, _⟩ := r.slot j _ hs
    rw [e] at e'
    cases e'
    exact r.live p hq hp⟩
theorem vs_own (i : Nat) {x : Str} {W : WL} {pos' : Pos} (hN : X.N.Nodup) (he : VL X e W) (hi : X.N[i]? = some x := by rfl) (hx : Loc X.env.scope x := by first | exact Or.inl rfl | exact Or.inr rfl) (hs : swapsWith e (some (.Name x pos')) pos.line X.env = pure false := by rfl)
    (hf : X.fn x = true ∨ X.env.scope.names.lookup x = some .local := by first | exact .inl rfl | exact .inr rfl | assumption) : VS X (.Assign [.Name x pos'] e pos) (sOwn i W) := ps_weak (ps_set hN hi hx he hs hf) tS_own
/-- ghost: the slot's own list is plain data from here on -/
def sDis (i : Nat) (W : WS) : WS := fun V ρ g => ∃ ds, ρ[i]? = some (.own ds) ∧ W V (ρ.set i (.val (.list ds))) g
theorem tS_dis {K : PySem.W.Frag} {i : Nat} {W : WS} : ∀ D σ H, tS K (sDis i W) D σ H → tS K W D σ H := fun D σ H ⟨a, H0, O0, O, ρ, g, V, r, ⟨ds, hi, w⟩, en⟩ => by
  obtain ⟨O', s, r'⟩ := r.disown hi
  exact ⟨a, H0, O0, O', _, g, V, r', w, en.on s⟩
theorem vss_dis (i : Nat) (h : VSs X rest W) : VSs X rest (sDis i W) := pss_weak h tS_dis
/-- x[k] = e, x a slot's own list -/
def sSetIx (i : Nat) (We Wk : WE) : WS := fun V ρ g => ∃ ds, ρ[i]? = some (.own ds) ∧ We ρ g fun d g1 => Wk ρ g1 fun k g2 => ∃ z j, k = .int z ∧ ixN ds.length z = some j ∧ V.nx (ρ.set i (.own (ds.set j d))) g2
theorem same_set {α : Type} {l : List α} {i : Nat} {x : α} (h : l[i]? = some x) : l.set i x = l := by
  obtain ⟨hl, e⟩ := List.getElem?_eq_some_iff.mp h
  rw [← e]
  exact List.set_getElem_self hl
theorem vs_setIx (i : Nat) {x : Str} {k : Expr} {We Wk : WE} {p1 p2 : Pos} (he : VE X e We) (hk : VE X k Wk) (hN : X.N[i]? = some x := by rfl) (hv : Vis X.env.scope x := by first | exact Or.inl rfl | exact Or.inr (Or.inl rfl) | exact Or.inr (Or.inr rfl)) (hd : (x == ("__debug__" : Str)) = false := by decide)
    (hcd : (x == ("__classdict__" : Str)) = false := by decide) (ha : ∀ v, assign (.Subscript (.Name x p1) k p2) X.env v = (do
      let ov ← holding [v] (eval (.Name x p1) X.env)
      let iv ← holding [v, ov] (eval k X.env)
      standAt p2
      holding [v, ov, iv] (setItem ov iv v)
      release [v, ov, iv] []) := by intro _; rfl) (hs : swapsWithSole [.Subscript (.Name x p1) k p2] e pos.line X.env = pure false := by rfl) (hw : swappedStores [.Subscript (.Name x p1) k p2] e X.env = pure none := by rfl) :
    VS X (.Assign [.Subscript (.Name x p1) k p2] e pos) (sSetIx i We Wk) := ps_weak (ps_asg he (pg_sub (pe_var hN hv hd hcd) hk set_list ha) hs hw) fun D σ H ⟨a, H0, O0, O, ρ, g, V, r, ⟨ds, hi, w⟩, en⟩ => ⟨a, H0, O0, O, ρ, g, _, r, w, fun d g1 v H1 k1 r1 d1 w1 => by
    obtain ⟨p, xs, e, hp, hn, hx, hd1⟩ := r1.slot i _ hi
    refine ⟨.ref p, e, a, H0, O0, O, ρ, g1, _, r1, w1, fun kd g2 kv H2 k2 r2 d2 w2 => ?_⟩
    obtain ⟨z, j, rfl, hz, w2⟩ := w2
    cases d2
    have hx2 : H2 p = some (.lst xs) := k2 p _ (fun y => r.noA (y ▸ hp)) hx
    have hd2 : DqAll X.K (Off (a :: O) H2) xs ds := hd1.to (off_kp k2)
    refine ⟨p, xs, z, j, rfl, rfl, hx2, by rw [hd2.len]; exact hz, ?_⟩
    have r3 := r2.change (ys := xs.set j v) hi e (DqAll.set (d1.to (off_kp k2)) j hd2)
    exact en.nx O _ g2 _ _ ((off_kp (k1.trans k2)).trans (off_poke (List.mem_cons_of_mem _ hp))) r3 w2⟩
/-- x.append(e), x a slot's own list -/
def sApp (i : Nat) (We : WE) : WS := fun V ρ g => ∃ ds, ρ[i]? = some (.own ds) ∧ We ρ g fun d g1 => ds.length < sizeLine ∧ V.nx (ρ.set i (.own (ds ++ [d]))) g1
theorem tS_app {K : PySem.W.Frag} {i : Nat} {We : WE} : ∀ D σ H, tS K (sApp i We) D σ H → tDrop (tBM K "list" rAppend (tVar i) (tCons (tE K We) tNil)) D σ H := fun D σ H ⟨a, H0, O0, O, ρ, g, V, r, ⟨ds, hi, w⟩, en⟩ => by
  obtain ⟨p, xs, e, hp, hn, hx, hd⟩ := r.slot i _ hi
  refine ⟨.ref p, e, .inl ⟨rfl, _, SqL.of hx⟩, a, H0, O0, O, ρ, g, _, r, w, fun d g1 v H1 k1 r1 d1 w1 => ?_⟩
  have hx1 : H1 p = some (.lst xs) := k1 p _ (fun y => r.noA (y ▸ hp)) hx
  have hd2 : DqAll K (Off (a :: O) H1) xs ds := hd.to (off_kp k1)
  refine ⟨p, xs, v, rfl, rfl, hx1, by rw [hd2.len]; exact w1.1, ?_⟩
  exact en.nx O _ g1 _ _ ((off_kp k1).trans (off_poke (List.mem_cons_of_mem _ hp))) (r1.change (ys := xs ++ [v]) hi e (DqAll.app hd2 (.cons d1 .nil))) w1.2
/-- a, b, .. = e, e's value a tuple -/
def sUnp (n : Nat) (W : WE) (Gs : WGs) : WS := fun V ρ g => W ρ g fun d g1 => gT n Gs d ρ fun ρ' => V.nx ρ' g1
theorem vg_tup {es : List Expr} {k : Nat} {js : List Nat} {Gs : WGs} {n : Nat} (hc : X.calm = true) (h : VGs X es js Gs) (hn : es.length = n := by rfl) (hp : PG X (.Tuple es k pos) (gTup X.K n (tGs X.K js Gs))) : VG X (.Tuple es k pos) js (gT n Gs) :=
  pg_weak hp fun v σ H Q ⟨a, H0, O0, O, ρ, g, d, S, r, hd, w, q⟩ => by
    cases hd with
    | tup h1 h2 => exact ⟨_, _, rfl, sqt_mono off_out h1, by rw [h2.len]; exact w.1, a, H0, O0, O, ρ, g, _, S, r, h2, w.2, q⟩
    | _ => exact w.elim
theorem tS_asg {K : PySem.W.Frag} {W : WE} {js : List Nat} {G : WG} : ∀ D σ H, tS K (fun V ρ g => W ρ g fun d g1 => G d ρ fun ρ' => V.nx ρ' g1) D σ H → tAsg (tE K W) (tG K js G) D σ H := fun D σ H ⟨a, H0, O0, O, ρ, g, V, r, w, en⟩ =>
  ⟨a, H0, O0, O, ρ, g, _, r, w, fun d g1 v H1 k1 r1 d1 w1 => ⟨a, H0, O0, O, ρ, g1, d, _, r1, d1, w1, fun ρ' σ' _ r' w' => en.nx O ρ' g1 σ' H1 (off_kp k1) r' w'⟩⟩
def sAsg (W : WE) (G : WG) : WS := fun V ρ g => W ρ g fun d g1 => G d ρ fun ρ' => V.nx ρ' g1
theorem vs_asg {tg : Expr} {W : WE} {js : List Nat} {G : WG} (he : VE X e W) (hg : VG X tg js G) (hs : swapsWithSole [tg] e pos.line X.env = pure false := by rfl) (hw : swappedStores [tg] e X.env = pure none := by rfl) (h1 : (assignEach [tg] X.env).map (·.2) = [assign tg X.env] := by rfl) : VS X (.Assign [tg] e pos) (sAsg W G) := ps_weak (ps_asg he hg hs hw h1) tS_asg

/-! ### for -/
def loopV (G : WG) (B : WS) (V : EndsV) : List PyData → Rho → Nat → Prop
  | [], ρ, g => V.nx ρ g
  | d :: ds, ρ, g => G d ρ fun ρ' => B { nx := loopV G B V ds, rt := V.rt, bk := V.nx, ct := loopV G B V ds } ρ' g
def sFor (WI : WL) (G : WG) (B : WS) : WS := fun V ρ g => WI ρ g fun ds g1 => loopV G B V ds ρ g1
theorem tS_for {K : PySem.W.Frag} {WI : WL} {js : List Nat} {G : WG} {B : WS} : ∀ D σ H, tS K (sFor WI G B) D σ H → tFor (tI K WI) (tG K js G) (tS K B) D σ H := fun D σ H ⟨a, H0, O0, O, ρ, g, V, r, w, en⟩ =>
  ⟨a, H0, O0, O, ρ, g, _, r, w, fun ds g1 J H1 k1 r1 fd w1 => by
    refine ⟨fun i m σ' H' => ∃ O' ρ' g', m = ds.length - i ∧ i ≤ ds.length ∧ Sub (Off (a :: O) H1) (Off (a :: O') H') ∧ Rl K a H0 O0 O' ρ' g' σ' H' ∧ loopV G B V (ds.drop i) ρ' g', ⟨ds.length, O, ρ, g1, rfl, Nat.zero_le _, Sub.refl _, r1, w1⟩, ?_⟩
    rintro i m σ2 H2 ⟨O2, ρ2, g2, rfl, hi, s2, r2, w2⟩
    obtain ⟨f1, f2⟩ := fd i O2 H2 s2 r2.liveA
    by_cases hlt : i < ds.length
    · have e0 : ds.drop i = ds[i] :: ds.drop (i + 1) := List.drop_eq_getElem_cons hlt
      rw [e0] at w2
      obtain ⟨go, f3⟩ := f1 ds[i] (List.getElem?_eq_getElem hlt)
      refine .inr ⟨go, fun σ' H' => ∃ O' ρ' g', Sub (Off (a :: O) H1) (Off (a :: O') H') ∧ Rl K a H0 O0 O' ρ' g' σ' H' ∧ loopV G B V (ds.drop (i + 1)) ρ' g', fun σ' H' ⟨O', ρ', g', s', r', w'⟩ => ⟨ds.length - (i + 1), by omega, O', ρ', g', rfl, hlt, s', r', w'⟩, fun x H3 hy => ?_⟩
      obtain ⟨s3, dx⟩ := f3 x H3 hy
      have s23 : Sub (Off (a :: O2) H2) (Off (a :: O2) H3) := off_mono s3
      refine ⟨a, H0, O0, O2, ρ2, g2, ds[i], _, r2.ext s3, dx, w2, fun ρ' σ' _ r' w' => ⟨a, H0, O0, O2, ρ', g2, _, r', w', ⟨?_, ?_, ?_, en.rt⟩⟩⟩
      · exact fun O' ρ' g' σ' H' s' r' w' => ⟨O', ρ', g', (s2.trans s23).trans s', r', w'⟩
      · exact fun O' ρ' g' σ' H' s' r' w' => en.nx O' ρ' g' σ' H' (((off_kp k1).trans (s2.trans s23)).trans s') r' w'
      · exact fun O' ρ' g' σ' H' s' r' w' => ⟨O', ρ', g', (s2.trans s23).trans s', r', w'⟩
    · have e0 : ds.drop i = [] := List.drop_eq_nil_of_le (by omega)
      rw [e0] at w2
      exact .inl ⟨f2 (by omega), en.nx O2 ρ2 g2 σ2 H2 ((off_kp k1).trans s2) r2 w2⟩⟩
theorem vs_for {iter tg : Expr} {body : List Stmt} {WI : WL} {js : List Nat} {G : WG} {B : WS} (hp : PassesOwn (model X.prog X.w) X.A X.env X.xe) (hc : X.calm = true) (hi : VI X tg iter WI) (hg : VG X tg js G) (hb : VSs X body B)
    (hs : ∀ x, foldedSetIterable iter X.env x = pure x := by intro _; rfl) : VS X (.For tg iter body [] pos) (sFor WI G B) := ps_weak (ps_for hp hc hi hg hb hs) tS_for
end

/-! ### defs and their calls -/
abbrev VSp := Rho → Nat → (PyData → Nat → Prop) → Prop
def spV (K : PySem.W.Frag) (S : VSp) : Sp := fun vs H Q _ => ∃ (a : Addr) (O : List Addr) (g : Nat) (as : Rho) (R : PyData → Nat → Prop), Pen K a O g H ∧ a ∉ O ∧ (∀ p ∈ O, H p ≠ none) ∧ ArgsR K a (Off (a :: O) H) vs as ∧ S as g R ∧
  ∀ d g' v H', Kp a H H' → Pen K a O g' H' → Dq K (Off (a :: O) H') v d → R d g' → Q v H'
def endV (R : PyData → Nat → Prop) : EndsV := { nx := fun _ g' => ∃ g2, g' ≤ g2 ∧ R .none g2, rt := fun d g' => ∃ g2, g' ≤ g2 ∧ R d g2 }
def startV (N : Nat) (as : Rho) : Rho := as ++ List.replicate (N - as.length) Sl.un
theorem args_at {K : PySem.W.Frag} {a : Addr} {H : Hp} : ∀ {vs : List V} {as : Rho} {i : Nat} {s : Sl}, ArgsR K a H vs as → as[i]? = some s → (∃ v d, s = .val d ∧ vs[i]? = some v ∧ Dq K H v d) ∨ (s = .pen ∧ vs[i]? = some (.ref a))
  | _, _, _, _, .nil, e => by simp at e
  | _, _, 0, _, .val h _, e => by
    simp at e
    exact .inl ⟨_, _, e.symm, rfl, h⟩
  | _, _, 0, _, .pen _, e => by
    simp at e
    exact .inr ⟨e.symm, rfl⟩
  | _, _, i + 1, s, .val _ t, e => by
    have := args_at (i := i) (s := s) t (by simpa using e)
    simpa using this
  | _, _, i + 1, s, .pen t, e => by
    have := args_at (i := i) (s := s) t (by simpa using e)
    simpa using this
theorem rl_start {K : PySem.W.Frag} {a : Addr} {O : List Addr} {H : Hp} {g : Nat} {vs : List V} {as : Rho} {N : List Str} (p : Pen K a O g H) (ha : a ∉ O) (hl : ∀ p ∈ O, H p ≠ none) (r : ArgsR K a (Off (a :: O) H) vs as) (hn : as.length ≤ N.length) :
    Rl K a H O O (startV N.length as) g (L2.start N vs) H where
  keep := Kp.refl _ _
  pen := p
  sub := fun _ h => h
  new := fun _ h => .inl h
  noA := ha
  live := hl
  live0 := hl
  len := by
    have := r.len
    unfold startV L2.start
    rw [List.length_append, List.length_append, List.length_replicate, List.length_replicate, List.length_map, this]
  slot := fun i s hs => by
    unfold startV at hs
    by_cases hi : i < as.length
    · rw [List.getElem?_append_left hi] at hs
      have e : (L2.start N vs)[i]? = (vs[i]?).map some := by
        unfold L2.start
        rw [List.getElem?_append_left (by rw [List.length_map, r.len]; exact hi), List.getElem?_map]
      rw [e]
      rcases args_at r hs with ⟨v, d, rfl, hv, hd⟩ | ⟨rfl, hv⟩
      · exact ⟨v, by rw [hv]; rfl, hd⟩
      · show _ = _
        rw [hv]
        rfl
    · rw [List.getElem?_append_right (by omega)] at hs
      have := List.mem_of_getElem? hs
      rw [(List.mem_replicate.mp this).2]
      trivial
  inj := fun i j ds es o h1 h2 e1 e2 => by
    exfalso
    unfold startV at h1
    by_cases hi : i < as.length
    · rw [List.getElem?_append_left hi] at h1
      rcases args_at r h1 with ⟨v, d, z, _⟩ | ⟨z, _⟩ <;> cases z
    · rw [List.getElem?_append_right (by omega)] at h1
      have := (List.mem_replicate.mp (List.mem_of_getElem? h1)).2
      cases this
section
variable {P : Program} {w : World} {K : PySem.W.Frag} {mg : Str → Option Value} {base : Heap}
theorem fn_v {x qual : Str} {st : Stmt} {f : Addr} {fd : FuncData} {N ps : List Str} {k : Nat} {S : VSp} {W : WS} (F : Fun K x qual st f fd) (sc : FnScope N ps (defScope st)) (hl : ∀ as g R, S as g R → as.length = ps.length)
    (hb : ∀ (cdv : Value) (A : Around) (outer : List Env) (s : Shared) (H : Hp) (E : XK), Room k (A.deeper (envOfC qual (defScope st) s.heap.objs.size f cdv)) → VSs (cxOf CX0 P w K mg base N qual (defScope st) f cdv A outer s H E).nox (defBody st) W)
    (hw : ∀ as g R, S as g R → W (endV R) (startV N.length as) g) (hn : ps.length ≤ N.length := by decide) : FnOk P w K mg base CX0 (k + 1) f fd ps (spV K S) := by
  refine F.ok sc (fun vs H Q E h => ?_) (fun cdv A outer s H vs Q E hr h => ?_)
  · obtain ⟨a, O, g, as, R, _, _, _, r, hS, _⟩ := h
    rw [r.len]
    exact hl as g R hS
  · obtain ⟨a, O, g, as, R, p, ha, hlv, r, hS, q⟩ := h
    have hlen : as.length ≤ N.length := by rw [hl as g R hS]; exact hn
    refine ⟨_, hb cdv A outer s H E hr, a, H, O, O, startV N.length as, g, endV R, rl_start p ha hlv r hlen, hw as g R hS, ⟨?_, fun _ _ _ _ _ _ _ h => h.elim, fun _ _ _ _ _ _ _ h => h.elim, ?_⟩⟩
    · exact fun O' ρ' g' σ' H' s' r' ⟨g2, h2, w2⟩ => q .none g2 .non H' r'.keep ((r'.pen.to r'.back rfl).mono h2) .non w2
    · exact fun d g' v H' k' p' d' ⟨g2, h2, w2⟩ => q d g2 v H' k' (p'.mono h2) d' w2
end
section
variable {X : Cx} {e : Expr} {es : List Expr} {pos : Pos}
def wFn (S : VSp) (V : WP) : WE := fun ρ g R => V ρ g fun as g1 => S as g1 R
theorem v_call {CX : CXT} {k : Nat} {f : Addr} {fd : FuncData} {ps : List Str} {S : VSp} {V : WP} {E : XK} {x : Str} {p : Pos} (F : FnOk X.prog X.w X.K X.mg X.base CX k f fd ps (spV X.K S)) (hr : Room k X.A) (hg : Gl X x) (hm : X.mg x = some (.ref f)) (hk : PySem.W.keepIn X.K (.ref f) = true) (hb : Binds X.K fd ps []) (hx : Passes CX X E)
    (ha : VP X (e :: es) V) (hdb : (x == ("__debug__" : Str)) = false := by decide) (he : starEach (e :: es) X.env = (false, eval e X.env) :: starEach es X.env := by rfl) (hpl : (backTo pos (starEach es X.env)).any (·.1) = false := by rfl) : VE X (.Call (.Name x p) (e :: es) [] pos) (wFn S V) :=
  pe_weak (pe_call F hr hg hm hk hb .nil hx ha hdb he hpl) fun σ H Q ⟨a, H0, O0, O, ρ, g, R, r, w, q⟩ => ⟨a, H0, O0, O, ρ, g, _, r, w, fun as g1 vs H1 k1 r1 d1 w1 => by
    show spV X.K S (vs ++ []) H1 Q E
    rw [List.append_nil]
    exact ⟨a, O, g1, as, R, r1.pen, r1.noA, r1.live, d1, w1, fun d g' v H' k' p' d' w' => q d g' v H' (k1.trans k') (r1.step k' p') d' w'⟩⟩
end
end Vl
/-! V4: isinstance, slices, list(..), zip, enumerate, repr, a slot's own list read, parallel stores. -/
namespace Vl
open PySem PySem.Spec PyProof.Rows L2

/-! ### isinstance -/
def rIsD (K : PySem.W.Frag) (T : String) (f : PyData → Bool) : List V → Hp → VK → Prop := fun xs H Q => ∃ x d, xs = [x, .ty T] ∧ noX d = true ∧ Dq K H x d ∧ Q (.bl (f d)) H
section
variable {X : Cx}
theorem call_isD {T : String} {f : PyData → Bool} (rule : ∀ {prog : Program} {w : World} {A : Around} {E : Value → Shared → Prop} {s : Shared} {v : Value} {d : PyData} {as : List Addr} {Q : Value → Shared → Prop}, Reads s.heap v d as → (∀ tk, s.toks ≤ tk → Q (.bool (f d)) { s with toks := tk }) →
    wpAny (model prog w) A (call (.builtin "isinstance") [v, .type T]) Q E s) : CallR X (.builtin "isinstance") (rIsD X.K T f) := by
  intro pins s σ H xs us Q I r h
  obtain ⟨x, d, rfl, nx, hd, q⟩ := h
  obtain ⟨u1, u2, rfl, r1, r2⟩ := vals2 r
  cases r2
  obtain ⟨as, rd⟩ := Dq.reads I d x u1 nx hd r1
  exact rule rd fun tk _ => ⟨.bl _, H, I.tok tk, rfl, q⟩
variable {e : Expr} {pos : Pos} {W : WE}
def wIsa (f : PyData → Bool) (W : WE) : WE := fun ρ g R => W ρ g fun d g1 => noX d = true ∧ R (.bool (f d)) g1
theorem v_isa {T : String} {f : PyData → Bool} {x : Str} {p p2 : Pos} (hc : CallR X (.builtin "isinstance") (rIsD X.K T f)) (hg : Gl X "isinstance") (hm : X.mg "isinstance" = none) (hg2 : Gl X x) (hm2 : X.mg x = none) (hv2 : bootBuiltins x = some (.type T)) (he : VE X e W)
    (hn : x ≠ "__name__" := by decide) (hd : (x == ("__debug__" : Str)) = false := by decide) (hs : starEach (e :: [.Name x p2]) X.env = (false, eval e X.env) :: starEach [.Name x p2] X.env := by rfl) (hs2 : starEach [.Name x p2] X.env = (false, eval (.Name x p2) X.env) :: starEach [] X.env := by rfl)
    (hv : bootBuiltins "isinstance" = some (.builtin "isinstance") := by decide +kernel) (hpl : (backTo pos (starEach [.Name x p2] X.env)).any (·.1) = false := by rfl) : VE X (.Call (.Name "isinstance" p) [e, .Name x p2] [] pos) (wIsa f W) :=
  pe_weak (pe_callB hc hg hm hv (pa_cons he (pa_cons (pe_bltn (v := .ty T) (u := .type T) hg2 hm2 hv2 rfl hn hd) pa_nil hs2) hs) (by decide) (by decide) hs hpl) fun σ H Q ⟨a, H0, O0, O, ρ, g, R, r, w, q⟩ => ⟨a, H0, O0, O, ρ, g, _, r, w, fun d g1 v H1 k1 r1 d1 w1 =>
    ⟨v, d, rfl, w1.1, d1.to off_out, q _ g1 _ H1 k1 r1 (.bl _) w1.2⟩⟩
theorem v_isInt {p p2 : Pos} (hg : Gl X "isinstance") (hm : X.mg "isinstance" = none) (hg2 : Gl X "int") (hm2 : X.mg "int" = none) (he : VE X e W) (hs : starEach (e :: [.Name "int" p2]) X.env = (false, eval e X.env) :: starEach [.Name "int" p2] X.env := by rfl) (hs2 : starEach [.Name "int" p2] X.env = (false, eval (.Name "int" p2) X.env) :: starEach [] X.env := by rfl) (hpl : (backTo pos (starEach [.Name "int" p2] X.env)).any (·.1) = false := by rfl) :
    VE X (.Call (.Name "isinstance" p) [e, .Name "int" p2] [] pos) (wIsa PyData.isInt W) := v_isa (call_isD PySem.W.isinstance_int_data) hg hm hg2 hm2 (by decide +kernel) he (by decide) (by decide) hs hs2 (by decide +kernel) hpl
theorem v_isBool {p p2 : Pos} (hg : Gl X "isinstance") (hm : X.mg "isinstance" = none) (hg2 : Gl X "bool") (hm2 : X.mg "bool" = none) (he : VE X e W) (hs : starEach (e :: [.Name "bool" p2]) X.env = (false, eval e X.env) :: starEach [.Name "bool" p2] X.env := by rfl) (hs2 : starEach [.Name "bool" p2] X.env = (false, eval (.Name "bool" p2) X.env) :: starEach [] X.env := by rfl) (hpl : (backTo pos (starEach [.Name "bool" p2] X.env)).any (·.1) = false := by rfl) :
    VE X (.Call (.Name "isinstance" p) [e, .Name "bool" p2] [] pos) (wIsa PyData.isBool W) := v_isa (call_isD PySem.W.isinstance_bool_data) hg hm hg2 hm2 (by decide +kernel) he (by decide) (by decide) hs hs2 (by decide +kernel) hpl
theorem v_isTuple {p p2 : Pos} (hg : Gl X "isinstance") (hm : X.mg "isinstance" = none) (hg2 : Gl X "tuple") (hm2 : X.mg "tuple" = none) (he : VE X e W) (hs : starEach (e :: [.Name "tuple" p2]) X.env = (false, eval e X.env) :: starEach [.Name "tuple" p2] X.env := by rfl) (hs2 : starEach [.Name "tuple" p2] X.env = (false, eval (.Name "tuple" p2) X.env) :: starEach [] X.env := by rfl) (hpl : (backTo pos (starEach [.Name "tuple" p2] X.env)).any (·.1) = false := by rfl) :
    VE X (.Call (.Name "isinstance" p) [e, .Name "tuple" p2] [] pos) (wIsa PyData.isTuple W) := v_isa (call_isD PySem.W.isinstance_tuple_data) hg hm hg2 hm2 (by decide +kernel) he (by decide) (by decide) hs hs2 (by decide +kernel) hpl
theorem v_isList {p p2 : Pos} (hg : Gl X "isinstance") (hm : X.mg "isinstance" = none) (hg2 : Gl X "list") (hm2 : X.mg "list" = none) (he : VE X e W) (hs : starEach (e :: [.Name "list" p2]) X.env = (false, eval e X.env) :: starEach [.Name "list" p2] X.env := by rfl) (hs2 : starEach [.Name "list" p2] X.env = (false, eval (.Name "list" p2) X.env) :: starEach [] X.env := by rfl) (hpl : (backTo pos (starEach [.Name "list" p2] X.env)).any (·.1) = false := by rfl) :
    VE X (.Call (.Name "isinstance" p) [e, .Name "list" p2] [] pos) (wIsa PyData.isList W) := v_isa (call_isD PySem.W.isinstance_list_data) hg hm hg2 hm2 (by decide +kernel) he (by decide) (by decide) hs hs2 (by decide +kernel) hpl
theorem v_isStr {p p2 : Pos} (hg : Gl X "isinstance") (hm : X.mg "isinstance" = none) (hg2 : Gl X "str") (hm2 : X.mg "str" = none) (he : VE X e W) (hs : starEach (e :: [.Name "str" p2]) X.env = (false, eval e X.env) :: starEach [.Name "str" p2] X.env := by rfl) (hs2 : starEach [.Name "str" p2] X.env = (false, eval (.Name "str" p2) X.env) :: starEach [] X.env := by rfl) (hpl : (backTo pos (starEach [.Name "str" p2] X.env)).any (·.1) = false := by rfl) :
    VE X (.Call (.Name "isinstance" p) [e, .Name "str" p2] [] pos) (wIsa PyData.isStr W) := v_isa (call_isD PySem.W.isinstance_str_data) hg hm hg2 hm2 (by decide +kernel) he (by decide) (by decide) hs hs2 (by decide +kernel) hpl
/-- isinstance(x, (S, T)) -/
def tyD : PyData → String
  | .none => "NoneType"
  | .bool _ => "bool"
  | .int _ => "int"
  | .str _ => "str"
  | .list _ => "list"
  | .tuple _ => "tuple"
  | .dict _ => "dict"
theorem Dq.ty {K : PySem.W.Frag} {H : Hp} {v : V} {d : PyData} (h : Dq K H v d) (nx : noX d = true) : TyX K H v (.type (tyD d)) := by
  cases h with
  | exc0 => simp only [exD, noX] at nx; cases nx
  | exc1 => simp only [exD, noX] at nx; cases nx
  | non => exact .base .non
  | bl b => exact .base (.bl b)
  | int i => exact .base (.int i)
  | str x => exact .base (.str x)
  | lst e _ => exact .base (.lst e)
  | tup e _ =>
    rcases e with (e | ⟨o, e⟩) | ⟨o, its, n, e, c, _⟩
    · exact .base (.tup e)
    · exact .fTuple e
    · exact .kTuple e c
  | emp e => exact .base (.dK e)
theorem v_isa2 {S T : String} {f : PyData → Bool} {x y : Str} {p p2 p3 p4 : Pos} {k} (hk : ∀ K d, PySem.W.kitAny K (.type (tyD d)) [.type S, .type T] = some (f d)) (hg : Gl X "isinstance") (hm : X.mg "isinstance" = none) (hx : Gl X x) (hxm : X.mg x = none) (hxv : bootBuiltins x = some (.type S)) (hy : Gl X y) (hym : X.mg y = none) (hyv : bootBuiltins y = some (.type T)) (he : VE X e W)
    (hnx : x ≠ "__name__" := by decide) (hdx : (x == ("__debug__" : Str)) = false := by decide) (hny : y ≠ "__name__" := by decide) (hdy : (y == ("__debug__" : Str)) = false := by decide)
    (hs : starEach (e :: [.Tuple [.Name x p2, .Name y p3] k p4]) X.env = (false, eval e X.env) :: starEach [.Tuple [.Name x p2, .Name y p3] k p4] X.env := by rfl) (hpl : (backTo pos (starEach [.Tuple [.Name x p2, .Name y p3] k p4] X.env)).any (·.1) = false := by rfl) (hv : bootBuiltins "isinstance" = some (.builtin "isinstance") := by decide +kernel)
    (hs2 : starEach [.Tuple [.Name x p2, .Name y p3] k p4] X.env = (false, eval (.Tuple [.Name x p2, .Name y p3] k p4) X.env) :: starEach [] X.env := by rfl) (hs3 : starEach [.Name x p2, .Name y p3] X.env = (false, eval (.Name x p2) X.env) :: starEach [.Name y p3] X.env := by rfl) (hs4 : starEach [.Name y p3] X.env = (false, eval (.Name y p3) X.env) :: starEach [] X.env := by rfl) :
    VE X (.Call (.Name "isinstance" p) [e, .Tuple [.Name x p2, .Name y p3] k p4] [] pos) (wIsa f W) :=
  pe_weak (pe_callB call_isiT hg hm hv (pa_cons he (pa_cons (pe_tup (pa_cons (pe_bltn (v := .ty S) (u := .type S) hx hxm hxv rfl hnx hdx) (pa_cons (pe_bltn (v := .ty T) (u := .type T) hy hym hyv rfl hny hdy) pa_nil hs4) hs3)) pa_nil hs2) hs) (by decide) (by decide) hs hpl)
    fun σ H Q ⟨a, H0, O0, O, ρ, g, R, r, w, q⟩ => ⟨a, H0, O0, O, ρ, g, _, r, w, fun d g1 v H1 k1 r1 d1 w1 => ⟨by show 2 ≤ sizeLine; decide, fun tp htp => by
      have s := sub_upd (o := .tup [.ty S, .ty T]) htp
      exact ⟨v, tp, _, _, _, f d, rfl, upd_same, .cons (.ty S) (.cons (.ty T) .nil), ((d1.to off_out).to s).ty w1.1, hk _ d, q _ g1 _ _ (k1.trans (Kp.of s)) (r1.ext s) (.bl _) w1.2⟩⟩⟩
def isIntStr : PyData → Bool
  | .bool _ => true
  | .int _ => true
  | .str _ => true
  | _ => false
def isTupList : PyData → Bool
  | .list _ => true
  | .tuple _ => true
  | _ => false
theorem kit_IntStr (K : PySem.W.Frag) (d : PyData) : PySem.W.kitAny K (.type (tyD d)) [.type "int", .type "str"] = some (isIntStr d) := by cases d <;> rfl
theorem kit_TupList (K : PySem.W.Frag) (d : PyData) : PySem.W.kitAny K (.type (tyD d)) [.type "tuple", .type "list"] = some (isTupList d) := by cases d <;> rfl
end

/-! ### slices -/
abbrev WO := Rho → Nat → (Option Int → Nat → Prop) → Prop
def tO (K : PySem.W.Frag) (W : WO) : TO := fun σ H Q => ∃ (a : Addr) (H0 : Hp) (O0 O : List Addr) (ρ : Rho) (g : Nat) (R : Option Int → Nat → Prop), Rl K a H0 O0 O ρ g σ H ∧ W ρ g R ∧ ∀ o g' H', Kp a H H' → Rl K a H0 O0 O ρ g' σ H' → R o g' → Q o H'
abbrev VO (X : Cx) (e : Option Expr) (W : WO) : Prop := PO X e (tO X.K W)
def oNo : WO := fun _ g R => R none g
def oPt (W : WE) : WO := fun ρ g R => W ρ g fun d g1 => match d with
  | .int i => R (some i) g1
  | _ => False
def cutD (xs : List PyData) (lo hi : Option Int) : List PyData := (xs.drop (HT.sIx xs.length 0 lo)).take (HT.sIx xs.length xs.length hi - HT.sIx xs.length 0 lo)
theorem DqAll.cut {K : PySem.W.Frag} {H : Hp} {vs : List V} {ds : List PyData} {lo hi : Option Int} (h : DqAll K H vs ds) : DqAll K H (cutV vs lo hi) (cutD ds lo hi) := by
  unfold cutV cutD
  rw [h.len]
  exact DqAll.take _ (DqAll.drop _ h)
def wSl (W : WE) (Wl Wu : WO) : WE := fun ρ g R => W ρ g fun d g1 => Wl ρ g1 fun l g2 => Wu ρ g2 fun u g3 => match d with
  | .list xs => R (.list (cutD xs l u)) g3
  | .tuple xs => R (.tuple (cutD xs l u)) g3
  | _ => False
section
variable {X : Cx} {e : Expr} {pos : Pos} {W : WE}
theorem po_weak {o : Option Expr} {t t' : TO} (h : PO X o t) (w : ∀ σ H Q, t' σ H Q → t σ H Q) : PO X o t' := ⟨fun pins s σ H Q I q => h.run pins s σ H Q I (w σ H Q q)⟩
theorem vo_none : VO X none oNo := po_weak po_none fun σ H Q ⟨a, H0, O0, O, ρ, g, R, r, w, q⟩ => q none g H (Kp.refl _ _) r w
theorem vo_some (h : VE X e W) : VO X (some e) (oPt W) := po_weak (po_some h) fun σ H Q ⟨a, H0, O0, O, ρ, g, R, r, w, q⟩ => ⟨a, H0, O0, O, ρ, g, _, r, w, fun d g1 v H1 k1 r1 d1 w1 => by
  cases d <;> try exact w1.elim
  cases d1
  exact ⟨_, rfl, q _ g1 H1 k1 r1 w1⟩⟩
theorem v_slice {lo hi : Option Expr} {p2 : Pos} {Wl Wu : WO} (he : VE X e W) (hl : VO X lo Wl) (hu : VO X hi Wu) : VE X (.Subscript e (.Slice lo hi none p2) pos) (wSl W Wl Wu) :=
  pe_weak (pe_slice (sl_list.or sl_tupA) he hl hu) fun σ H Q ⟨a, H0, O0, O, ρ, g, R, r, w, q⟩ => ⟨a, H0, O0, O, ρ, g, _, r, w, fun d g1 v H1 k1 r1 d1 w1 => ⟨a, H0, O0, O, ρ, g1, _, r1, w1, fun l g2 H2 k2 r2 w2 => ⟨a, H0, O0, O, ρ, g2, _, r2, w2, fun u g3 H3 k3 r3 w3 => by
    have d3 := (d1.to (off_kp k2)).to (off_kp k3)
    have k13 := (k1.trans k2).trans k3
    cases d <;> try exact w3.elim
    · cases d3 with
      | @lst p xs _ h1 h2 =>
        refine .inl ⟨p, xs, rfl, SqL.of (off_out _ _ h1), fun n hn => ?_⟩
        have s := sub_upd (o := .lst (cutV xs l u)) hn
        exact q _ g3 _ _ (k13.trans (Kp.of s)) (r3.ext s) (.lst (off_upd r3.liveA hn) ((DqAll.cut h2).to (off_mono s))) w3
    · cases d3 with
      | @tup p xs ds h1 h2 =>
        refine .inr ⟨p, xs, rfl, sqt_mono off_out h1, fun hw => ?_, fun _ n hn => ?_⟩
        · refine q _ g3 _ H3 k13 r3 (.tup h1 ?_) w3
          have e : ∀ ys : List PyData, xs.length = ys.length → cutD ys l u = ys := fun ys hy => by
            unfold cutD
            rw [← hy, hw.1, hw.2, hy, Nat.sub_zero, List.drop_zero, List.take_length]
          rw [e _ h2.len]
          exact h2
        · have s := sub_upd (o := .tup (cutV xs l u)) hn
          exact q _ g3 _ _ (k13.trans (Kp.of s)) (r3.ext s) (.tup (.inl (.inl (off_upd r3.liveA hn))) ((DqAll.cut h2).to (off_mono s))) w3⟩⟩⟩
/-- xs[::-1], a list -/
def wRevL (W : WE) : WE := fun ρ g R => W ρ g fun d g1 => match d with
  | .list xs => R (.list xs.reverse) g1
  | _ => False
theorem v_revL {k : Nat} {p1 p2 p3 : Pos} (he : VE X e W) : VE X (.Subscript e (.Slice none none (some (.UnaryOp .USub (.Constant (.int 1) k p1) p2)) p3) pos) (wRevL W) := pe_weak (pe_revL he) fun σ H Q ⟨a, H0, O0, O, ρ, g, R, r, w, q⟩ => ⟨a, H0, O0, O, ρ, g, _, r, w, fun d g1 v H1 k1 r1 d1 w1 => by
  cases d1 with
  | @lst p xs ds h1 h2 =>
    refine ⟨p, xs, rfl, SqL.of (off_out _ _ h1), fun n hn => ?_⟩
    have s := sub_upd (o := .lst xs.reverse) hn
    exact q _ g1 _ _ (k1.trans (Kp.of s)) (r1.ext s) (.lst (off_upd r1.liveA hn) (h2.rev.to (off_mono s))) w1
  | _ => exact w1.elim⟩
/-- list(xs): a new list -/
def lList (W : WE) : WL := fun ρ g R => W ρ g fun d g1 => ∃ xs, itemsD d = some xs ∧ R xs g1
theorem vl_list {p : Pos} (hg : Gl X "list") (hm : X.mg "list" = none) (he : VE X e W) (hv : bootBuiltins "list" = some (.type "list") := by decide +kernel) (hs : starEach [e] X.env = (false, eval e X.env) :: starEach [] X.env := by rfl) (hpl : (backTo pos (starEach [] X.env)).any (·.1) = false := by rfl) : VL X (.Call (.Name "list" p) [e] [] pos) (lList W) :=
  pe_weak (pe_callTy call_list_of hg hm hv (pa_cons he pa_nil hs) (by decide) (by decide) hs hpl) fun σ H Q ⟨a, H0, O0, O, ρ, g, R, r, w, q⟩ => ⟨a, H0, O0, O, ρ, g, _, r, w, fun d g1 v H1 k1 r1 d1 w1 => by
    obtain ⟨xs, hi, w1⟩ := w1
    have h0 : ∀ {l : Addr}, H1 l = none → H l = none := fun {l} hl => by
      cases e : H l with
      | none => rfl
      | some o =>
        by_cases z : l = a
        · exact absurd hl (z ▸ r1.pen.live)
        · rw [k1 l o z e] at hl
          cases hl
    cases d1 <;> cases hi
    · rename_i p vs h1 h2
      refine ⟨p, vs, rfl, .inl (SqL.of (off_out _ _ h1)), fun l hl => ?_⟩
      exact q _ g1 l vs _ (k1.trans (Kp.of (sub_upd hl))) (r1.hide hl) (h0 hl) upd_same (h2.to (off_new hl)) w1
    · rename_i p vs h1 h2
      refine ⟨p, vs, rfl, .inr (sqt_mono off_out h1), fun l hl => ?_⟩
      exact q _ g1 l vs _ (k1.trans (Kp.of (sub_upd hl))) (r1.hide hl) (h0 hl) upd_same (h2.to (off_new hl)) w1⟩
end
end Vl
/-! V5: zip, enumerate, repr, a slot's own list read, parallel stores. -/
namespace Vl
open PySem PySem.Spec PyProof.Rows L2

/-! ### zip, enumerate -/
theorem feed_zipL {K : PySem.W.Frag} {a l m : Addr} {Hd : Hp} {xs ys : List V} {ds es : List PyData} (h : Hd l = some (.lst xs)) (hd : DqAll K Hd xs ds) (h2 : Hd m = some (.lst ys)) (hd2 : DqAll K Hd ys es) : Feed K a Hd (Itz K l m) (List.zipWith (fun x y => .tuple [x, y]) ds es) := fun i O' H2 s hv => by
  have hl : SqL K H2 l xs := SqL.of (off_out _ _ (s _ _ h))
  have hm : SqL K H2 m ys := SqL.of (off_out _ _ (s _ _ h2))
  refine ⟨fun d e => ?_, fun hi => ⟨xs, ys, hl, hm, by rw [hd.len, hd2.len]; rw [List.length_zipWith] at hi; omega⟩⟩
  rw [List.getElem?_zipWith] at e
  cases q1 : ds[i]? with
  | none => rw [q1] at e; simp at e
  | some d1 =>
    cases q2 : es[i]? with
    | none => rw [q1, q2] at e; simp at e
    | some d2 =>
      rw [q1, q2] at e
      cases e
      obtain ⟨v1, e1, w1⟩ := DqAll.at hd q1
      obtain ⟨v2, e2, w2⟩ := DqAll.at hd2 q2
      refine ⟨⟨xs, ys, v1, v2, hl, hm, e1, e2⟩, fun x H3 ⟨T, x1, x2, ex, hT, e3, f1, f2⟩ => ?_⟩
      have z1 := f1 xs hl
      rw [e1] at z1
      cases z1
      have z2 := f2 ys hm
      rw [e2] at z2
      cases z2
      subst ex e3
      have s3 := sub_upd (o := .tup [v1, v2]) hT
      exact ⟨s3, .tup (.inl (.inl (off_upd hv hT))) (.cons ((w1.to s).to (off_mono s3)) (.cons ((w2.to s).to (off_mono s3)) .nil))⟩
theorem feed_zipT {K : PySem.W.Frag} {a l m : Addr} {Hd : Hp} {xs ys : List V} {ds es : List PyData} (h : SqT K Hd l xs) (hd : DqAll K Hd xs ds) (h2 : SqT K Hd m ys) (hd2 : DqAll K Hd ys es) : Feed K a Hd (RZ.ItzT K l m) (List.zipWith (fun x y => .tuple [x, y]) ds es) := fun i O' H2 s hv => by
  have hl : SqT K H2 l xs := sqt_mono off_out (sqt_mono s h)
  have hm : SqT K H2 m ys := sqt_mono off_out (sqt_mono s h2)
  refine ⟨fun d e => ?_, fun hi => ⟨xs, ys, hl, hm, by rw [hd.len, hd2.len]; rw [List.length_zipWith] at hi; omega⟩⟩
  rw [List.getElem?_zipWith] at e
  cases q1 : ds[i]? with
  | none => rw [q1] at e; simp at e
  | some d1 =>
    cases q2 : es[i]? with
    | none => rw [q1, q2] at e; simp at e
    | some d2 =>
      rw [q1, q2] at e
      cases e
      obtain ⟨v1, e1, w1⟩ := DqAll.at hd q1
      obtain ⟨v2, e2, w2⟩ := DqAll.at hd2 q2
      refine ⟨⟨xs, ys, v1, v2, hl, hm, e1, e2⟩, fun x H3 ⟨T, x1, x2, ex, hT, e3, f1, f2⟩ => ?_⟩
      have z1 := f1 xs hl
      rw [e1] at z1
      cases z1
      have z2 := f2 ys hm
      rw [e2] at z2
      cases z2
      subst ex e3
      have s3 := sub_upd (o := .tup [v1, v2]) hT
      exact ⟨s3, .tup (.inl (.inl (off_upd hv hT))) (.cons ((w1.to s).to (off_mono s3)) (.cons ((w2.to s).to (off_mono s3)) .nil))⟩
theorem feed_enum {K : PySem.W.Frag} {a l : Addr} {Hd : Hp} {xs : List V} {ds : List PyData} (h : Hd l = some (.lst xs)) (hd : DqAll K Hd xs ds) : Feed K a Hd (Ite K l) ((List.range ds.length).zipWith (fun (k : Nat) d => .tuple [.int (k : Nat), d]) ds) := fun i O' H2 s hv => by
  have hl : SqL K H2 l xs := SqL.of (off_out _ _ (s _ _ h))
  refine ⟨fun d e => ?_, fun hi => ⟨xs, hl, by rw [hd.len]; rw [List.length_zipWith, List.length_range] at hi; omega⟩⟩
  rw [List.getElem?_zipWith] at e
  cases q1 : ds[i]? with
  | none => rw [q1] at e; cases hq : (List.range ds.length)[i]? <;> rw [hq] at e <;> simp at e
  | some d1 =>
    have hi : i < ds.length := (List.getElem?_eq_some_iff.mp q1).1
    rw [q1, List.getElem?_range hi] at e
    cases e
    obtain ⟨v1, e1, w1⟩ := DqAll.at hd q1
    refine ⟨⟨xs, v1, hl, e1⟩, fun x H3 ⟨T, x1, ex, hT, e3, f1⟩ => ?_⟩
    have z1 := f1 xs hl
    rw [e1] at z1
    cases z1
    subst ex e3
    have s3 := sub_upd (o := .tup [.int (i : Nat), v1]) hT
    exact ⟨s3, .tup (.inl (.inl (off_upd hv hT))) (.cons (.int _) (.cons ((w1.to s).to (off_mono s3)) .nil))⟩
section
variable {X : Cx} {e e2 : Expr} {pos : Pos}
def iZp (V : WL) : WL := fun ρ g R => V ρ g fun ds g1 => match ds with
  | [.list xs, .list ys] => R (List.zipWith (fun x y => .tuple [x, y]) xs ys) g1
  | [.tuple xs, .tuple ys] => R (List.zipWith (fun x y => .tuple [x, y]) xs ys) g1
  | _ => False
theorem vi_zip {V : WL} {p tpos : Pos} {elts : List Expr} {kk : Nat} (hg : Gl X "zip") (hm : X.mg "zip" = none) (ha : VA X [e, e2] V) (hs : starEach [e, e2] X.env = (false, eval e X.env) :: starEach [e2] X.env := by rfl) (hpl : (backTo pos (starEach [e2] X.env)).any (·.1) = false := by rfl) :
    VI X (.Tuple elts kk tpos) (.Call (.Name "zip" p) [e, e2] [] pos) (iZp V) := pi_weak (RZ.pi_zipA hg hm ha hs hpl) fun σ H S ⟨a, H0, O0, O, ρ, g, R, r, w, q⟩ => ⟨a, H0, O0, O, ρ, g, _, r, w, fun ds g1 vs H1 k1 r1 d1 w1 => by
  cases d1 with
  | nil => exact w1.elim
  | cons h1 t =>
    cases t with
    | nil => cases h1 <;> exact w1.elim
    | cons h2 t =>
      cases t with
      | cons _ _ => cases h1 <;> cases h2 <;> exact w1.elim
      | nil =>
        cases h1 <;> cases h2 <;> try exact w1.elim
        · rename_i l xs ds hl hx m ys es hm' hy
          exact ⟨l, m, xs, ys, rfl, .inl ⟨SqL.of (off_out _ _ hl), SqL.of (off_out _ _ hm'), q _ g1 _ H1 k1 r1 (feed_zipL hl hx hm' hy) w1⟩⟩
        · rename_i l xs ds hl hx m ys es hm' hy
          exact ⟨l, m, xs, ys, rfl, .inr ⟨sqt_mono off_out hl, sqt_mono off_out hm', q _ g1 _ H1 k1 r1 (feed_zipT hl hx hm' hy) w1⟩⟩⟩
def iEn (V : WL) : WL := fun ρ g R => V ρ g fun ds g1 => match ds with
  | [.list xs] => R ((List.range xs.length).zipWith (fun (k : Nat) d => .tuple [.int (k : Nat), d]) xs) g1
  | _ => False
theorem vi_enum {V : WL} {p tpos : Pos} {elts : List Expr} {kk : Nat} (hg : Gl X "enumerate") (hm : X.mg "enumerate" = none) (ha : VA X [e] V) (hs : starEach [e] X.env = [(false, eval e X.env)] := by rfl) :
    VI X (.Tuple elts kk tpos) (.Call (.Name "enumerate" p) [e] [] pos) (iEn V) := pi_weak (pi_enum hg hm ha hs) fun σ H S ⟨a, H0, O0, O, ρ, g, R, r, w, q⟩ => ⟨a, H0, O0, O, ρ, g, _, r, w, fun ds g1 vs H1 k1 r1 d1 w1 => by
  cases d1 with
  | nil => exact w1.elim
  | cons h1 t =>
    cases t with
    | cons _ _ => cases h1 <;> exact w1.elim
    | nil =>
      cases h1 <;> try exact w1.elim
      rename_i l xs ds hl hx
      exact ⟨l, xs, rfl, SqL.of (off_out _ _ hl), q _ g1 _ H1 k1 r1 (feed_enum hl hx) w1⟩⟩
end

/-! ### repr -/
mutual
theorem reads_mem {X : Cx} {pins : List (Addr × Obj)} {σ : L2.St} {H : Hp} {s : Shared} (I : Inv X pins σ H s) {om : Obj} (hm : X.base.get? sysModules = some om) (hcm : om.cls = .type "dict") : ∀ (d : PyData) (v : V) (u : Value), noX d = true → Dq X.K H v d → RelV v u → ∃ as, Reads s.heap u d as ∧ sysModules ∉ as
  | .none, _, _, _, h, r => by
    cases h; cases r
    exact ⟨_, .none, by simp⟩
  | .bool b, _, _, _, h, r => by
    cases h; cases r
    exact ⟨_, .bool b, by simp⟩
  | .int i, _, _, _, h, r => by
    cases h
    obtain ⟨t, rfl⟩ := r
    exact ⟨_, .int i t, by simp⟩
  | .str x, _, _, _, h, r => by
    cases h
    obtain ⟨t, rfl⟩ := r
    exact ⟨_, .str x t, by simp⟩
  | .list ds, _, _, nx, h, r => by
    simp only [noX] at nx
    cases h with
    | @lst a xs _ hs ha =>
      cases r
      obtain ⟨its, rv, ⟨o, n, ho, hc, _, hd⟩, _⟩ := I.list (SqL.of hs)
      obtain ⟨as, hr, hn⟩ := readsAll_mem I hm hcm ds _ its nx ha rv
      have ne : a ≠ sysModules := fun z => by
        have := (I.bs _ _ hm).2
        rw [← z, hs] at this
        cases this
      exact ⟨_, .list ho hc hd hr, fun q => by
        rcases List.mem_cons.mp q with z | z
        · exact ne z.symm
        · exact hn z⟩
  | .tuple ds, _, _, nx, h, r => by
    simp only [noX] at nx
    cases h with
    | tup hs ha =>
      cases r
      obtain ⟨its, rv, ⟨o, ho, hc, n, hd⟩, _⟩ := I.tuple hs
      obtain ⟨as, hr, hn⟩ := readsAll_mem I hm hcm ds _ its nx ha rv
      exact ⟨_, .tuple ho hc hd hr, hn⟩
  | .dict _, _, _, nx, h, r => by
    cases h with
    | exc0 => simp only [exD, noX] at nx; cases nx
    | exc1 => simp only [exD, noX] at nx; cases nx
    | @emp a e =>
      cases r
      obtain ⟨_, hy, vs, rel, o, es, ep, h1, h2, h3, _, h5, _⟩ := dk_of I.hok e
      cases rel
      have he : es.toList = [] := by
        generalize es.toList = l at h5
        cases h5
        rfl
      refine ⟨_, .dict (kvs := []) h1 h2.1 h3 (by rw [he]; exact .nil) (by rw [he]; exact .nil), ?_⟩
      intro q
      have q' : sysModules = a := by simpa using q
      rw [← q'] at hy
      exact absurd hy (by decide)
theorem readsAll_mem {X : Cx} {pins : List (Addr × Obj)} {σ : L2.St} {H : Hp} {s : Shared} (I : Inv X pins σ H s) {om : Obj} (hm : X.base.get? sysModules = some om) (hcm : om.cls = .type "dict") : ∀ (ds : List PyData) (vs : List V) (us : List Value), noXs ds = true → DqAll X.K H vs ds → Vals vs us → ∃ as, ReadsAll s.heap us ds as ∧ sysModules ∉ as
  | [], _, _, _, h, r => by
    cases h; cases r
    exact ⟨_, .nil, by simp⟩
  | d :: ds, _, _, nx, h, r => by
    simp only [noXs, Bool.and_eq_true] at nx
    cases h with
    | cons h1 h2 =>
      cases r with
      | cons r1 r2 =>
        obtain ⟨as, q1, n1⟩ := reads_mem I hm hcm d _ _ nx.1 h1 r1
        obtain ⟨bs, q2, n2⟩ := readsAll_mem I hm hcm ds _ _ nx.2 h2 r2
        exact ⟨_, .cons q1 q2, fun z => by
          rcases List.mem_append.mp z with z | z
          · exact n1 z
          · exact n2 z⟩
end
def showOk (d : PyData) : Prop := d.showable = true ∧ d.depth ≤ 60 ∧ d.shown.length ≤ sizeLine
def rRepr (K : PySem.W.Frag) : List V → Hp → VK → Prop := fun xs H Q => ∃ x d, xs = [x] ∧ Dq K H x d ∧ showOk d ∧ Q (.str d.shown) H
section
variable {X : Cx}
theorem call_repr (hg : X.A.guards = some []) (hu : X.A.units + 64 < cLine) {om : Obj} (hm : X.base.get? sysModules = some om) (hcm : om.cls = .type "dict") : CallR X (.builtin "repr") (rRepr X.K) := by
  intro pins s σ H xs us Q I r h
  obtain ⟨x, d, rfl, hd, ⟨h1, h2, h3⟩, q⟩ := h
  obtain ⟨u, rfl, rx⟩ := vals1 r
  obtain ⟨as, rd, na⟩ := reads_mem I hm hcm d x u (hd.clean h1) hd rx
  have fin : ∀ (h' : Heap) (t : Tok) (tk : Nat), (∀ b o, s.heap.get? b = some o → h'.get? b = some o) → EP X pins σ Q (.str d.shown t) { s with heap := h', toks := tk } := fun h' t tk hk => ⟨.str d.shown, H, I.kept (t' := tk) hk, ⟨t, rfl⟩, q⟩
  have self : ∀ (t : Tok) (tk : Nat), EP X pins σ Q (.str d.shown t) { s with toks := tk } := fun t tk => fin s.heap t tk fun _ _ e => e
  cases rd with
  | none => exact PySem.P.repr_of_none (self _ _)
  | bool b =>
    refine PySem.P.repr_of_bool ?_
    have e : (PyData.bool b).shown = (if b then "True" else "False" : Str) := by simp only [PyData.shown]
    have z := self s.toks (s.toks + 1)
    rw [e] at z
    exact z
  | int i t =>
    refine PySem.P.repr_of_int (by simpa [PyData.showable] using h1) ?_
    have z := self s.toks (s.toks + 1)
    simp only [PyData.shown] at z
    exact z
  | str y t =>
    have e : (PyData.str y).shown = reprText y := by simp only [PyData.shown]
    refine PySem.P.repr_of_str ?_ (by rw [← e]; exact h3)
    have z := self s.toks (s.toks + 1)
    rw [e] at z
    exact z
  | list a1 a2 a3 a4 => exact PySem.repr_of_reads' (h₀ := s.heap) (.list a1 a2 a3 a4) h1 (fun _ => na) hg (by omega) (fun _ _ e => e) (fun h' u tk hk => fin h' u tk hk) h3
  | tuple a1 a2 a3 a4 => exact PySem.repr_of_reads' (h₀ := s.heap) (.tuple a1 a2 a3 a4) h1 (fun _ => na) hg (by omega) (fun _ _ e => e) (fun h' u tk hk => fin h' u tk hk) h3
  | dict a1 a2 a3 a4 a5 => exact PySem.repr_of_reads' (h₀ := s.heap) (.dict a1 a2 a3 a4 a5) h1 (fun _ => na) hg (by omega) (fun _ _ e => e) (fun h' u tk hk => fin h' u tk hk) h3
def fRepr : List PyData → (PyData → Prop) → Prop := fun ds R => ∃ d, ds = [d] ∧ showOk d ∧ R (.str d.shown)
theorem callS_repr {K : PySem.W.Frag} : CallS K (rRepr K) fRepr := fun A H xs ds R Q hA hx ⟨d, h1, h2, w⟩ q => by
  subst h1
  cases hx with
  | cons h t =>
    cases t
    exact ⟨_, d, rfl, h.to off_out, h2, q _ _ H (Sub.refl _) (.str _) w⟩
variable {e : Expr} {pos : Pos}
theorem v_repr {V : WL} {p : Pos} (hgd : X.A.guards = some []) (hu : X.A.units + 64 < cLine) {om : Obj} (hsm : X.base.get? sysModules = some om) (hcm : om.cls = .type "dict") (hg : Gl X "repr") (hm : X.mg "repr" = none) (ha : VA X [e] V) (hv : bootBuiltins "repr" = some (.builtin "repr") := by decide +kernel) (he : starEach [e] X.env = (false, eval e X.env) :: starEach [] X.env := by rfl) :
    VE X (.Call (.Name "repr" p) [e] [] pos) (wCall fRepr V) := v_callB (call_repr hgd hu hsm hcm) callS_repr hg hm hv ha (he := he) (hpl := rfl)

/-! ### a slot's own list, read -/
def wIxO (i : Nat) (Wk : WE) : WE := fun ρ g R => ∃ ds, ρ[i]? = some (.own ds) ∧ Wk ρ g fun k g1 => ∃ z d, k = .int z ∧ atI ds z = some d ∧ R d g1
theorem v_ixO (i : Nat) {k : Expr} {x : Str} {p : Pos} {Wk : WE} (hk : VE X k Wk) (hN : X.N[i]? = some x := by rfl) (hv : Vis X.env.scope x := by first | exact Or.inl rfl | exact Or.inr (Or.inl rfl) | exact Or.inr (Or.inr rfl)) (hd : (x == ("__debug__" : Str)) = false := by decide)
    (hcd : (x == ("__classdict__" : Str)) = false := by decide) (hs : PlainIx k := by exact fun _ _ => rfl) : VE X (.Subscript (.Name x p) k pos) (wIxO i Wk) :=
  pe_weak (pe_ix ix_list (pe_var hN hv hd hcd) hk hs) fun σ H Q ⟨a, H0, O0, O, ρ, g, R, r, ⟨ds, hi, w⟩, q⟩ => by
    obtain ⟨p, xs, e, hp, hn, hx, hdd⟩ := r.slot i _ hi
    refine ⟨.ref p, e, a, H0, O0, O, ρ, g, _, r, w, fun kd g1 kv H1 k1 r1 d1 w1 => ?_⟩
    obtain ⟨z, d, rfl, hz, w1⟩ := w1
    cases d1
    have hx1 : H1 p = some (.lst xs) := k1 p _ (fun y => r.noA (y ▸ hp)) hx
    obtain ⟨v, hv', dv⟩ := atI_all (hdd.to (off_kp k1)) hz
    exact ⟨p, xs, z, v, rfl, rfl, SqL.of hx1, hv', q d g1 v H1 k1 r1 dv w1⟩

/-! ### parallel stores -/
def sPar (i j : Nat) (W1 W2 : WE) : WS := fun V ρ g => W1 ρ g fun d g1 => W2 ρ g1 fun d2 g2 => V.nx ((ρ.set i (.val d)).set j (.val d2)) g2
theorem tS_par {K : PySem.W.Frag} {i j : Nat} {W1 W2 : WE} : ∀ D σ H, tS K (sPar i j W1 W2) D σ H → tPar i j (tCons (tE K W1) (tCons (tE K W2) tNil)) D σ H := fun D σ H ⟨a, H0, O0, O, ρ, g, V, r, w, en⟩ =>
  ⟨a, H0, O0, O, ρ, g, _, r, w, fun d g1 v H1 k1 r1 d1 w1 => ⟨a, H0, O0, O, ρ, g1, _, r1, w1, fun d2 g2 v2 H2 k2 r2 dd w2 => ⟨v, v2, rfl, en.nx O _ g2 _ H2 (off_kp (k1.trans k2)) ((r2.setVal (d1.to (off_kp k2))).setVal dd) w2⟩⟩⟩
def sPar3 (i j l : Nat) (W1 : WL) (W2 W3 : WE) : WS := fun V ρ g => W1 ρ g fun ds g1 => W2 ρ g1 fun d2 g2 => W3 ρ g2 fun d3 g3 => V.nx (((ρ.set i (.own ds)).set j (.val d2)).set l (.val d3)) g3
theorem tS_par3 {K : PySem.W.Frag} {i j l : Nat} {W1 : WL} {W2 W3 : WE} : ∀ D σ H, tS K (sPar3 i j l W1 W2 W3) D σ H → tPar3 i j l (tCons (tL K W1) (tCons (tE K W2) (tCons (tE K W3) tNil))) D σ H := fun D σ H ⟨a, H0, O0, O, ρ, g, V, r, w, en⟩ =>
  ⟨a, H0, O0, O, ρ, g, _, r, w, fun ds g1 p xs H1 k1 r1 hp hx d1 w1 => ⟨a, H0, O0, p :: O, ρ, g1, _, r1, w1, fun d2 g2 v2 H2 k2 r2 dd2 w2 => ⟨a, H0, O0, p :: O, ρ, g2, _, r2, w2, fun d3 g3 v3 H3 k3 r3 dd3 w3 => by
    have npa : p ≠ a := fun z => r.pen.live (z ▸ hp)
    have k13 := k2.trans k3
    refine ⟨.ref p, v2, v3, rfl, en.nx (p :: O) _ g3 _ H3 (fun b o e => ?_) (((r3.setOwn List.mem_cons_self (r.freshH hp) (k13 p _ npa hx) (d1.to (off_kp k13)) fun m es hm hs e => ?_).setVal (dd2.to (off_kp k3))).setVal dd3) w3⟩
    · obtain ⟨n, e⟩ := off_some.mp e
      have na : b ≠ a := fun z => n (by rw [z]; exact List.mem_cons_self)
      refine off_in (fun z => ?_) ((k1.trans k13) b o na e)
      rcases List.mem_cons.mp z with z | z
      · exact na z
      · rcases List.mem_cons.mp z with z | z
        · rw [z, hp] at e
          cases e
        · exact n (List.mem_cons_of_mem _ z)
    · obtain ⟨q, _, e', hq, _⟩ := r.slot m _ hs
      rw [e] at e'
      cases e'
      exact r.live p hq hp⟩⟩⟩
end
end Vl
/-! V6: x == (), t * k, {}, stores of comprehensions, callees by name. -/
namespace Vl
open PySem PySem.Spec PyProof.Rows L2

/-! ### {} -/
section
variable {X : Cx} {e a b : Expr} {pos : Pos} {W Wa Wb : WE}
theorem v_emp : VE X (.Dict [] [] pos) (wC (.dict [])) := pe_weak pe_dnewK fun σ H Q ⟨a, H0, O0, O, ρ, g, R, r, w, q⟩ => fun p hp => by
  have s := sub_upd (o := .dK []) hp
  exact q _ g _ _ (Kp.of s) (r.ext s) (.emp (off_upd r.liveA hp)) w
end

/-! ### x == () -/
def isUnit : PyData → Bool
  | .tuple xs => xs.isEmpty
  | _ => false
def notDict : PyData → Bool
  | .dict _ => false
  | _ => true
theorem rc_unit {A : Around} {s : Shared} {d : PyData} {v u : Value} {as bs : List Addr} (r : Reads s.heap v d as) (r2 : Reads s.heap u (.tuple []) bs) (hd : notDict d = true) (hu : A.units + 64 < cLine) : SeqAt.RcAt A s v u (isUnit d) := by
  cases r2 with
  | @tuple l' o' vs' n' _ _ k1 k2 k3 k4 =>
    have hv : vs'.toList = [] := by cases vs' with | mk l => cases l with | nil => rfl | cons x y => cases k4
    have hs : vs'.size = 0 := by rw [← Array.length_toList, hv]; rfl
    have ht : s.heap.IsTuple l' vs' := ⟨_, k1, k2, _, k3⟩
    cases r with
    | none => exact SeqAt.rcAt_plain .none (.tuple k1 k2 k3 k4) rfl rfl (by simp [PyData.depth]; omega)
    | bool b => exact SeqAt.rcAt_plain (.bool b) (.tuple k1 k2 k3 k4) rfl rfl (by simp [PyData.depth]; omega)
    | int i t => exact SeqAt.rcAt_plain (.int i t) (.tuple k1 k2 k3 k4) rfl rfl (by simp [PyData.depth]; omega)
    | str x t => exact SeqAt.rcAt_plain (.str x t) (.tuple k1 k2 k3 k4) rfl rfl (by simp [PyData.depth]; omega)
    | dict => exact nomatch hd
    | list h1 h2 h3 h4 => exact SeqAt.RcAt.list_tuple ⟨_, h1, h2, _, h3⟩ ht (by omega)
    | @tuple l o vs n xs as1 h1 h2 h3 h4 =>
      have n1 : vs.size = xs.length := by simpa using SeqAt.ReadsAll.length _ _ _ h4
      have q := SeqAt.RcAt.tuples (e := fun _ => true) ⟨_, h1, h2, _, h3⟩ ht (by omega : A.units < cLine) (fun j j1 j2 => absurd j2 (by omega))
      have e : ((List.range (min vs.size vs'.size)).all (fun _ => true) && vs.size == vs'.size) = isUnit (.tuple xs) := by
        rw [hs, n1]
        cases xs with
        | nil => rfl
        | cons x r => rw [Nat.min_zero]; rfl
      rw [e] at q
      exact q
def rEqE (K : PySem.W.Frag) : R2 := fun x y H Q => ∃ d b, Dq K H x d ∧ (notDict d = true ∧ noX d = true) ∧ y = .ref b ∧ SqT K H b [] ∧ Q (.bl (isUnit d)) H
section
variable {X : Cx} {e a b : Expr} {pos : Pos} {W Wa Wb : WE}
theorem op_eqE (hu : X.A.units + 64 < cLine) : OpR X (compareOp .Eq) (rEqE X.K) := by
  intro pins s σ H x y v u Q I rx ry h
  obtain ⟨d, b, hd, nd, rfl, hb, q⟩ := h
  obtain ⟨as, r1⟩ := Dq.reads I d x v nd.2 hd rx
  obtain ⟨bs, r2⟩ := Dq.reads I (.tuple []) (.ref b) u (by simp only [noX, noXs]) (.tup hb .nil) ry
  exact rc_unit r1 r2 nd.1 hu X.prog X.w X.xe (EP X pins σ Q) ⟨.bl _, H, I, rfl, q⟩
def wEqE (W : WE) : WE := fun ρ g R => W ρ g fun d g1 => (notDict d = true ∧ noX d = true) ∧ R (.bool (isUnit d)) g1
theorem tE_eqE {K : PySem.W.Frag} {W : WE} : ∀ σ H Q, tE K (wEqE W) σ H Q → tOp (rEqE K) (tE K W) (tTup tNil) σ H Q := fun σ H Q ⟨a, H0, O0, O, ρ, g, R, r, w, q⟩ => ⟨a, H0, O0, O, ρ, g, _, r, w, fun d g1 v H1 k1 r1 d1 w1 => ⟨Nat.zero_le _, fun p hp => by
  have s := sub_upd (o := .tup []) hp
  exact ⟨d, p, (d1.to off_out).to s, w1.1, rfl, .inl (.inl upd_same), q _ g1 _ _ (k1.trans (Kp.of s)) (r1.ext s) (.bl _) w1.2⟩⟩⟩
theorem v_eqE {k : Nat} {p : Pos} (hu : X.A.units + 64 < cLine) (ha : VE X a W) : VE X (.Compare a [.Eq] [.Tuple [] k p] pos) (wEqE W) := pe_weak (pe_cmpR (op_eqE hu) ha (pe_tup pa_nil) (nomark _)) tE_eqE
theorem t_eqE {k : Nat} {p : Pos} (hu : X.A.units + 64 < cLine) (ha : VE X a W) : VT X (.Compare a [.Eq] [.Tuple [] k p] pos) (wB (wEqE W)) := pt_weak (pt_cmpR (op_eqE hu) ha (pe_tup pa_nil) (nomark _)) fun σ H Q h => tE_eqE σ H _ (tT_of σ H Q h)
end

/-! ### t * k, l * k -/
theorem mul_one_meets (l : Addr) (items : Array Value) (n : Nat) (dd : Option Addr) (sl : Array (Option Value)) (u : Tok) :
    Meets (Builtin.«tuple.__mul__» ⟨[.ref l, .int 1 u], []⟩) (fun _ R s => s.heap.get? l = some { cls := .type "tuple", dict := dd, data := .seq items n, slots := sl } ∧ R (.ok (.ret (Value.ref l))) s) :=
  .of_wp fun prog w A R s h => by
    obtain ⟨hp, g, d, tk, os⟩ := s
    obtain ⟨hl, h⟩ := h
    have f1 := AutoSeq1.idx_int
    wp_walk using AutoSeq1.wpAny_loadPart' hl
    exact ⟨_, rfl, h⟩
def rRep1 (K : PySem.W.Frag) : R2 := fun x y H Q => ∃ l xs, x = .ref l ∧ y = .int 1 ∧ SqT K H l xs ∧ Q (.ref l) H
theorem op_rep1 {X : Cx} : OpR X (binaryOp .Mult) (rRep1 X.K) := by
  intro pins s σ H x y v u Q I rx ry h
  obtain ⟨l, xs, rfl, rfl, hT, q⟩ := h
  cases rx
  obtain ⟨t, rfl⟩ := ry
  obtain ⟨its, _, ⟨⟨cls, dd, data, sl⟩, ho, hc, n, hd⟩, _⟩ := I.tuple hT
  simp only at hc hd
  subst hc hd
  refine wpAny_binaryOp_repeat_ref (T := "tuple") (U := "int") (by decide) ⟨_, ho, rfl⟩ (fun s' => typeIs_int s' 1 t) noFill_tuple_mul F.fills_int_mul F.slot_int_rmul repeat_tuple F.slot_int_index.lookup ?_
  exact call_meets F.slot_int_rmul (typeIs_int s 1 t) F.entry_int_rmul (F.args_int_rmul_2 _ _) (int_rmul_tuple 1 t l its.toArray n dd sl) ⟨ho, rfl, ⟨_, ho, rfl⟩, call_meets F.slot_tuple_mul ⟨_, ho, rfl⟩ F.entry_tuple_mul (F.args_tuple_mul_2 _ _) (mul_one_meets l its.toArray n dd sl t) ⟨ho, ⟨.ref l, H, I, rfl, q⟩⟩⟩
def rMulT (K : PySem.W.Frag) : R2 := fun x y H Q => rRepT K x y H Q ∨ rRep1 K x y H Q
def fMulT : F2 := fun x y R => match x, y with
  | .tuple xs, .int k => (1 ≤ k ∧ k ≤ 1000 ∧ xs ≠ [] ∧ xs.length ≤ 1000) ∧ R (.tuple (List.replicate k.toNat xs).flatten)
  | _, _ => False
theorem opS_mulT {K : PySem.W.Frag} : OpS K (rMulT K) fMulT := fun A H x y dx dy R Q hA hx hy w q => by
  cases dx <;> try exact w.elim
  rename_i ds
  cases dy <;> try exact w.elim
  rename_i k
  cases hx with
  | @tup a vs _ ha hv =>
    cases hy
    obtain ⟨⟨h1, h2, h3, h4⟩, w⟩ := w
    by_cases hk : k = 1
    · subst hk
      refine .inr ⟨a, vs, rfl, rfl, sqt_mono off_out ha, q _ _ H (Sub.refl _) (.tup ha ?_) w⟩
      have := DqAll.rep hv 1
      have e : (List.replicate (1 : Int).toNat ds).flatten = ds := by simp
      rw [e]
      exact hv
    · refine .inl ⟨a, k, vs, rfl, rfl, sqt_mono off_out ha, fun z => h3 ?_, by omega, h2, by rw [hv.len]; exact h4, fun p hp => ?_⟩
      · subst z
        cases hv
        rfl
      · have s := sub_upd (o := .tup (List.replicate k.toNat vs).flatten) hp
        exact q _ _ _ s (.tup (.inl (.inl (off_upd hA hp))) ((DqAll.rep hv _).to (off_mono s))) w
def fMulL : F2 := fun x y R => match x, y with
  | .list xs, .int k => (-(2 ^ 63) ≤ k ∧ k < 2 ^ 63 ∧ xs.length * k.toNat ≤ sizeLine) ∧ R (.list (List.replicate k.toNat xs).flatten)
  | _, _ => False
theorem opS_mulL {K : PySem.W.Frag} : OpS K rRep fMulL := fun A H x y dx dy R Q hA hx hy w q => by
  cases dx <;> try exact w.elim
  rename_i ds
  cases dy <;> try exact w.elim
  rename_i k
  cases hx with
  | @lst a vs _ ha hv =>
    cases hy
    obtain ⟨⟨h1, h2, h3⟩, w⟩ := w
    refine ⟨a, k, vs, rfl, rfl, off_out _ _ ha, h1, h2, by rw [hv.len]; exact h3, fun p hp => ?_⟩
    have s := sub_upd (o := .lst (List.replicate k.toNat vs).flatten) hp
    exact q _ _ _ s (.lst (off_upd hA hp) ((DqAll.rep hv _).to (off_mono s))) w
section
variable {X : Cx} {e a b c elt tg iter : Expr} {es : List Expr} {ifs : List Expr} {pos : Pos} {W Wa Wb : WE}
theorem v_mulT (ha : VE X a Wa) (hb : VE X b Wb) : VE X (.BinOp a .Mult b pos) (wOp fMulT Wa Wb) := v_bin (op_repT.or op_rep1) opS_mulT ha hb
theorem v_mulL (ha : VE X a Wa) (hb : VE X b Wb) : VE X (.BinOp a .Mult b pos) (wOp fMulL Wa Wb) := v_bin op_rep opS_mulL ha hb

/-! ### a comprehension stored -/
theorem vs_setLc (i : Nat) {y : Str} {py spos : Pos} {scope : Scope} {own : List (Str × Nat)} {WI : WL} {js : List Nat} {G : WG} {T : WT} {E : WE} (hc : X.calm = true) (hN : X.N.Nodup) (hi : VI X tg iter WI) (ok : BlkOk X.N X.env.scope scope own)
    (hg : ∀ (s : Shared) (H : Hp) (C : Addr) (cl : List (Str × Addr)) (fp : List Addr), VG (X.blk s H scope (compEnvC scope cl C X.env) fp) tg js G) (ht : ∀ (s : Shared) (H : Hp) (C : Addr) (cl : List (Str × Addr)) (fp : List Addr), VTs (X.blk s H scope (compEnvC scope cl C X.env) fp) ifs T)
    (he : ∀ (s : Shared) (H : Hp) (C : Addr) (cl : List (Str × Addr)) (fp : List Addr), VE (X.blk s H scope (compEnvC scope cl C X.env) fp) elt E) (hy : X.N[i]? = some y := by rfl) (hyl : X.env.scope.names.lookup y = some .local := by rfl)
    (hsw : swapsWith (.ListComp elt [⟨tg, iter, ifs, 0⟩] scope pos) (some (.Name y py)) spos.line X.env = pure true := by exact sw_true rfl rfl rfl (by decide +kernel)) (hj : ∀ j ∈ js, j ∈ own.map (·.2) := by decide) (hs : ∀ x, foldedSetIterable iter X.env x = pure x := by intro _; rfl) :
    VS X (.Assign [.Name y py] (.ListComp elt [⟨tg, iter, ifs, 0⟩] scope pos) spos) (sSet i (wL (lLc WI G T E (own.map (·.2))))) :=
  ps_weak (ps_setLc hc hN hy hyl hsw hi ok hg ht he hs) fun D σ H h => by
    have h' := tS_set D σ H h
    obtain ⟨a, H0, O0, O, ρ, g, R, r, w, q⟩ := h'
    have h2 : tL X.K (lLc WI G T E (own.map (·.2))) σ H fun v H' => gName i v σ H' D.nx := ⟨a, H0, O0, O, ρ, g, _, r, w, fun ds g1 p xs H1 k1 r1 hp hx d1 w1 => q (.list ds) g1 (.ref p) H1 k1 (r.unhide r1) (.lst (off_in (r.freshA hp) hx) (d1.to off_shed)) w1⟩
    exact tL_lc hj σ H _ h2
theorem vs_app (i : Nat) {x : Str} {p1 p2 : Pos} {We : WE} (he : VE X e We) (hN : X.N[i]? = some x := by rfl) (hv : Vis X.env.scope x := by first | exact Or.inl rfl | exact Or.inr (Or.inl rfl) | exact Or.inr (Or.inr rfl)) (hd : (x == ("__debug__" : Str)) = false := by decide) (hcd : (x == ("__classdict__" : Str)) = false := by decide)
    (hp : PE X (.Call (.Attribute (.Name x p1) "append" p2) [e] [] pos) (tBM X.K "list" rAppend (tVar i) (tCons (tE X.K We) tNil))) {pos' : Pos} (hs : swapsWith (.Call (.Attribute (.Name x p1) "append" p2) [e] [] pos) none pos'.line X.env = pure false := by rfl) :
    VS X (.Expr (.Call (.Attribute (.Name x p1) "append" p2) [e] [] pos) pos') (sApp i We) := ps_weak (ps_expr hp hs) tS_app
end

/-! ### callees by name -/
/-- a def of the text and how it is called -/
structure Df (K : PySem.W.Frag) (mg : Str → Option Value) (x : Str) (st : Stmt) (ps : List Str) : Prop where
  ex : ∃ (f : Addr) (fd : FuncData), Fun K x x st f fd ∧ Binds K fd ps [] ∧ mg x = some (.ref f)
/-- a def that keeps a promise over data -/
structure Ck (P : Program) (w : World) (K : PySem.W.Frag) (mg : Str → Option Value) (base : Heap) (x : Str) (ps : List Str) (k : Nat) (S : VSp) : Prop where
  ex : ∃ (f : Addr) (fd : FuncData), FnOk P w K mg base CX0 k f fd ps (spV K S) ∧ Binds K fd ps [] ∧ mg x = some (.ref f) ∧ PySem.W.keepIn K (.ref f) = true
section
variable {P : Program} {w : World} {K : PySem.W.Frag} {mg : Str → Option Value} {base : Heap}
theorem ck_v {x : Str} {st : Stmt} {N ps : List Str} {k : Nat} {S : VSp} {W : WS} (D : Df K mg x st ps) (sc : FnScope N ps (defScope st)) (hl : ∀ as g R, S as g R → as.length = ps.length)
    (hb : ∀ (f : Addr) (cdv : Value) (A : Around) (outer : List Env) (s : Shared) (H : Hp) (E : XK), Room k (A.deeper (envOfC x (defScope st) s.heap.objs.size f cdv)) → VSs (cxOf CX0 P w K mg base N x (defScope st) f cdv A outer s H E).nox (defBody st) W)
    (hw : ∀ as g R, S as g R → W (endV R) (startV N.length as) g) (hn : ps.length ≤ N.length := by decide) : Ck P w K mg base x ps (k + 1) S := by
  obtain ⟨f, fd, F, b, m⟩ := D.ex
  exact ⟨f, fd, fn_v F sc hl (hb f) hw hn, b, m, F.kp⟩
end
section
variable {X : Cx} {e : Expr} {es : List Expr} {pos : Pos}
theorem v_callC {k : Nat} {ps : List Str} {S : VSp} {V : WP} {x : Str} {p : Pos} (C : Ck X.prog X.w X.K X.mg X.base x ps k S) (hr : Room k X.A) (hg : Gl X x) (ha : VP X (e :: es) V) (hdb : (x == ("__debug__" : Str)) = false := by decide)
    (he : starEach (e :: es) X.env = (false, eval e X.env) :: starEach es X.env := by rfl) (hpl : (backTo pos (starEach es X.env)).any (·.1) = false := by rfl) : VE X (.Call (.Name x p) (e :: es) [] pos) (wFn S V) := by
  obtain ⟨f, fd, F, b, m, kp⟩ := C.ex
  exact v_call F hr hg m kp b pass0 ha hdb he hpl
end
end Vl
/-! V7: parallel stores, tuple targets, append; the pen: what its defs' bodies do. -/
namespace Vl
open PySem PySem.Spec PyProof.Rows L2

section
variable {X : Cx} {e a b c : Expr} {es : List Expr} {pos : Pos} {W Wa Wb : WE}
theorem vg_tupn {k : Nat} {js : List Nat} {Gs : WGs} (h : VGs X es js Gs) (hc : X.calm = true := by rfl) (hn : (assignEach es X.env).length = es.length := by rfl) (hst : (assignEach es X.env).findIdx? (·.1) = none := by rfl) : VG X (.Tuple es k pos) js (gT es.length Gs) :=
  vg_tup hc h rfl (pg_tup hc h hn hst)
theorem vs_par2 (i j : Nat) {x y : Str} {px py pt : Pos} {kt k2 pt2} (hc : X.calm = true) (hN : X.N.Nodup) (ha : VE X a Wa) (hb : VE X b Wb) (hi : X.N[i]? = some x := by rfl) (hj : X.N[j]? = some y := by rfl) (hij : i ≠ j := by decide)
    (hx : X.env.scope.names.lookup x = some .local := by rfl) (hy : X.env.scope.names.lookup y = some .local := by rfl) (hw : swappedStores [.Tuple [.Name x px, .Name y py] kt pt] (.Tuple [a, b] k2 pt2) X.env = pure (some [x, y]) := by rfl)
    (hs : swapsWithSole [.Tuple [.Name x px, .Name y py] kt pt] (.Tuple [a, b] k2 pt2) pos.line X.env = pure false := by rfl) (h1 : starEach [a, b] X.env = (false, eval a X.env) :: starEach [b] X.env := by rfl) (h2 : starEach [b] X.env = (false, eval b X.env) :: starEach [] X.env := by rfl) :
    VS X (.Assign [.Tuple [.Name x px, .Name y py] kt pt] (.Tuple [a, b] k2 pt2) pos) (sPar i j Wa Wb) := ps_weak (ps_par hc hN hi hj hij hx hy (pa_cons ha (pa_cons hb pa_nil h2) h1) hw hs) tS_par
def sPar2O (i j : Nat) (W1 : WL) (W2 : WE) : WS := fun V ρ g => W1 ρ g fun ds g1 => W2 ρ g1 fun d2 g2 => V.nx ((ρ.set i (.own ds)).set j (.val d2)) g2
theorem tS_par2O {K : PySem.W.Frag} {i j : Nat} {W1 : WL} {W2 : WE} : ∀ D σ H, tS K (sPar2O i j W1 W2) D σ H → tPar i j (tCons (tL K W1) (tCons (tE K W2) tNil)) D σ H := fun D σ H ⟨a, H0, O0, O, ρ, g, V, r, w, en⟩ =>
  ⟨a, H0, O0, O, ρ, g, _, r, w, fun ds g1 p xs H1 k1 r1 hp hx d1 w1 => ⟨a, H0, O0, p :: O, ρ, g1, _, r1, w1, fun d2 g2 v2 H2 k2 r2 dd2 w2 => by
    have npa : p ≠ a := fun z => r.pen.live (z ▸ hp)
    refine ⟨.ref p, v2, rfl, en.nx (p :: O) _ g2 _ H2 (fun b o e => ?_) ((r2.setOwn List.mem_cons_self (r.freshH hp) (k2 p _ npa hx) (d1.to (off_kp k2)) fun m es hm hs e => ?_).setVal dd2) w2⟩
    · obtain ⟨n, e⟩ := off_some.mp e
      have na : b ≠ a := fun z => n (by rw [z]; exact List.mem_cons_self)
      refine off_in (fun z => ?_) ((k1.trans k2) b o na e)
      rcases List.mem_cons.mp z with z | z
      · exact na z
      · rcases List.mem_cons.mp z with z | z
        · rw [z, hp] at e
          cases e
        · exact n (List.mem_cons_of_mem _ z)
    · obtain ⟨q, _, e', hq, _⟩ := r.slot m _ hs
      rw [e] at e'
      cases e'
      exact r.live p hq hp⟩⟩
theorem vs_par2O (i j : Nat) {x y : Str} {px py pt : Pos} {kt k2 pt2} {V : WL} (hc : X.calm = true) (hN : X.N.Nodup) (ha : VL X a V) (hb : VE X b Wb) (hi : X.N[i]? = some x := by rfl) (hj : X.N[j]? = some y := by rfl) (hij : i ≠ j := by decide)
    (hx : X.env.scope.names.lookup x = some .local := by rfl) (hy : X.env.scope.names.lookup y = some .local := by rfl) (hw : swappedStores [.Tuple [.Name x px, .Name y py] kt pt] (.Tuple [a, b] k2 pt2) X.env = pure (some [x, y]) := by rfl)
    (hs : swapsWithSole [.Tuple [.Name x px, .Name y py] kt pt] (.Tuple [a, b] k2 pt2) pos.line X.env = pure false := by rfl) (h1 : starEach [a, b] X.env = (false, eval a X.env) :: starEach [b] X.env := by rfl) (h2 : starEach [b] X.env = (false, eval b X.env) :: starEach [] X.env := by rfl) :
    VS X (.Assign [.Tuple [.Name x px, .Name y py] kt pt] (.Tuple [a, b] k2 pt2) pos) (sPar2O i j V Wb) := ps_weak (ps_par hc hN hi hj hij hx hy (pa_cons ha (pa_cons hb pa_nil h2) h1) hw hs) tS_par2O
theorem vs_par3O (i j l : Nat) {x y z : Str} {px py pz pt : Pos} {kt k2 pt2} {V : WL} {Wc : WE} (hc : X.calm = true) (hN : X.N.Nodup) (ha : VL X a V) (hb : VE X b Wb) (hcc : VE X c Wc) (hi : X.N[i]? = some x := by rfl) (hj : X.N[j]? = some y := by rfl) (hl : X.N[l]? = some z := by rfl) (hij : i ≠ j := by decide) (hil : i ≠ l := by decide) (hjl : j ≠ l := by decide)
    (hx : X.env.scope.names.lookup x = some .local := by rfl) (hy : X.env.scope.names.lookup y = some .local := by rfl) (hz : X.env.scope.names.lookup z = some .local := by rfl) (hw : swappedStores [.Tuple [.Name x px, .Name y py, .Name z pz] kt pt] (.Tuple [a, b, c] k2 pt2) X.env = pure (some [x, y, z]) := by rfl)
    (hs : swapsWithSole [.Tuple [.Name x px, .Name y py, .Name z pz] kt pt] (.Tuple [a, b, c] k2 pt2) pos.line X.env = pure false := by rfl) (h1 : starEach [a, b, c] X.env = (false, eval a X.env) :: starEach [b, c] X.env := by rfl) (h2 : starEach [b, c] X.env = (false, eval b X.env) :: starEach [c] X.env := by rfl) (h3 : starEach [c] X.env = (false, eval c X.env) :: starEach [] X.env := by rfl) :
    VS X (.Assign [.Tuple [.Name x px, .Name y py, .Name z pz] kt pt] (.Tuple [a, b, c] k2 pt2) pos) (sPar3 i j l V Wb Wc) := ps_weak (ps_par3 hc hN hi hj hl hij hil hjl hx hy hz (pa_cons ha (pa_cons hb (pa_cons hcc pa_nil h3) h2) h1) hw hs) tS_par3
end

/-! ### the pen's defs: their readings, apart from any text -/
/-- built-in names that no def of the text hides -/
structure Bi (mg : Str → Option Value) : Prop where
  b_len : mg "len" = none
  b_int : mg "int" = none
  b_tuple : mg "tuple" = none
  b_list : mg "list" = none
  b_repr : mg "repr" = none
  b_isinstance : mg "isinstance" = none
  b_range : mg "range" = none
  b_zip : mg "zip" = none
  b_enumerate : mg "enumerate" = none
  b_any : mg "any" = none
  b_all : mg "all" = none
  b_sorted : mg "sorted" = none
  b_set : mg "set" = none
  b_bool : mg "bool" = none
  b_str : mg "str" = none
theorem boot_int' : bootBuiltins "int" = some (.type "int") := by decide +kernel

def spSpread : VSp := fun as g R => ∃ (cell : Int) (at' : Nat), as = [.val (.int cell), .val (.int (at' : Int))] ∧ at' ≤ LIM ∧ ∀ z, R (.int z) g
def spTake : VSp := fun as g R => ∃ n, as = [.pen, .val (.int n)] ∧ (0 < n ∧ n < 1000000000) ∧ g < LIM ∧ ∀ r, 0 ≤ r → r < n → R (.int r) (g + 1)
/-- at + at most 10 ** 9 -/
theorem lim_lt : LIM < 4294967296 := by decide
end Vl
namespace Vl
open PySem PySem.Spec PyProof.Rows L2
theorem startV_one (N : Nat) (as : Rho) : startV N as = as ++ List.replicate (N - as.length) Sl.un := rfl
theorem fIx_mem {xs : List PyData} {i : Int} {R : PyData → Prop} (h0 : 0 ≤ i) (h1 : i < xs.length) (h : ∀ d ∈ xs, R d) : fIx (.list xs) (.int i) R := by
  obtain ⟨j, rfl⟩ := Int.eq_ofNat_of_zero_le h0
  have hj : j < xs.length := by omega
  exact ⟨xs, xs[j], rfl, atI_nat (List.getElem?_eq_getElem hj), h _ (List.getElem_mem hj)⟩
theorem fIx_at {xs : List PyData} {j : Nat} {d : PyData} {R : PyData → Prop} (h : xs[j]? = some d) (q : R d) : fIx (.list xs) (.int (j : Int)) R := ⟨xs, d, rfl, atI_nat h, q⟩
theorem fIxT_at {xs : List PyData} {j : Nat} {d : PyData} {R : PyData → Prop} (h : xs[j]? = some d) (q : R d) : fIx (.tuple xs) (.int (j : Int)) R := ⟨xs, d, rfl, atI_nat h, q⟩
theorem fIxT_mem {xs : List PyData} {i : Int} {R : PyData → Prop} (h0 : 0 ≤ i) (h1 : i < xs.length) (h : ∀ d ∈ xs, R d) : fIx (.tuple xs) (.int i) R := by
  obtain ⟨j, rfl⟩ := Int.eq_ofNat_of_zero_le h0
  have hj : j < xs.length := by omega
  exact ⟨xs, xs[j], rfl, atI_nat (List.getElem?_eq_getElem hj), h _ (List.getElem_mem hj)⟩
end Vl
/-! V8: what the words of data are at known data (for simp). -/
namespace Vl
open PySem PySem.Spec PyProof.Rows L2
section
variable {i j : Int} {xs ys : List PyData} {R : PyData → Prop} {g : Int → Int → PyData} {C : Int → Int → Prop} {b c : Bool} {x y : Str} {d e : PyData}
theorem e_fII : fII g C (.int i) (.int j) R = (C i j ∧ R (g i j)) := rfl
theorem e_addI : fAdd (.int i) (.int j) R = R (.int (i + j)) := rfl
theorem e_addT : fAdd (.tuple xs) (.tuple ys) R = (xs.length + ys.length ≤ sizeLine ∧ R (.tuple (xs ++ ys))) := rfl
theorem e_addL : fAdd (.list xs) (.list ys) R = (xs.length + ys.length ≤ sizeLine ∧ R (.list (xs ++ ys))) := rfl
theorem e_intI : fInt [.int i] R = R (.int i) := rfl
theorem e_intB : fInt [.bool b] R = R (.int (if b = true then 1 else 0)) := rfl
theorem e_mulT : fMulT (.tuple xs) (.int i) R = ((1 ≤ i ∧ i ≤ 1000 ∧ xs ≠ [] ∧ xs.length ≤ 1000) ∧ R (.tuple (List.replicate i.toNat xs).flatten)) := rfl
theorem e_mulL : fMulL (.list xs) (.int i) R = ((-(2 ^ 63) ≤ i ∧ i < 2 ^ 63 ∧ xs.length * i.toNat ≤ sizeLine) ∧ R (.list (List.replicate i.toNat xs).flatten)) := rfl
theorem e_lenL : fLen [.list xs] R = R (.int xs.length) := propext ⟨fun ⟨_, _, h1, h2, h3⟩ => by cases h1; cases h2; exact h3, fun h => ⟨_, _, rfl, rfl, h⟩⟩
theorem e_lenT : fLen [.tuple xs] R = R (.int xs.length) := propext ⟨fun ⟨_, _, h1, h2, h3⟩ => by cases h1; cases h2; exact h3, fun h => ⟨_, _, rfl, rfl, h⟩⟩
theorem e_tupL : fTuple [.list xs] R = R (.tuple xs) := propext ⟨fun ⟨_, _, h1, h2, h3⟩ => by cases h1; cases h2; exact h3, fun h => ⟨_, _, rfl, rfl, h⟩⟩
theorem e_tupT : fTuple [.tuple xs] R = R (.tuple xs) := propext ⟨fun ⟨_, _, h1, h2, h3⟩ => by cases h1; cases h2; exact h3, fun h => ⟨_, _, rfl, rfl, h⟩⟩
theorem e_eqI : fEq (.int i) (.int j) R = R (.bool (i == j)) := propext ⟨fun h => h.2, fun h => ⟨⟨rfl, rfl, by simp [PyData.depth]⟩, h⟩⟩
theorem e_neI : fNe (.int i) (.int j) R = R (.bool (!(i == j))) := propext ⟨fun h => h.2, fun h => ⟨⟨rfl, rfl, by simp [PyData.depth]⟩, h⟩⟩
theorem e_eqB : fEq (.bool b) (.bool c) R = R (.bool (b == c)) := propext ⟨fun h => h.2, fun h => ⟨⟨rfl, rfl, by simp [PyData.depth]⟩, h⟩⟩
theorem e_neB : fNe (.bool b) (.bool c) R = R (.bool (!(b == c))) := propext ⟨fun h => h.2, fun h => ⟨⟨rfl, rfl, by simp [PyData.depth]⟩, h⟩⟩
theorem e_eqS : fEq (.str x) (.str y) R = R (.bool (x == y)) := propext ⟨fun h => h.2, fun h => ⟨⟨rfl, rfl, by simp [PyData.depth]⟩, h⟩⟩
theorem e_neS : fNe (.str x) (.str y) R = R (.bool (!(x == y))) := propext ⟨fun h => h.2, fun h => ⟨⟨rfl, rfl, by simp [PyData.depth]⟩, h⟩⟩
end
/-- two blocks with a word between them, shown once -/
def tJoin (t u : TS) : TS := fun D σ H => ∃ M : L2.St → Hp → Prop, t ⟨M, D.rt, D.bk, D.ct⟩ σ H ∧ ∀ σ' H', M σ' H' → u D σ' H'
theorem pss_join {X : Cx} {st : Stmt} {rest : List Stmt} {t u : TS} (h1 : PS X st t) (h2 : PSs X rest u) : PSs X (st :: rest) (tJoin t u) := ⟨fun pins s σ H D I ⟨M, hm, hu⟩ => by
  refine wpAny_execs_cons (thn (h1.run pins s σ H ⟨M, D.rt, D.bk, D.ct⟩ I hm) fun f s1 q => ?_)
  cases f with
  | next =>
    obtain ⟨σ', H', I', q⟩ := q
    exact h2.run pins s1 σ' H' D I' (hu σ' H' q)
  | ret v => exact q
  | brk => exact q
  | cont => exact q⟩
theorem pow_ok {a : Int} {n : Nat} (h : a.natAbs < 2 ^ 64) (hn : (n : Int) ≤ 1000000) : CPow a n := ⟨Int.natCast_nonneg n, hn, h⟩
theorem mulR {a b : Int} (h1 : -(2 ^ 64) < b) (h2 : b < 2 ^ 64) : CMul a b := .inr ⟨h1, h2⟩
theorem mulL {a b : Int} (h1 : -(2 ^ 64) < a) (h2 : a < 2 ^ 64) : CMul a b := .inl ⟨h1, h2⟩
/-- a product of two that are not below nought -/
theorem prod_le {a b A B : Int} (ha : 0 ≤ a) (hA : a ≤ A) (hb : 0 ≤ b) (hB : b ≤ B) : 0 ≤ a * b ∧ a * b ≤ A * B :=
  ⟨Int.mul_nonneg ha hb, Int.mul_le_mul hA hB hb (Int.le_trans ha hA)⟩
end Vl
/-! V9: the end: a law's def run at the outermost call (no guards), sys.modules known to the base. -/
namespace Vl
open PySem PySem.Spec PyProof.Rows L2

def sysAt (h : Heap) : Option Value := (h.get? sysModules).map (·.cls)
def SysD (h : Heap) : Prop := ∃ o, h.get? sysModules = some o ∧ o.cls = .type "dict"
/-- a hook that looks at sys.modules, too -/
def hookS (H : PySem.W.Hook) : PySem.W.Hook :=
  ⟨H.α × Option Value, fun s => (H.obs s, sysAt s.heap), fun w => (H.val w, some (.type "dict")), fun w h => H.says w h ∧ SysD h,
    fun w s e => ⟨H.of w s (congrArg Prod.fst e), by
      have e2 : (s.heap.get? sysModules).map (·.cls) = some (.type "dict") := congrArg Prod.snd e
      exact Option.map_eq_some_iff.mp e2⟩,
    fun w h h' ⟨y, o, e, c⟩ k => ⟨H.keeps w h h' y k, o, k _ _ e, c⟩⟩

/-- a def's promise where it is called with no guard held -/
structure FnG (P : Program) (w : World) (K : PySem.W.Frag) (mg : Str → Option Value) (base : Heap) (k : Nat) (f : Addr) (fd : FuncData) (ps : List Str) (sp : Sp) : Prop where
  run : ∀ (A : Around) (outer : List Env) (s : Shared) (H : Hp) (args : Args) (us : List Value) (vs : List V) (Q : VK) (E : XK), A.guards = some [] → Room k A → Env0 P w K mg base A outer s H →
    BindsTo s fd args (ps.zip us) → Vals vs us → sp vs H Q E → codeAny (model P w) A (.call (.ref f) args) (CR CX0 outer P w H s Q E) s
theorem fn_g {P : Program} {w : World} {K : PySem.W.Frag} {mg : Str → Option Value} {base : Heap} {k : Nat} {f : Addr} {fd : FuncData} {x qual : Str} {st : Stmt} {N ps : List Str} {sp : Sp} (F : Fun K x qual st f fd) (S : FnScope N ps (defScope st))
    (len : ∀ vs H Q E, sp vs H Q E → vs.length = ps.length)
    (hbody : ∀ (cdv : Value) (A : Around) (outer : List Env) (s : Shared) (H : Hp) (vs : List V) (Q : VK) (E : XK), A.guards = some [] → Room k (A.deeper (envOfC qual (defScope st) s.heap.objs.size f cdv)) → sp vs H Q E →
      ∃ t, PSs (cxOf CX0 P w K mg base N qual (defScope st) f cdv A outer s H E).nox (defBody st) t ∧ t { nx := fun _ H' => Q .non H', rt := Q } (start N vs) H) :
    FnG P w K mg base (k + 1) f fd ps sp := by
  obtain ⟨oc, od, kV, doc, pm, an, cdv, ct, osl, rfl, lk, hcd⟩ := F.ex
  constructor
  intro A outer s H args us vs Q E hgd hr e0 hb r hsp
  have hl := len _ _ _ _ hsp
  have KX := e0.mod.kin.keeps fun b o e => (e0.bs b o e).1
  have lim := e0.mod.nolimit.keeps fun b o e => (e0.bs b o e).1
  have hkind : ∀ y ∈ ps.zip us, (defScope st).names.lookup y.1 = some .local ∨ ((defScope st).names.lookup y.1 = some .cell ∧ ((cellsFrom (s.heap.objs.size + 1) (defScope st).names []).lookup y.1).isSome = true) := by
    rintro ⟨n, v⟩ hy
    have hm := (List.of_mem_zip hy).1
    cases S.par n hm with
    | inl q => exact .inl q
    | inr q => exact .inr ⟨q, PySem.W.cellsFrom_some _ _ _ (.inl q)⟩
  apply codeAny_call_function hr.depth (KX _ _ lk) rfl S.co S.gen rfl (PySem.W.codeRec_of KX hcd)
  apply hb
  apply wpAny_newFunctionEnv_cells S.kind hkind
  intro env he s1 x1
  subst he
  refine ⟨lim.keeps x1.toInCall.keep, ?_⟩
  apply codeAny_func
  obtain ⟨t, ht', hq⟩ := hbody cdv A outer s H vs Q E hgd (hr.deeper _) hsp
  have ht : PSs (cxOf CX0 P w K mg base N qual (defScope st) f cdv A outer s H E) (defBody st) t := ht'.nox
  have I := inv_start (E := E) (CX := CX0) S hr.hd e0 hl r x1
  apply wpAny_mono (ht.run [] s1 (start N vs) H _ I hq) _ fun e s' hs => hs
  intro fl s' hs
  have fin : ∀ {σ' : L2.St} {H' : Hp} {v : V} {u : Value}, Inv (cxOf CX0 P w K mg base N qual (defScope st) f cdv A outer s H E) [] σ' H' s' → RelV v u → Q v H' → CE outer P w H s Q u s' :=
    fun J rv q => ⟨_, _, J.os, J.bare, J.base, J.hok, rv, q⟩
  cases fl with
  | brk => obtain ⟨_, _, _, q⟩ := hs; exact q.elim
  | cont => obtain ⟨_, _, _, q⟩ := hs; exact q.elim
  | next =>
    obtain ⟨_, _, J, q⟩ := hs
    exact fin (v := V.non) (u := Value.none) J rfl q
  | ret u =>
    obtain ⟨v, _, _, J, rv, q⟩ := hs
    exact fin J rv q

/-- the law's promise, at the heap behind the top, sys.modules known -/
theorem call_g {P : Program} {w : World} {K : PySem.W.Frag} {mg mb : Str → Option Value} {k : Nat} {fa a : Addr} {fd : FuncData} {x : Str} {sp : Sp} {s1 : Shared} {vs : List Value} {ns : List Int}
    (KX : K.In s1.heap) (hsy : SysD s1.heap) (hns : s1.heap.Ns mainGlobals mg) (hb : s1.heap.Ns builtinsNs mb) (hbb : ∀ x : Str, x ≠ "__name__" → mb x = bootBuiltins x) (hlim : s1.heap.NoLimit) (hg : s1.gens = #[])
    (ha : s1.heap.get? a = some { cls := .type "list", data := .seq vs.toArray }) (hi : IntsAre vs ns) (hl : ns.length ≤ sizeLine) (hr : Room k callerA)
    (F : ∀ base : Heap, K.In base → base.Ns mainGlobals mg → SysD base → FnG P w K mg base k fa fd [x] sp) (hbind : ∀ (s : Shared) (u : Value), BindsTo s fd ⟨[u], []⟩ [(x, u)])
    (hsp : ∀ H : Hp, Only H → SqL K H a (ns.map V.int) → sp [.ref a] H (fun v _ => v = .bl true) fun _ _ _ => False) :
    codeAny (model P w) callerA (.call (.ref fa) ⟨[.ref a], []⟩) (fun r s' => r = .ok (.ret (.bool true)) ∧ OldK s1.heap s'.heap ∧ s'.os = s1.os ∧ AllBare s'.gens) s1 := by
  have rv := vals_ints hi
  have lenV := hi.length
  have main : ∀ H : Hp, Only H → SqL K H a (ns.map V.int) → HOk P w H s1.heap → (∀ b, H b ≠ none → b = a) → (H a ≠ none → K.lookup a = none) →
      codeAny (model P w) callerA (.call (.ref fa) ⟨[.ref a], []⟩) (fun r s' => r = .ok (.ret (.bool true)) ∧ OldK s1.heap s'.heap ∧ s'.os = s1.os ∧ AllBare s'.gens) s1 := by
    intro H hO hS hok hA hK
    have free : ∀ {b : Addr}, (b = a → False) → H b = none := fun {b} hb => by
      cases q : H b with
      | none => rfl
      | some u => exact (hb (hA b (by rw [q]; exact fun z => nomatch z))).elim
    have low : ∀ {b : Addr} {o : Obj}, s1.heap.get? b = some o → (b = a → False) → (hidT s1.heap H).get? b = some o := fun e n => hidT_get e (free n)
    have notL : ∀ {b : Addr} {o : Obj}, s1.heap.get? b = some o → b = a → o = { cls := .type "list", data := .seq vs.toArray } := fun {b o} e z => by
      rw [z, ha] at e
      exact (Option.some.inj e).symm
    have nsK : ∀ {b : Addr} {m : Str → Option Value}, s1.heap.Ns b m → (hidT s1.heap H).Ns b m := by
      rintro b m ⟨o, es, ep, e, d, r⟩
      exact ⟨o, es, ep, low e (fun z => by rw [notL e z] at d; cases d), d, r⟩
    have hKb : K.In (hidT s1.heap H) := fun b o e => by
      apply hidT_get (KX b o e)
      cases q : H b with
      | none => rfl
      | some u =>
        have z : b = a := hA b (by rw [q]; exact fun z => nomatch z)
        subst z
        rw [hK (by rw [q]; exact fun z => nomatch z)] at e
        cases e
    have hSb : SysD (hidT s1.heap H) := by
      obtain ⟨o, e, c⟩ := hsy
      refine ⟨o, low e (fun z => ?_), c⟩
      rw [notL e z] at c
      exact absurd (show ("list" : String) = "dict" from Value.type.inj c) (by decide)
    have hM : Mod K mg (hidT s1.heap H) := ⟨hKb, nsK hns, ⟨mb, nsK hb, hbb⟩, by
      obtain ⟨mc, h1, h2⟩ := hlim
      exact ⟨mc, nsK h1, h2⟩⟩
    have e0 : Env0 P w K mg (hidT s1.heap H) callerA [] s1 H := ⟨rfl, hM, fun b o e => of_hidT e, Nat.le_of_eq (hidT_size _ _), trivial, fun b hb => (nomatch hb), hok, .of_eq hg⟩
    refine codeAny_mono ((F _ hKb (nsK hns) hSb).run callerA [] s1 H ⟨[.ref a], []⟩ [.ref a] [.ref a] _ _ rfl hr e0 (hbind s1 (.ref a)) (.cons rfl .nil) (hsp H hO hS)) fun r s' h => ?_
    cases r with
    | error e => exact False.elim h
    | ok fl =>
      cases fl with
      | next => exact False.elim h
      | brk => exact False.elim h
      | cont => exact False.elim h
      | ret u =>
        obtain ⟨v, H', os, bare, un, hok', r', q⟩ := h
        have q' : v = .bl true := q
        subst q'
        obtain rfl : u = Value.bool true := r'
        refine ⟨rfl, OldK.of_keep fun b o e => ?_, os, bare⟩
        cases q : H b with
        | none => exact un.keep b o e q (fun z => nomatch z) (fun z => nomatch z)
        | some u =>
          cases hO b with
          | inl z => rw [q] at z; cases z
          | inr z =>
            obtain ⟨ob, xs, z⟩ := z
            have e1 := (hok b _ z).1
            have e2 := (hok' b _ (un.frzs b ob _ z)).1
            rw [e] at e1
            rw [Option.some.inj e1]
            exact e2
  cases hk : K.lookup a with
  | some o =>
    have e := KX a o hk
    rw [ha] at e
    cases e
    exact main (fun _ => none) (fun _ => .inl rfl) (.inr ⟨_, vs.toArray, _, hk, rfl, rfl, rfl, by rw [List.size_toArray, lenV]; exact hl, by simpa using rv⟩) (fun b u z => (nomatch z)) (fun b z => absurd rfl z) fun z => absurd rfl z
  | none =>
    have one : ∀ {b : Addr} {u : HO}, (if b = a then some (HO.frz { cls := .type "list", data := .seq vs.toArray } (.lst (ns.map V.int))) else none) = some u → b = a ∧ u = HO.frz { cls := .type "list", data := .seq vs.toArray } (.lst (ns.map V.int)) := fun {b u} z => by
      by_cases hb : b = a
      · rw [if_pos hb] at z
        exact ⟨hb, (Option.some.inj z).symm⟩
      · rw [if_neg hb] at z
        cases z
    refine main (fun b => if b = a then some (.frz { cls := .type "list", data := .seq vs.toArray } (.lst (ns.map V.int))) else none) (fun b => ?_) (.inl (.inr ⟨{ cls := .type "list", data := .seq vs.toArray }, if_pos rfl⟩)) (fun b u z => ?_) (fun b z => ?_) fun _ => hk
    · by_cases hb : b = a
      · exact .inr ⟨_, _, if_pos hb⟩
      · exact .inl (if_neg hb)
    · obtain ⟨rfl, rfl⟩ := one z
      exact ⟨ha, by rw [List.length_map]; exact hl, vs, _, rv, ha⟩
    · by_cases hb : b = a
      · exact hb
      · exact absurd (if_neg hb) z
theorem walk_g {l : PySem.W.OpenLaw} {n k : Nat} {q : Program} {loose : List Str} {XP : (Str → Option Value) → Heap → Prop} {YP : World → Heap → Prop} {d : DefRec} {K : Params → PySem.W.Frag} {sp : PySem.W.Frag → Sp} {x : Str}
    (hn : l.most = some n) (hn2 : n ≤ sizeLine) (hdf : d.params.defaults = []) (hr : Room k callerA) (hY : ∀ (w : World) (h : Heap), YP w h → (K w.params).In h ∧ SysD h)
    (F : ∀ (w : World) (mg : Str → Option Value) (fa : Addr) (h : Heap), (K w.params).In h → h.Ns mainGlobals mg → mg d.name = some (.ref fa) →
      ∃ fd : FuncData, (∀ (s : Shared) (u : Value), BindsTo s fd ⟨[u], []⟩ [(x, u)]) ∧ ∀ base : Heap, (K w.params).In base → base.Ns mainGlobals mg → SysD base → FnG l.prog w (K w.params) mg base k fa fd [x] (sp (K w.params)))
    (hsp : ∀ (K : PySem.W.Frag) (H : Hp) (a : Addr) (ns : List Int), ns.length ≤ n → Only H → SqL K H a (ns.map V.int) → sp K [.ref a] H (fun v _ => v = .bl true) fun _ _ _ => False) :
    PySem.W.WalkO q loose XP YP l.row.toRowW d [] (fun f vs => PySem.call f vs) := by
  apply Att.attach_call hn hdf
  intro w s0 s1 mg mb fa o pm cd doc a vs ns G Y ho hd hcd hmg hobj hints hlen hg
  obtain ⟨KX, SX⟩ := hY w _ Y
  obtain ⟨fd, hb, hF⟩ := F w mg fa _ KX G.T.g hmg
  exact call_g KX SX G.T.g G.T.b G.T.builtins G.T.nolimit hg hobj hints (Nat.le_trans hlen hn2) hr hF hb fun H hO hS => hsp (K w.params) H a ns hlen hO hS
end Vl
/-! V10: exceptions of the program, held as values. -/
namespace Vl
open PySem PySem.Spec PyProof.Rows L2

/-- what the text says of an own exception class: how it is made, read, asked for -/
structure ExK (K : PySem.W.Frag) (C : Addr) : Prop where
  T : OexC K C
  xf : XfC K C
  is : ExcC K C
structure MkC (K : PySem.W.Frag) (C fI : Addr) : Prop where
  iC : PySem.W.findIn K (.ref C) "__init__" = some (some (.ref fI))
  tI : PySem.W.typeIn K (.ref fI) = some (.type "function")
/-- __init__(self, y): self.f = y -/
def spIni (K : PySem.W.Frag) (f : Str) : Sp := fun vs H Q _ => ∃ (a C : Addr) (y : V), vs = [.ref a, y] ∧ OexC K C ∧ PySem.W.findIn K (.ref C) f = some none ∧ H a = some (exo a C none) ∧
  ∀ dx, H dx = none → dx ≠ a → Q .non (upd (upd H dx (exd dx [(f, y)])) a (exo a C (some dx)))
/-- __init__(self): nothing -/
def spIni0 : Sp := fun vs H Q _ => ∃ a : Addr, vs = [.ref a] ∧ Q .non H
def tEx (C : Addr) (sp : Sp) (ta : TA) : TE := fun σ H Q => ta σ H fun vs H1 => vs.length ≤ 1000 ∧ ∀ a, H1 a = none → sp (.ref a :: vs) (upd H1 a (exo a C none)) (fun v H2 => v = .non ∧ Q (.ref a) H2) (fun _ _ _ => False)
section
variable {X : Cx} {x : Str} {C fI : Addr} {k : Nat} {fd : FuncData} {ps : List Str} {sp : Sp} {p pos : Pos} {e : Expr} {es : List Expr} {ta : TA}
theorem mk_call (T : OexC X.K C) (M : MkC X.K C fI) (F1 : FnOk X.prog X.w X.K X.mg X.base CX0 k fI fd ps sp) (hr : Room (k + 1) X.A) (hb : Binds X.K fd ps [])
    {pins : List (Addr × Obj)} {σ : L2.St} {H1 : Hp} {s1 : Shared} {vs : List V} {us : List Value} {Q : VK} (I1 : Inv X pins σ H1 s1) (r1 : Vals vs us) (hz : vs.length ≤ 1000)
    (q1 : ∀ a, H1 a = none → sp (.ref a :: vs) (upd H1 a (exo a C none)) (fun v H2 => v = .non ∧ Q (.ref a) H2) (fun _ _ _ => False)) :
    wpAny (model X.prog X.w) X.A (call (.ref C) us) (EP X pins σ Q) X.xe s1 := by
  obtain ⟨nm, qn, N, bs, bm, sn, sub, ab, col, dd, k0, k1, k2, k3, k5, hC, hbm⟩ := T.cls
  obtain ⟨hp, g, dr, tk, os⟩ := s1
  have hsz : hp.objs.size ≤ hp.objs.size + 1 := Nat.le_succ _
  have hn : H1 (hp.objs.size + 1) = none := I1.hok.fresh hsz
  have hq := q1 (hp.objs.size + 1) hn
  have hget : ((hp.push (PySem.W.kdv_tup us)).push (PySem.HandSPX.excO C hp.objs.size)).get? (hp.objs.size + 1) = some (PySem.HandSPX.excO C hp.objs.size) := by heap_get
  have I2 : Inv X pins σ (upd H1 (hp.objs.size + 1) (exo (hp.objs.size + 1) C none)) ⟨(hp.push (PySem.W.kdv_tup us)).push (PySem.HandSPX.excO C hp.objs.size), g, dr, tk, os⟩ :=
    I1.laid (t' := tk) (a := hp.objs.size + 1) (o := exo (hp.objs.size + 1) C none) (h' := (hp.push (PySem.W.kdv_tup us)).push (PySem.HandSPX.excO C hp.objs.size))
      (fun b o e => Heap.get?_push_of_some _ (Heap.get?_push_of_some _ e)) hsz (exo_ok hget)
  have r2 : Vals (V.ref (hp.objs.size + 1) :: vs) (Value.ref (hp.objs.size + 1) :: us) := .cons rfl r1
  have hlen : (Value.ref (hp.objs.size + 1) :: us).length = ps.length := by
    rw [← r2.length]
    exact F1.len _ _ _ _ hq
  have hus : us.length ≤ sizeLine := by
    rw [← r1.length, sizeLine_eq]
    omega
  have hb2 := hb _ (Value.ref (hp.objs.size + 1) :: us) I2.kIn (by rw [List.append_nil]; exact hlen)
  rw [List.append_nil] at hb2
  apply wpAny_call
  refine PySem.HandSPX.call_own F.excBase_ValueError (fun Y => PySem.HandSPX.refsVE_contains Y bm hbm) (I1.kIn _ _ hC) (PySem.W.looks_findIn I1.kIn M.iC) (fun self => PySem.W.bind_fn I1.kIn self M.tI) hus ?_
  refine codeAny_mono (F1.run _ X.stack _ _ ⟨Value.ref (hp.objs.size + 1) :: us, []⟩ (Value.ref (hp.objs.size + 1) :: us) _ _ (fun _ _ _ => False) (hr.make C us []) (I2.env0.make C us []) hb2 r2 hq) fun r s' hq' => ?_
  cases r with
  | error er => exact False.elim hq'
  | ok fl =>
    cases fl with
    | next => exact False.elim hq'
    | brk => exact False.elim hq'
    | cont => exact False.elim hq'
    | ret u =>
      obtain ⟨v, H2, os2, bare2, un2, hok2, rv, ev, q2⟩ := hq'
      subst ev
      exact ⟨rv, .ref (hp.objs.size + 1), H2, I2.call' (ch := []) os2 un2 hok2 bare2 (fun b z => (nomatch z)), rfl, q2⟩
theorem pe_ex (T : OexC X.K C) (M : MkC X.K C fI) (F1 : FnOk X.prog X.w X.K X.mg X.base CX0 k fI fd ps sp) (hr : Room (k + 1) X.A) (hb : Binds X.K fd ps []) (hg : Gl X x) (hm : X.mg x = some (.ref C)) (ha : PA X (e :: es) ta)
    (hdb : (x == ("__debug__" : Str)) = false := by decide) (he : starEach (e :: es) X.env = (false, eval e X.env) :: starEach es X.env := by rfl) (hpl : (backTo pos (starEach es X.env)).any (·.1) = false := by rfl) :
    PE X (.Call (.Name x p) (e :: es) [] pos) (tEx C sp ta) := by
  constructor
  intro pins s σ H Q I h
  apply wpAny_Call_Name_kw (ld_glob I hg hm ?_ hdb)
  exact PySem.W.callWith_K (h₀ := X.base) I.ok.mod.kin T.kC (thn (ha.run pos pins s σ H _ I h) fun us s1 ⟨vs, H1, I1, r1, hz, q1⟩ => ⟨I1.kIn, mk_call T M F1 hr hb I1 r1 hz q1⟩) he hpl
theorem pe_ex0 (T : OexC X.K C) (M : MkC X.K C fI) (F1 : FnOk X.prog X.w X.K X.mg X.base CX0 k fI fd ps sp) (hr : Room (k + 1) X.A) (hb : Binds X.K fd ps []) (hg : Gl X x) (hm : X.mg x = some (.ref C))
    (hdb : (x == ("__debug__" : Str)) = false := by decide) : PE X (.Call (.Name x p) [] [] pos) (tEx C sp tNil) := by
  constructor
  intro pins s σ H Q I h
  apply wpAny_Call_Name_kw (ld_glob I hg hm ?_ hdb)
  exact PySem.W.callWith_K0 I.kIn T.kC (mk_call (us := []) T M F1 hr hb I .nil h.1 h.2)

/-! ### fields, isinstance -/
def tAtx (K : PySem.W.Frag) (n : Str) (te : TE) : TE := fun σ H Q => te σ H fun x H1 => ∃ (a C dx : Addr) (fs : List (Str × V)) (v : V), x = .ref a ∧ XfC K C ∧ PySem.W.findIn K (.ref C) n = some none ∧
  H1 a = some (exo a C (some dx)) ∧ H1 dx = some (exd dx fs) ∧ fs.lookup n = some v ∧ Q v H1
theorem inst_at {K : PySem.W.Frag} {H : Hp} {h : Heap} {a C dx : Addr} {P : Program} {w : World} {fs : List (Str × V)} (hok : HOk P w H h) (ea : H a = some (exo a C (some dx))) (ed : H dx = some (exd dx fs)) :
    ∃ (oe od : Obj), PySem.W.InstAt h a oe C (some od) ∧ ∀ n v, fs.lookup n = some v → ∃ u, PySem.W.lookIn n od = some (some u) ∧ RelV v u := by
  obtain ⟨t0, hoe⟩ := exo_at hok ea
  obtain ⟨mA, hns, rel⟩ := exd_at hok ed
  obtain ⟨od, ho, hl⟩ := lookIn_ns hns
  refine ⟨_, od, ⟨hoe, rfl, rfl, ho⟩, fun n v l => ?_⟩
  obtain ⟨u, hu, ru⟩ := RelO.some_of (v := v) (o := mA n) (by rw [← l]; exact rel n)
  exact ⟨u, by rw [hl, hu], ru⟩
theorem inst_at0 {K : PySem.W.Frag} {H : Hp} {h : Heap} {a C : Addr} {P : Program} {w : World} (hok : HOk P w H h) (ea : H a = some (exo a C none)) : ∃ oe : Obj, PySem.W.InstAt h a oe C none := by
  obtain ⟨t0, hoe⟩ := exo_at hok ea
  exact ⟨_, hoe, rfl, rfl, trivial⟩
theorem pe_atx {te : TE} {n : Str} (h : PE X e te) (hb : attributeBase e n X.env (eval e X.env) = eval e X.env := by rfl) : PE X (.Attribute e n pos) (tAtx X.K n te) := by
  constructor
  intro pins s σ H Q I q
  apply attr_of hb
  refine thn (h.run pins s σ H _ I q) fun u s1 hh => ?_
  obtain ⟨x, H1, I1, rx, a, C, dx, fs, v, ex, T, hno, ea, ed, l, q⟩ := hh
  subst ex
  obtain rfl : u = Value.ref a := rx
  obtain ⟨oe, od, J, hl⟩ := inst_at (K := X.K) I1.hok ea ed
  obtain ⟨u, hu, ru⟩ := hl n v l
  exact HandSPX.exc_get I1.kIn J T.ga T.gg T.exC (PySem.W.findObj_own T.hdC hno rfl hu) (handed_of ru) ⟨v, H1, I1.tok _, ru, q⟩
def ExAt (H : Hp) (a D : Addr) : Prop := H a = some (exo a D none) ∨ ∃ (dx : Addr) (fs : List (Str × V)), H a = some (exo a D (some dx)) ∧ H dx = some (exd dx fs)
def rIsX (K : PySem.W.Frag) : List V → Hp → VK → Prop := fun xs H Q => ∃ (a D : Addr) (c : V) (cv : Value) (b : Bool), xs = [.ref a, c] ∧ ExAt H a D ∧ ExcC K D ∧ (∀ u, RelV c u → u = cv) ∧ PySem.W.kitOne K (.ref D) cv = some b ∧ Q (.bl b) H
theorem call_isX : CallR X (.builtin "isinstance") (rIsX X.K) := by
  intro pins s σ H xs us Q I r h
  obtain ⟨a, D, c, cv, b, rfl, ha, C, hcv, e, q⟩ := h
  obtain ⟨u1, u2, rfl, r1, r2⟩ := vals2 r
  cases r1
  have ec := hcv _ r2
  subst ec
  have hcl : (PySem.W.clsIn X.K D).isSome = true := by
    have hh := C.hd
    unfold PySem.W.hasDictIn at hh
    cases hc : PySem.W.clsIn X.K D with
    | some cd => rfl
    | none => rw [hc] at hh; cases hh
  have go : ∀ {oe : Obj} {od : Option Obj}, PySem.W.InstAt s.heap a oe D od → wpAny (model X.prog X.w) X.A (call (.builtin "isinstance") [.ref a, u2]) (EP X pins σ Q) X.xe s := fun {oe od} J =>
    PySem.W.kia_one (PySem.W.kitx_exc hcl C.hg C.hk C.hs C.ha C.hn C.ht C.hm) I.kIn J e (fun z => nomatch z) fun tk => ⟨.bl b, H, I.kept (t' := tk) fun _ _ z => z, rfl, q⟩
  cases ha with
  | inl h =>
    obtain ⟨oe, J⟩ := inst_at0 (K := X.K) I.hok h
    exact go J
  | inr h =>
    obtain ⟨dx, fs, h1, h2⟩ := h
    obtain ⟨oe, od, J, _⟩ := inst_at (K := X.K) I.hok h1 h2
    exact go J
end

/-! ### over data -/
structure Mk (P : Program) (w : World) (K : PySem.W.Frag) (mg : Str → Option Value) (base : Heap) (x : Str) (C : Addr) (k : Nat) (ps : List Str) (sp : Sp) : Prop where
  ek : ExK K C
  gm : mg x = some (.ref C)
  ex : ∃ (fI : Addr) (fd : FuncData), MkC K C fI ∧ FnOk P w K mg base CX0 k fI fd ps sp ∧ L2.Binds K fd ps []
section
variable {X : Cx} {x f : Str} {C : Addr} {k : Nat} {ps : List Str} {p p2 pos : Pos} {e : Expr} {W : WE}
def wEx (C : Addr) (f : Str) (W : WE) : WE := fun ρ g R => W ρ g fun d g1 => R (.dict (exD C [(.str f, d)])) g1
def wEx0 (C : Addr) : WE := fun _ g R => R (.dict (exD C [])) g
theorem v_mk1 (M : Mk X.prog X.w X.K X.mg X.base x C k ps (spIni X.K f)) (hno : PySem.W.findIn X.K (.ref C) f = some none) (hr : Room (k + 1) X.A) (hg : Gl X x) (ha : VE X e W)
    (hdb : (x == ("__debug__" : Str)) = false := by decide) (he : starEach [e] X.env = (false, eval e X.env) :: starEach [] X.env := by rfl) : VE X (.Call (.Name x p) [e] [] pos) (wEx C f W) := by
  obtain ⟨fI, fd, Mc, F, b⟩ := M.ex
  refine pe_weak (pe_ex M.ek.T Mc F hr b hg M.gm (pa_cons ha pa_nil he) hdb he rfl) fun σ H Q ⟨a, H0, O0, O, ρ, g, R, r, w, q⟩ => ⟨a, H0, O0, O, ρ, g, _, r, w, fun d g1 v H1 k1 r1 d1 w1 => ?_⟩
  refine ⟨by show 1 ≤ 1000; decide, fun ea hea => ⟨ea, C, v, rfl, M.ek.T, hno, upd_same, fun dx hdx ne => ⟨rfl, ?_⟩⟩⟩
  rw [upd_ne ne] at hdx
  have s : Sub H1 (upd (upd (upd H1 ea (exo ea C none)) dx (exd dx [(f, v)])) ea (exo ea C (some dx))) := fun y o ey => by
    rw [upd_ne (ne_of_none ey hea), upd_ne (ne_of_none ey hdx), upd_ne (ne_of_none ey hea)]
    exact ey
  exact q _ g1 (.ref ea) _ (k1.trans (Kp.of s)) (r1.ext s) (.exc1 (off_in (r1.freshA hea) upd_same) (off_in (r1.freshA hdx) (by rw [upd_ne ne, upd_same])) (d1.to (off_mono s))) w1
theorem v_mk0 (M : Mk X.prog X.w X.K X.mg X.base x C k ps spIni0) (hr : Room (k + 1) X.A) (hg : Gl X x) (hdb : (x == ("__debug__" : Str)) = false := by decide) : VE X (.Call (.Name x p) [] [] pos) (wEx0 C) := by
  obtain ⟨fI, fd, Mc, F, b⟩ := M.ex
  refine pe_weak (pe_ex0 M.ek.T Mc F hr b hg M.gm hdb) fun σ H Q ⟨a, H0, O0, O, ρ, g, R, r, w, q⟩ => ⟨by show 0 ≤ 1000; decide, fun ea hea => ⟨ea, rfl, rfl, ?_⟩⟩
  have s := sub_upd (o := exo ea C none) hea
  exact q _ g (.ref ea) _ (Kp.of s) (r.ext s) (.exc0 (off_in (r.freshA hea) upd_same)) w
/-- a field of an exception, of a class of which P holds -/
def wAtx (P : Addr → Prop) (n : Str) (W : WE) : WE := fun ρ g R => W ρ g fun d g1 => ∃ (C : Addr) (y : PyData), d = .dict (exD C [(.str n, y)]) ∧ P C ∧ R y g1
theorem exD_inj {C D : Addr} {xs ys : List (PyData × PyData)} (h : exD C xs = exD D ys) : C = D ∧ xs = ys := by
  unfold exD at h
  injection h with h1 h2
  injection h1 with h3 h4
  injection h4 with h5
  exact ⟨Int.ofNat.inj h5, h2⟩
theorem v_atx {P : Addr → Prop} {n : Str} (hP : ∀ C, P C → ExK X.K C ∧ PySem.W.findIn X.K (.ref C) n = some none) (h : VE X e W) (hb : attributeBase e n X.env (eval e X.env) = eval e X.env := by rfl) : VE X (.Attribute e n pos) (wAtx P n W) :=
  pe_weak (pe_atx h hb) fun σ H Q ⟨a, H0, O0, O, ρ, g, R, r, w, q⟩ => ⟨a, H0, O0, O, ρ, g, _, r, w, fun d g1 v H1 k1 r1 d1 w1 => by
    obtain ⟨C, y, hd, hC, w1⟩ := w1
    obtain ⟨ek, hno⟩ := hP C hC
    generalize hz : PyData.dict (exD C [(.str n, y)]) = z at hd
    cases d1 with
    | @exc1 ea C' dx f v' d' h1 h2 h3 =>
      rw [← hz] at hd
      injection hd with hd
      obtain ⟨e1, e2⟩ := exD_inj hd
      subst e1
      simp only [List.cons.injEq, Prod.mk.injEq, PyData.str.injEq, and_true] at e2
      obtain ⟨rfl, rfl⟩ := e2
      exact ⟨ea, _, dx, [(_, v')], v', rfl, ek.xf, hno, (off_some.mp h1).2, (off_some.mp h2).2, by rw [lookup_put, if_pos rfl], q _ g1 _ H1 k1 r1 h3 w1⟩
    | exc0 h1 =>
      rw [← hz] at hd
      injection hd with hd
      obtain ⟨_, hd⟩ := exD_inj hd
      cases hd
    | _ =>
      rw [← hz] at hd
      first
        | cases hd
        | (injection hd with hd; cases hd)⟩
/-- isinstance of an exception: f tells the answer by its class -/
def wIsX (f : Addr → Bool → Prop) (W : WE) : WE := fun ρ g R => W ρ g fun d g1 => ∃ (D : Addr) (fs : List (PyData × PyData)) (b : Bool), d = .dict (exD D fs) ∧ f D b ∧ R (.bool b) g1
theorem isX_of {K : PySem.W.Frag} {cv : Value} {c : V} {f : Addr → Bool → Prop} (hf : ∀ D b, f D b → ExK K D ∧ PySem.W.kitOne K (.ref D) cv = some b) (hcv : ∀ u, RelV c u → u = cv) : ∀ σ H Q, tE K (wIsX f W) σ H Q →
    tE K W σ H fun v H1 => rIsX K [v, c] H1 Q := fun σ H Q ⟨a, H0, O0, O, ρ, g, R, r, w, q⟩ => ⟨a, H0, O0, O, ρ, g, _, r, w, fun d g1 v H1 k1 r1 d1 w1 => by
    obtain ⟨D, fs, b, hd, hb, w1⟩ := w1
    obtain ⟨ek, hk⟩ := hf D b hb
    have fin : ∀ ea, v = .ref ea → ExAt H1 ea D → rIsX K [v, c] H1 Q := fun ea e1 h => ⟨ea, D, c, cv, b, by rw [e1], h, ek.is, hcv, hk, q _ g1 _ H1 k1 r1 (.bl b) w1⟩
    generalize hz : PyData.dict (exD D fs) = z at hd
    cases d1 with
    | @exc1 ea C' dx f v' d' h1 h2 h3 =>
      rw [← hz] at hd
      injection hd with hd
      obtain ⟨rfl, hd⟩ := exD_inj hd
      exact fin ea rfl (.inr ⟨dx, _, (off_some.mp h1).2, (off_some.mp h2).2⟩)
    | @exc0 ea C' h1 =>
      rw [← hz] at hd
      injection hd with hd
      obtain ⟨rfl, hd⟩ := exD_inj hd
      exact fin ea rfl (.inl (off_some.mp h1).2)
    | _ =>
      rw [← hz] at hd
      first
        | cases hd
        | (injection hd with hd; cases hd)⟩
theorem v_isX {y : Str} {f : Addr → Bool → Prop} {D : Addr} (hf : ∀ C b, f C b → ExK X.K C ∧ PySem.W.kitOne X.K (.ref C) (.ref D) = some b) (hg : Gl X "isinstance") (hm : X.mg "isinstance" = none) (hy : Gl X y) (hym : X.mg y = some (.ref D)) (he : VE X e W)
    (hdy : (y == ("__debug__" : Str)) = false := by decide) (hs : starEach (e :: [.Name y p2]) X.env = (false, eval e X.env) :: starEach [.Name y p2] X.env := by rfl) (hs2 : starEach [.Name y p2] X.env = (false, eval (.Name y p2) X.env) :: starEach [] X.env := by rfl)
    (hv : bootBuiltins "isinstance" = some (.builtin "isinstance") := by decide +kernel) (hpl : (backTo pos (starEach [.Name y p2] X.env)).any (·.1) = false := by rfl) : VE X (.Call (.Name "isinstance" p) [e, .Name y p2] [] pos) (wIsX f W) :=
  pe_weak (pe_callB call_isX hg hm hv (pa_cons he (pa_cons (pe_glob (v := .ref D) (u := .ref D) hy hym rfl hdy) pa_nil hs2) hs) (by decide) (by decide) hs hpl) (isX_of hf fun u r => r)
theorem v_isXb {y : Str} {T : String} {f : Addr → Bool → Prop} (hf : ∀ C b, f C b → ExK X.K C ∧ PySem.W.kitOne X.K (.ref C) (.type T) = some b) (hg : Gl X "isinstance") (hm : X.mg "isinstance" = none) (hy : Gl X y) (hym : X.mg y = none) (hyv : bootBuiltins y = some (.type T)) (he : VE X e W)
    (hn : y ≠ "__name__" := by decide) (hdy : (y == ("__debug__" : Str)) = false := by decide) (hs : starEach (e :: [.Name y p2]) X.env = (false, eval e X.env) :: starEach [.Name y p2] X.env := by rfl) (hs2 : starEach [.Name y p2] X.env = (false, eval (.Name y p2) X.env) :: starEach [] X.env := by rfl)
    (hv : bootBuiltins "isinstance" = some (.builtin "isinstance") := by decide +kernel) (hpl : (backTo pos (starEach [.Name y p2] X.env)).any (·.1) = false := by rfl) : VE X (.Call (.Name "isinstance" p) [e, .Name y p2] [] pos) (wIsX f W) :=
  pe_weak (pe_callB call_isX hg hm hv (pa_cons he (pa_cons (pe_bltn (v := .ty T) (u := .type T) hy hym hyv rfl hn hdy) pa_nil hs2) hs) (by decide) (by decide) hs hpl) (isX_of hf fun u r => r)
end
end Vl
/-! W1: loops and comprehensions over data by an invariant; shapes of data. -/
namespace Vl
open PySem PySem.Spec PyProof.Rows L2
theorem lp_inv {G : WG} {B : WS} {V : EndsV} (I : Nat → Rho → Nat → Prop) (h0 : ∀ ρ g, I 0 ρ g → V.nx ρ g)
    (hs : ∀ (d : PyData) (n : Nat) (ρ : Rho) (g : Nat) (N : Rho → Nat → Prop), I (n + 1) ρ g → (∀ ρ' g', I n ρ' g' → N ρ' g') → G d ρ fun ρ' => B { nx := N, rt := V.rt, bk := V.nx, ct := N } ρ' g) :
    ∀ (ds : List PyData) (ρ : Rho) (g : Nat), I ds.length ρ g → loopV G B V ds ρ g
  | [], ρ, g, h => h0 ρ g h
  | d :: ds, ρ, g, h => hs d ds.length ρ g _ h fun ρ' g' h' => lp_inv I h0 hs ds ρ' g' h'
/-- the same, each item one of some -/
theorem lp_mem {G : WG} {B : WS} {V : EndsV} {P : PyData → Prop} (I : Nat → Rho → Nat → Prop) (h0 : ∀ ρ g, I 0 ρ g → V.nx ρ g)
    (hs : ∀ (d : PyData) (n : Nat) (ρ : Rho) (g : Nat) (N : Rho → Nat → Prop), P d → I (n + 1) ρ g → (∀ ρ' g', I n ρ' g' → N ρ' g') → G d ρ fun ρ' => B { nx := N, rt := V.rt, bk := V.nx, ct := N } ρ' g) :
    ∀ (ds : List PyData) (ρ : Rho) (g : Nat), (∀ d ∈ ds, P d) → I ds.length ρ g → loopV G B V ds ρ g
  | [], ρ, g, _, h => h0 ρ g h
  | d :: ds, ρ, g, hp, h => hs d ds.length ρ g _ (hp d List.mem_cons_self) h fun ρ' g' h' => lp_mem I h0 hs ds ρ' g' (fun x hx => hp x (List.mem_cons_of_mem _ hx)) h'
theorem lp_cons {G : WG} {B : WS} {V : EndsV} {d : PyData} {ds : List PyData} {ρ : Rho} {g : Nat} : loopV G B V (d :: ds) ρ g = G d ρ fun ρ' => B { nx := loopV G B V ds, rt := V.rt, bk := V.nx, ct := loopV G B V ds } ρ' g := rfl
/-- a comprehension without takes: what it keeps, what it makes -/
theorem lc_pure {α : Type} {enc : α → PyData} {keep : α → Bool} {f : α → PyData} {G : WG} {T : WT} {E : WE} {ρ : Rho} {g : Nat} {R : List PyData → Nat → Prop} : ∀ (xs : List α) (acc : List PyData),
    (∀ x ∈ xs, ∀ (N : List PyData → Nat → Prop) (acc : List PyData), N (if keep x = true then acc ++ [f x] else acc) g → G (enc x) ρ fun ρ' => T ρ' g fun b g1 => if b = true then E ρ' g1 fun y g2 => N (acc ++ [y]) g2 else N acc g1) →
    R (acc ++ (xs.filter keep).map f) g → lcV G T E (xs.map enc) ρ acc g R
  | [], acc, _, h => by simpa [lcV] using h
  | x :: xs, acc, hs, h => by
    show G (enc x) ρ _
    refine hs x List.mem_cons_self (fun acc' g' => lcV G T E (xs.map enc) ρ acc' g' R) acc (lc_pure xs _ (fun y hy => hs y (List.mem_cons_of_mem _ hy)) ?_)
    cases hk : keep x with
    | true =>
      rw [if_pos rfl]
      simpa [List.filter_cons, hk] using h
    | false =>
      rw [if_neg Bool.false_ne_true]
      simpa [List.filter_cons, hk] using h
/-- a comprehension with an invariant -/
theorem lc_inv {G : WG} {T : WT} {E : WE} {ρ : Rho} {R : List PyData → Nat → Prop} {P : PyData → Prop} (I : Nat → List PyData → Nat → Prop) (h0 : ∀ acc g, I 0 acc g → R acc g)
    (hs : ∀ (d : PyData) (n : Nat) (acc : List PyData) (g : Nat) (N : List PyData → Nat → Prop), P d → I (n + 1) acc g → (∀ acc' g', I n acc' g' → N acc' g') → G d ρ fun ρ' => T ρ' g fun b g1 => if b = true then E ρ' g1 fun y g2 => N (acc ++ [y]) g2 else N acc g1) :
    ∀ (ds : List PyData) (acc : List PyData) (g : Nat), (∀ d ∈ ds, P d) → I ds.length acc g → lcV G T E ds ρ acc g R
  | [], acc, g, _, h => h0 acc g h
  | d :: ds, acc, g, hp, h => hs d ds.length acc g (fun acc' g' => lcV G T E ds ρ acc' g' R) (hp d List.mem_cons_self) h fun acc' g' h' => lc_inv I h0 hs ds acc' g' (fun x hx => hp x (List.mem_cons_of_mem _ hx)) h'
section
variable {P : Program} {w : World} {K : PySem.W.Frag} {mg : Str → Option Value} {base : Heap}
/-- a def that is called nowhere -/
theorem ck_no {x : Str} {st : Stmt} {ps : List Str} {k : Nat} (D : Df K mg x st ps) : Ck P w K mg base x ps k (fun _ _ _ => False) := by
  obtain ⟨f, fd, F, b, m⟩ := D.ex
  refine ⟨f, fd, ⟨fun vs H Q E h => ?_, fun A outer s H args us vs Q E hr he hb hv h => ?_⟩, b, m, F.kp⟩ <;>
    (obtain ⟨a, O, g, as, R, _, _, _, _, h, _⟩ := h; exact h.elim)
theorem Ck.mono {x : Str} {ps : List Str} {j k : Nat} {S : VSp} (c : Ck P w K mg base x ps j S) (h : j ≤ k) : Ck P w K mg base x ps k S := by
  obtain ⟨f, fd, F, b, m, kp⟩ := c.ex
  exact ⟨f, fd, F.mono h, b, m, kp⟩
end
/-- plain data without dicts, of limited depth and width -/
inductive Sm : Nat → PyData → Prop
  | non (n : Nat) : Sm n .none
  | bl (n : Nat) (b : Bool) : Sm n (.bool b)
  | int (n : Nat) (i : Int) : Sm n (.int i)
  | str (n : Nat) (x : Str) : Sm n (.str x)
  | lst {n : Nat} {xs : List PyData} : (∀ x ∈ xs, Sm n x) → xs.length ≤ 1000000 → Sm (n + 1) (.list xs)
  | tup {n : Nat} {xs : List PyData} : (∀ x ∈ xs, Sm n x) → xs.length ≤ 1000000 → Sm (n + 1) (.tuple xs)
theorem noXs_all : ∀ {xs : List PyData}, (∀ x ∈ xs, noX x = true) → noXs xs = true
  | [], _ => by simp only [noXs]
  | x :: xs, h => by
    simp only [noXs, Bool.and_eq_true]
    exact ⟨h x List.mem_cons_self, noXs_all fun y hy => h y (List.mem_cons_of_mem _ hy)⟩
theorem Sm.noX {n : Nat} {d : PyData} (h : Sm n d) : noX d = true := by
  induction h with
  | lst _ _ ih => simp only [Vl.noX]; exact noXs_all ih
  | tup _ _ ih => simp only [Vl.noX]; exact noXs_all ih
  | _ => simp only [Vl.noX]
theorem zip_same {xs : List PyData} : List.zipWith (fun x y => PyData.tuple [x, y]) xs xs = xs.map fun x => PyData.tuple [x, x] := by
  induction xs with
  | nil => rfl
  | cons x xs ih => rw [List.zipWith_cons_cons, ih, List.map_cons]
theorem plainAll_bools : ∀ {α : Type} {f : α → Bool} (xs : List α), PyData.plainAll (xs.map fun x => .bool (f x)) = true
  | _, _, [] => by simp only [List.map_nil, PyData.plainAll]
  | _, f, x :: xs => by simp only [List.map_cons, PyData.plainAll, PyData.plain, Bool.true_and]; exact plainAll_bools xs
theorem depthAll_bools : ∀ {α : Type} {f : α → Bool} (xs : List α), PyData.depthAll (xs.map fun x => .bool (f x)) = 0
  | _, _, [] => by simp only [List.map_nil, PyData.depthAll]
  | _, f, x :: xs => by
    simp only [List.map_cons, PyData.depthAll, PyData.depth, depthAll_bools xs]
    rfl
end Vl
/-! V11: < of tuples whose later places need not compare; sorted of such tuples: some order of the items. -/
namespace Vl
open PySem PySem.SeqAt
open AutoSeq1 (wpAny_loadPart')
open MeetsSeq MeetsSeq2 MeetsSeq3 SeqRoads2
/-- from place i on the items compare, the answer being k -/
inductive LexI (A : Around) (s : Shared) (xs ys : Array Value) (k : Bool) : Nat → Prop
  | fin {i : Nat} : min xs.size ys.size ≤ i → k = decide (xs.size < ys.size) → LexI A s xs ys k i
  | yes {i : Nat} (h1 : i < xs.size) (h2 : i < ys.size) : EqAt A s xs[i] ys[i] true → LexI A s xs ys k (i + 1) → LexI A s xs ys k i
  | no {i : Nat} (h1 : i < xs.size) (h2 : i < ys.size) : EqAt A s xs[i] ys[i] false → RcLt A s xs[i] ys[i] k → LexI A s xs ys k i
theorem lex_meets (l b : Addr) (xs ys : Array Value) (n m : Nat) (d1 d2 : Option Addr) (s1 s2 : Array (Option Value)) (k : Bool) :
    Meets (Builtin.«tuple.__lt__» ⟨[.ref l, .ref b], []⟩) (fun A R s => s.heap.get? l = some ⟨.type "tuple", d1, .seq xs n, s1⟩ ∧ s.heap.get? b = some ⟨.type "tuple", d2, .seq ys m, s2⟩ ∧ LexI A.in1 s xs ys k 0 ∧ R (.ok (.ret (.bool k))) s) :=
  .of_wp fun prog w A R s h => by
    obtain ⟨hp, g, d, tk, os⟩ := s
    obtain ⟨hl, hb, hx, hR⟩ := h
    have f2 := AutoSeq1.sub_tuple_tuple
    have zl : (xs.toList.zip ys.toList).length = min xs.size ys.size := by simp
    wp_walk using wpAny_loadPart' hl, wpAny_loadPart' hb, wpAny_forIn_list _ (fun rest b s' => b.1 = none ∧ s' = ⟨hp, g, d, tk, os⟩ ∧ ∃ i, rest = (xs.toList.zip ys.toList).drop i ∧ LexI A.in1 ⟨hp, g, d, tk, os⟩ xs ys k i) _
    case turn =>
      rintro ⟨y, x⟩ rest b s' ⟨_, rfl, i, hz, hi⟩
      have hlt : i < (xs.toList.zip ys.toList).length := Nat.lt_of_not_le fun q => by
        rw [List.drop_of_length_le q] at hz
        cases hz
      rw [List.drop_eq_getElem_cons hlt] at hz
      injection hz with e1 e2
      have b1 : i < xs.size := by omega
      have b2 : i < ys.size := by omega
      obtain rfl : y = xs[i] := by simpa using congrArg Prod.fst e1
      obtain rfl : x = ys[i] := by simpa using congrArg Prod.snd e1
      cases hi with
      | fin q _ => omega
      | yes _ _ he ht =>
        refine wpAny_bind (he prog w _ _ ?_)
        wp_walk
        exact ⟨rfl, rfl, i + 1, e2, ht⟩
      | no _ _ he hr =>
        refine wpAny_bind (he prog w _ _ ?_)
        rw [if_pos (show (!false) = true from rfl)]
        refine wpAny_bind (wpAny_rule ?_)
        refine wpAny_bind (hr prog w _ _ ?_)
        wp_walk
        exact ⟨_, rfl, hR⟩
    case fin =>
      rintro ⟨b1, b2⟩ s' ⟨hb1, rfl, i, hz, hi⟩
      obtain rfl : b1 = none := hb1
      have hge : min xs.size ys.size ≤ i := Nat.le_of_not_lt fun q => by
        rw [List.drop_eq_getElem_cons (by omega)] at hz
        cases hz
      have hk : k = decide (xs.size < ys.size) := by
        cases hi with
        | fin _ q => exact q
        | yes h1 h2 _ _ => omega
        | no h1 h2 _ _ => omega
      subst hk
      wp_walk
      exact ⟨_, rfl, by simpa [Builtin.Tuple.tupleCompareSizes] using hR⟩
    case h =>
      exact ⟨rfl, rfl, 0, rfl, hx⟩
theorem lex_lt {A : Around} {s : Shared} {l b : Addr} {xs ys : Array Value} {k : Bool} (hl : s.heap.IsTuple l xs) (hb : s.heap.IsTuple b ys) (hu : A.units < cLine) (h : LexI A.in1 s xs ys k 0) : RcLt A s (.ref l) (.ref b) k := fun prog w E Q q => by
  obtain ⟨⟨c1, d1, e1, s1⟩, ho, hc, n, hd⟩ := id hl
  obtain ⟨⟨c2, d2, e2, s2⟩, ho2, hc2, m, hd2⟩ := id hb
  simp only at hc hd hc2 hd2
  subst hc hd hc2 hd2
  exact richCompare_meets_room (op := .Lt) ⟨_, ho, rfl⟩ ⟨_, ho2, rfl⟩ F.slot_tuple_lt F.entry_tuple_lt (F.args_tuple_lt_2 _ _) (lex_meets l b xs ys n m d1 d2 s1 s2 k) ⟨ho, ho2, h, show Value.bool k ≠ Value.notImplemented ∧ Q (.bool k) s from ⟨(fun x => nomatch x), q⟩⟩ hu
end Vl
/-! V12: sorted of tuples whose items compare where they first differ: a new list of the same items in some order. -/
namespace Vl
open PySem PySem.Spec PyProof.Rows L2
mutual
inductive CmpD : Nat → PyData → PyData → Prop
  | int (n : Nat) (i j : Int) : CmpD n (.int i) (.int j)
  | str (n : Nat) (x y : Str) : CmpD n (.str x) (.str y)
  | tup {n : Nat} {xs ys : List PyData} : CmpL n xs ys → CmpD (n + 1) (.tuple xs) (.tuple ys)
inductive CmpL : Nat → List PyData → List PyData → Prop
  | nilL (n : Nat) (ys : List PyData) : CmpL n [] ys
  | nilR (n : Nat) (xs : List PyData) : CmpL n xs []
  | same {n : Nat} {x y : PyData} {xs ys : List PyData} : x.plain = true → y.plain = true → min x.depth y.depth ≤ 50 → PyData.eqv x y = true → CmpL n xs ys → CmpL n (x :: xs) (y :: ys)
  | diff {n : Nat} {x y : PyData} {xs ys : List PyData} : x.plain = true → y.plain = true → min x.depth y.depth ≤ 50 → PyData.eqv x y = false → CmpD n x y → CmpL n (x :: xs) (y :: ys)
end
theorem drop_head {vs : Array Value} {i : Nat} {v : Value} {r : List Value} (h : vs.toList.drop i = v :: r) : ∃ h1 : i < vs.size, vs[i] = v ∧ vs.toList.drop (i + 1) = r := by
  have hl : i < vs.toList.length := Nat.lt_of_not_le fun q => by
    rw [List.drop_of_length_le q] at h
    cases h
  rw [List.drop_eq_getElem_cons hl] at h
  injection h with h1 h2
  exact ⟨by simpa using hl, by simpa using h1, h2⟩
theorem drop_none {vs : Array Value} {i : Nat} (h : vs.toList.drop i = []) : vs.size ≤ i := by
  have := List.drop_eq_nil_iff.mp h
  simpa using this
mutual
theorem rc_of {s : Shared} : ∀ {n : Nat} {d e : PyData} {A : Around} {v u : Value} {as bs : List Addr}, CmpD n d e → Reads s.heap v d as → Reads s.heap u e bs → A.units + n + 52 < cLine → ∃ k, SeqAt.RcLt A s v u k
  | _, _, _, A, _, _, _, _, .int n i j, r1, r2, hu => by
    cases r1
    cases r2
    exact ⟨_, fun prog w E Q q => PyProof.Rows.lt_int q⟩
  | _, _, _, A, _, _, _, _, .str n x y, r1, r2, hu => by
    cases r1
    cases r2
    exact ⟨_, fun prog w E Q q => PyProof.Rows.lt_str q⟩
  | _, _, _, A, _, _, _, _, .tup c, r1, r2, hu => by
    cases r1 with
    | @tuple l o vs m _ _ h1 h2 h3 h4 =>
      cases r2 with
      | @tuple l' o' vs' m' _ _ k1 k2 k3 k4 =>
        obtain ⟨k, hk⟩ := lex_of (A := A.in1) (vs := vs) (ws := vs') (i := 0) c h4 k4 (by show A.units + 1 + _ + 52 < cLine; omega)
        exact ⟨k, lex_lt ⟨_, h1, h2, _, h3⟩ ⟨_, k1, k2, _, k3⟩ (by omega) hk⟩
theorem lex_of {s : Shared} : ∀ {n : Nat} {xs ys : List PyData} {A : Around} {vs ws : Array Value} {i : Nat} {as bs : List Addr}, CmpL n xs ys → ReadsAll s.heap (vs.toList.drop i) xs as → ReadsAll s.heap (ws.toList.drop i) ys bs → A.units + n + 52 < cLine →
    ∃ k, LexI A s vs ws k i
  | _, _, _, A, vs, ws, i, _, _, .nilL n ys, r1, r2, hu => by
    generalize hz : vs.toList.drop i = z at r1
    cases r1
    have := drop_none hz
    exact ⟨_, .fin (by omega) rfl⟩
  | _, _, _, A, vs, ws, i, _, _, .nilR n xs, r1, r2, hu => by
    generalize hz : ws.toList.drop i = z at r2
    cases r2
    have := drop_none hz
    exact ⟨_, .fin (by omega) rfl⟩
  | _, _, _, A, vs, ws, i, _, _, .same p1 p2 p3 p4 c, r1, r2, hu => by
    generalize hz : vs.toList.drop i = z at r1
    generalize hy : ws.toList.drop i = y at r2
    cases r1 with
    | cons a1 a2 =>
      cases r2 with
      | cons b1 b2 =>
        obtain ⟨h1, rfl, e1⟩ := drop_head hz
        obtain ⟨h2, rfl, e2⟩ := drop_head hy
        have q := SeqAt.eqAt_plain _ _ A s _ _ _ _ a1 b1 p1 p2 (by omega)
        rw [p4] at q
        rw [← e1] at a2
        rw [← e2] at b2
        obtain ⟨k, hk⟩ := lex_of c a2 b2 hu
        exact ⟨k, .yes h1 h2 q hk⟩
  | _, _, _, A, vs, ws, i, _, _, .diff p1 p2 p3 p4 c, r1, r2, hu => by
    generalize hz : vs.toList.drop i = z at r1
    generalize hy : ws.toList.drop i = y at r2
    cases r1 with
    | cons a1 a2 =>
      cases r2 with
      | cons b1 b2 =>
        obtain ⟨h1, rfl, e1⟩ := drop_head hz
        obtain ⟨h2, rfl, e2⟩ := drop_head hy
        have q := SeqAt.eqAt_plain _ _ A s _ _ _ _ a1 b1 p1 p2 (by omega)
        rw [p4] at q
        obtain ⟨k, hk⟩ := rc_of c a1 b1 hu
        exact ⟨k, .no h1 h2 q hk⟩
end
theorem kat_of {prog : Program} {w : World} {A : Around} {s : Shared} {xs ys : Array Value} {k : Bool} : ∀ {i : Nat}, LexI A s xs ys k i → PySem.W.KatLex prog w A false (decide (xs.size < ys.size)) (fun r s' => s' = s ∧ r = k) ((xs.toList.zip ys.toList).drop i) i s := by
  intro i h
  have zl : (xs.toList.zip ys.toList).length = min xs.size ys.size := by simp
  induction h with
  | fin h e =>
    rw [List.drop_of_length_le (by omega)]
    exact PySem.W.kat_nil ⟨rfl, e.symm⟩
  | @yes i h1 h2 he _ ih =>
    rw [List.drop_eq_getElem_cons (by omega)]
    rw [show (xs.toList.zip ys.toList)[i]'(by omega) = (xs[i], ys[i]) by simp]
    exact PySem.W.kat_cons (he prog w _ _ (PySem.W.kat_yes ih))
  | @no i h1 h2 he hr =>
    rw [List.drop_eq_getElem_cons (by omega)]
    rw [show (xs.toList.zip ys.toList)[i]'(by omega) = (xs[i], ys[i]) by simp]
    exact PySem.W.kat_cons (he prog w _ _ (PySem.W.kat_no (PySem.W.kat_one _ _ (hr prog w _ _ ⟨rfl, rfl⟩))))
/-- what is asked of the items -/
structure Ord (ds : List PyData) : Prop where
  nx : ∀ d ∈ ds, noX d = true
  hd : ∀ d ∈ ds, ∃ z r, d = .tuple (.tuple z :: r)
  cmp : ∀ d ∈ ds, ∀ e ∈ ds, CmpD 4 d e
theorem perm_lift {α β : Type} (f : α → β) {l m : List β} (h : l.Perm m) : ∀ zs : List α, m = zs.map f → ∃ zs' : List α, zs'.Perm zs ∧ l = zs'.map f := by
  induction h with
  | nil =>
    intro zs e
    cases zs with
    | nil => exact ⟨[], .nil, rfl⟩
    | cons z zs => cases e
  | @cons x l m _ ih =>
    intro zs e
    cases zs with
    | nil => cases e
    | cons z zs =>
      injection e with e1 e2
      obtain ⟨zs', p, e3⟩ := ih zs e2
      exact ⟨z :: zs', p.cons z, by rw [List.map_cons, e1, e3]⟩
  | swap x y l =>
    intro zs e
    cases zs with
    | nil => cases e
    | cons z zs =>
      cases zs with
      | nil => cases e
      | cons z2 zs =>
        injection e with e1 e2
        injection e2 with e2 e3
        exact ⟨z2 :: z :: zs, .swap .., by rw [List.map_cons, List.map_cons, e1, e2, e3]⟩
  | trans _ _ ih1 ih2 =>
    intro zs e
    obtain ⟨zs1, p1, e1⟩ := ih2 zs e
    obtain ⟨zs2, p2, e2⟩ := ih1 zs1 e1
    exact ⟨zs2, p2.trans p1, e2⟩
/-- values, what they stand for, what they read as, side by side -/
theorem side {K : PySem.W.Frag} {H : Hp} : ∀ {xs : List V} {ds : List PyData} {its : List Value}, DqAll K H xs ds → Vals xs its → ∃ zs : List (V × PyData × Value), xs = zs.map (·.1) ∧ ds = zs.map (·.2.1) ∧ its = zs.map (·.2.2) ∧ ∀ z ∈ zs, Dq K H z.1 z.2.1 ∧ RelV z.1 z.2.2
  | _, _, _, .nil, .nil => ⟨[], rfl, rfl, rfl, fun _ h => (nomatch h)⟩
  | _, _, _, .cons (v := v) (d := d) h t, .cons (b := u) r rs => by
    obtain ⟨zs, e1, e2, e3, hz⟩ := side t rs
    exact ⟨(v, d, u) :: zs, by rw [List.map_cons, ← e1], by rw [List.map_cons, ← e2], by rw [List.map_cons, ← e3], fun z hzm => by
      rcases List.mem_cons.mp hzm with rfl | hzm
      · exact ⟨h, r⟩
      · exact hz z hzm⟩
theorem side_dq {K : PySem.W.Frag} {H : Hp} : ∀ {zs : List (V × PyData × Value)}, (∀ z ∈ zs, Dq K H z.1 z.2.1 ∧ RelV z.1 z.2.2) → DqAll K H (zs.map (·.1)) (zs.map (·.2.1)) ∧ Vals (zs.map (·.1)) (zs.map (·.2.2))
  | [], _ => ⟨.nil, .nil⟩
  | z :: zs, h => by
    obtain ⟨a, b⟩ := side_dq fun y hy => h y (List.mem_cons_of_mem _ hy)
    obtain ⟨c, d⟩ := h z List.mem_cons_self
    exact ⟨.cons c a, .cons d b⟩
def rSortT (K : PySem.W.Frag) : List V → Hp → VK → Prop := fun vs H Q => ∃ (a : Addr) (xs : List V) (ds : List PyData) (B : List Addr), vs = [V.ref a] ∧ SqL K H a xs ∧ DqAll K (Off B H) xs ds ∧ Ord ds ∧
  ∀ (ys : List V) (es : List PyData) (p : Addr), es.Perm ds → DqAll K (Off B H) ys es → H p = none → Q (.ref p) (upd H p (.lst ys))
section
variable {X : Cx}
theorem call_sortT (hu : X.A.units + 64 < cLine) : CallR X (.builtin "sorted") (rSortT X.K) := by
  intro pins s σ H vs us Q I r h
  obtain ⟨a, xs, ds, B, rfl, hs, hd, ho, q⟩ := h
  obtain ⟨its, rv, hl, hz⟩ := I.list hs
  rw [Vals.ref1 r]
  obtain ⟨zs, e1, e2, e3, hzs⟩ := side hd rv
  have hlen : its.length ≤ sizeLine := by rw [← rv.length]; exact hz
  have rd : ∀ v ∈ its, ∃ d ∈ ds, ∃ as, Reads s.heap v d as := fun v hv => by
    rw [e3] at hv
    obtain ⟨z, hzm, rfl⟩ := List.mem_map.mp hv
    have hdm : z.2.1 ∈ ds := by rw [e2]; exact List.mem_map.mpr ⟨z, hzm, rfl⟩
    obtain ⟨as, ra⟩ := Dq.reads I z.2.1 z.1 z.2.2 (ho.nx _ hdm) ((hzs z hzm).1.to off_out) (hzs z hzm).2
    exact ⟨_, hdm, as, ra⟩
  refine Srt.sorted_any hl.isList hlen (fun h2 h1 b hb keep => ?_) (fun out hp => ?_)
  · intro h' keep2
    have kk : ∀ b o, s.heap.get? b = some o → h'.get? b = some o := fun b o e => keep2 b o (keep b o e).1 (keep b o e).2
    have firsts : ∀ l : List Value, (∀ v ∈ l, v ∈ its) → ∃ fs, PySem.W.KatTups h' l fs ∧ fs.length = l.length ∧ ∀ f ∈ fs, ∃ (a : Addr) (o : Obj), f = .ref a ∧ h'.get? a = some o ∧ o.cls = .type "tuple" := by
      intro l
      induction l with
      | nil => exact fun _ => ⟨[], PySem.W.KatTups.nil, rfl, fun _ h => (nomatch h)⟩
      | cons v l ih =>
        intro hm
        obtain ⟨fs, f1, f2, f3⟩ := ih fun x hx => hm x (List.mem_cons_of_mem _ hx)
        obtain ⟨d, hdm, as, ra⟩ := rd v (hm v List.mem_cons_self)
        obtain ⟨z, rr, rfl⟩ := ho.hd d hdm
        cases ra with
        | @tuple a0 o vs0 n _ _ g1 g2 g3 g4 =>
          generalize hw : vs0.toList = w0 at g4
          cases g4 with
          | @cons f0 _ _ _ _ _ c1 c2 =>
            cases c1 with
            | @tuple a1 o1 vs1 n1 _ _ k1 k2 k3 k4 =>
              refine ⟨.ref a1 :: fs, PySem.W.KatTups.cons (kk _ _ g1) g2 g3 (by rw [← Array.getElem?_toList, hw]; rfl) f1, by rw [List.length_cons, List.length_cons, f2], fun f hf => ?_⟩
              rcases List.mem_cons.mp hf with rfl | hf
              · exact ⟨a1, o1, rfl, kk _ _ k1, k2⟩
              · exact f3 f hf
    obtain ⟨fs, f1, f2, f3⟩ := firsts its fun _ h => h
    refine ⟨tuples' (Value.type "tuple" != Value.type "tuple"), fun Q' E' q' => ?_, ?_⟩
    · refine PySem.W.kat_kind (T := .type "tuple") f1 (by omega) (fun f hf => ?_) (by decide +kernel) q'
      obtain ⟨a1, o1, rfl, k1, k2⟩ := f3 f hf
      exact (PySem.W.Looks.ld k1).andThen (by rw [k2]; exact .now)
    · intro p q' hp hq
      obtain ⟨d, hdm, as, ra⟩ := rd _ hp
      obtain ⟨e, hem, bs, rb⟩ := rd _ hq
      have ra' := Reads.keeps kk ra
      have rb' := Reads.keeps kk rb
      have c := ho.cmp d hdm e hem
      obtain ⟨z1, r1, rfl⟩ := ho.hd d hdm
      obtain ⟨z2, r2, rfl⟩ := ho.hd e hem
      generalize p.1 = pv at ra'
      generalize q'.1 = qv at rb'
      cases ra' with
      | @tuple a0 o vs0 n _ _ g1 g2 g3 g4 =>
        cases rb' with
        | @tuple b0 o' ws0 n' _ _ k1 k2 k3 k4 =>
          cases c with
          | tup c =>
            obtain ⟨k, hk⟩ := lex_of (s := { s with heap := h' }) (A := X.A.in1.in1) (vs := vs0) (ws := ws0) (i := 0) c g4 k4 (by show X.A.units + 1 + 1 + 3 + 52 < cLine; omega)
            exact ⟨k, PySem.W.kat_lt g1 g3 k1 k3 (kat_of hk)⟩
  · obtain ⟨zs', hzp, rfl⟩ := perm_lift (fun z : V × PyData × Value => z.2.2) hp zs e3
    obtain ⟨ep, he'⟩ := PyProof.Rows.sortedAll_at s.heap its (zs'.map (·.2.2)).toArray
    have hz' : ∀ z ∈ zs', Dq X.K (Off B H) z.1 z.2.1 ∧ RelV z.1 z.2.2 := fun z hz => hzs z (hzp.mem_iff.mp hz)
    obtain ⟨dq, vl⟩ := side_dq hz'
    have hl2 : (zs'.map (·.1)).length ≤ sizeLine := by
      rw [List.length_map, hzp.length_eq]
      rw [e3, List.length_map] at hlen
      exact hlen
    refine ⟨.ref _, upd H (s.heap.objs.size + 1) (.lst (zs'.map (·.1))), I.laid (t' := s.toks) (fun _ _ => PyProof.Rows.sortedAll_old) (Nat.le_succ _) ⟨hl2, zs'.map (·.2.2), ep, vl, he'⟩, rfl, q _ _ _ ?_ dq (I.hok.fresh (Nat.le_succ _))⟩
    rw [e2]
    exact hzp.map _
variable {e : Expr} {pos : Pos} {W : WE}
def lSort (W : WE) : WL := fun ρ g R => W ρ g fun d g1 => ∃ xs, d = .list xs ∧ Ord xs ∧ ∀ ys, ys.Perm xs → R ys g1
theorem vl_sorted {p : Pos} (hu : X.A.units + 64 < cLine) (hg : Gl X "sorted") (hm : X.mg "sorted" = none) (he : VE X e W) (hv : bootBuiltins "sorted" = some (.builtin "sorted") := by decide +kernel) (hs : starEach [e] X.env = (false, eval e X.env) :: starEach [] X.env := by rfl) :
    VL X (.Call (.Name "sorted" p) [e] [] pos) (lSort W) :=
  pe_weak (pe_callB (call_sortT hu) hg hm hv (pa_cons he pa_nil hs) (by decide) (by decide) hs rfl) fun σ H Q ⟨a, H0, O0, O, ρ, g, R, r, w, q⟩ => ⟨a, H0, O0, O, ρ, g, _, r, w, fun d g1 v H1 k1 r1 d1 w1 => by
    obtain ⟨xs, rfl, ho, w1⟩ := w1
    cases d1 with
    | @lst l vs _ h1 h2 =>
      refine ⟨l, vs, xs, a :: O, rfl, SqL.of (off_out _ _ h1), h2, ho, fun ys es p hp hd hn => ?_⟩
      have h0 : H p = none := by
        cases e : H p with
        | none => rfl
        | some o =>
          by_cases z : p = a
          · exact absurd hn (r1.liveA p (by rw [z]; exact List.mem_cons_self))
          · rw [k1 p o z e] at hn
            cases hn
      exact q es g1 p ys _ (k1.trans (Kp.of (sub_upd hn))) (r1.hide hn) h0 upd_same (hd.to (off_new hn)) (w1 es hp)
    | _ => exact nomatch ho⟩
end
end Vl
/-! V13: comprehensions with two sources. -/
namespace Vl
open PySem PySem.Spec PyProof.Rows L2
def isOwn : Sl → Bool
  | .own _ => true
  | _ => false
/-- [E for .. in .. if T for .. in WI1 if T1]: T, WI1 are told behind the outer target; no slot has a list of its own meanwhile -/
def lcV2 (G : WG) (T : WT) (WI1 : WL) (G1 : WG) (T1 : WT) (E : WE) (vs1 : List Nat) : List PyData → Rho → List PyData → Nat → (List PyData → Nat → Prop) → Prop
  | [], _, acc, g, R => R acc g
  | d :: ds, ρ, acc, g, R => G d ρ fun ρ' => (wipeV ρ' vs1).any isOwn = false ∧ T ρ' g fun b g1 => if b = true then WI1 ρ' g1 fun es g2 => acc.length + es.length ≤ sizeLine ∧ lcV G1 T1 E es (wipeV ρ' vs1) acc g2 fun acc' g3 => lcV2 G T WI1 G1 T1 E vs1 ds ρ acc' g3 R
    else lcV2 G T WI1 G1 T1 E vs1 ds ρ acc g1 R
def lLc2 (WI : WL) (G : WG) (T : WT) (WI1 : WL) (G1 : WG) (T1 : WT) (E : WE) (vs vs1 : List Nat) : WL := fun ρ g R => WI ρ g fun ds g1 => lcV2 G T WI1 G1 T1 E vs1 ds (wipeV ρ vs) [] g1 R
theorem tL_lc2 {K : PySem.W.Frag} {WI WI1 : WL} {js js1 : List Nat} {G G1 : WG} {T T1 : WT} {E : WE} {vs vs1 : List Nat} (hj : ∀ j ∈ js, j ∈ vs) (hj1 : ∀ j ∈ js1, j ∈ vs1) : ∀ σ H Q, tL K (lLc2 WI G T WI1 G1 T1 E vs vs1) σ H Q →
    tLc2 (tI K WI) (tG K js G) (tT K T) (tI K WI1) (tG K js1 G1) (tT K T1) (tE K E) vs vs1 σ H Q :=
  fun σ H Q ⟨a, H0, O0, O, ρ, g, R, r, w, q⟩ => ⟨a, H0, O0, O, ρ, g, _, r, w, fun ds g1 J H1 k1 r1 fd w1 D hD => by
    have hD0 : H D = none := by
      cases e : H D with
      | none => rfl
      | some o =>
        by_cases z : D = a
        · exact absurd hD (r1.liveA D (by rw [z]; exact List.mem_cons_self))
        · rw [k1 D o z e] at hD
          cases hD
    have nDa : D ≠ a := fun z => r1.pen.live (z ▸ hD)
    have hno : ∀ (j : Nat) (es : List PyData), (wipeV ρ vs)[j]? = some (Sl.own es) → (L2.wipe σ vs)[j]? ≠ some (some (.ref D)) := fun j es h e => by
      obtain ⟨q', xs, e', hq, _⟩ := (r1.wipe vs).slot j _ h
      rw [e] at e'
      cases e'
      exact r1.live D hq hD
    have st : ∀ {H4 : Hp} {o : HO}, Kp a H1 H4 → Kp a H1 (upd H4 D o) := fun {H4 o} k b u n e => by
      rw [upd_ne (ne_of_none e hD)]
      exact k b u n e
    refine ⟨fun i m H' => ∃ g' acc xs, m = ds.length - i ∧ i ≤ ds.length ∧ Kp a H1 H' ∧ Rl K a H0 O0 (D :: O) (wipeV ρ vs) g' (L2.wipe σ vs) H' ∧ H' D = some (.lst xs) ∧ DqAll K (Off (a :: D :: O) H') xs acc ∧ lcV2 G T WI1 G1 T1 E vs1 (ds.drop i) (wipeV ρ vs) acc g' R,
      ⟨ds.length, g1, [], [], rfl, Nat.zero_le _, Kp.of (sub_upd hD), (r1.wipe vs).hide hD, upd_same, .nil, w1⟩, ?_⟩
    rintro i m H2 ⟨g2, acc, xs, rfl, hi, k2, r2, hx, hd, w2⟩
    have sb : Sub (Off (a :: O) H1) (Off (a :: D :: O) H2) := fun b o e => by
      obtain ⟨n, e⟩ := off_some.mp e
      have na : b ≠ a := fun z => n (by rw [z]; exact List.mem_cons_self)
      refine off_in (fun z => ?_) (k2 b o na e)
      rcases List.mem_cons.mp z with z | z
      · exact na z
      · rcases List.mem_cons.mp z with z | z
        · rw [z, hD] at e
          cases e
        · exact n (List.mem_cons_of_mem _ z)
    obtain ⟨f1, f2⟩ := fd i (D :: O) H2 sb r2.liveA
    by_cases hlt : i < ds.length
    · have e0 : ds.drop i = ds[i] :: ds.drop (i + 1) := List.drop_eq_getElem_cons hlt
      rw [e0] at w2
      obtain ⟨go, f3⟩ := f1 ds[i] (List.getElem?_eq_getElem hlt)
      -- what the next turn wants
      refine .inr ⟨go, fun H' => ∃ g' acc xs, Kp a H1 H' ∧ Rl K a H0 O0 (D :: O) (wipeV ρ vs) g' (L2.wipe σ vs) H' ∧ H' D = some (.lst xs) ∧ DqAll K (Off (a :: D :: O) H') xs acc ∧ lcV2 G T WI1 G1 T1 E vs1 (ds.drop (i + 1)) (wipeV ρ vs) acc g' R,
        fun H' ⟨g', acc, xs, z⟩ => ⟨ds.length - (i + 1), by omega, g', acc, xs, rfl, hlt, z⟩, fun x H3 hy => ?_⟩
      obtain ⟨s3, dx⟩ := f3 x H3 hy
      refine ⟨a, H0, O0, D :: O, wipeV ρ vs, g2, ds[i], _, r2.ext s3, dx, w2, fun ρ' σ' hw r' w' => ⟨(hw vs hj).trans (wipe_wipe fun _ h => h), ?_⟩⟩
      obtain ⟨hown, w'⟩ := w'
      have noD : ∀ (σ3 : L2.St) (j : Nat) (es : List PyData), (wipeV ρ' vs1)[j]? = some (Sl.own es) → σ3[j]? ≠ some (some (.ref D)) := fun σ3 j es h => by
        have := List.any_eq_false.mp hown _ (List.mem_of_getElem? h)
        exact absurd rfl this
      refine ⟨a, H0, O0, D :: O, ρ', g2, _, r', w', fun b g3 H4 k4 r4 w4 => ?_⟩
      -- the outer relation, over a heap that is kept from H3 on but at D
      have back : ∀ {H5 : Hp} {g5 : Nat} {zs : List V}, (∀ b o, b ≠ a → b ≠ D → H3 b = some o → H5 b = some o) → Pen K a (D :: O) g5 H5 → H5 D = some (.lst zs) → Rl K a H0 O0 (D :: O) (wipeV ρ vs) g5 (L2.wipe σ vs) H5 := fun {H5 g5 zs} k p hz => by
        have base := (r2.ext s3).poke (o := .lst zs) List.mem_cons_self (r1.freshH hD) hno
        refine base.step (fun b o n e => ?_) p
        by_cases hb : b = D
        · subst hb
          rw [upd_same] at e
          rw [hz, ← e]
        · rw [upd_ne hb] at e
          exact k b o n hb e
      have hx3 : H3 D = some (.lst xs) := s3 _ _ hx
      cases b with
      | false =>
        rw [if_neg Bool.false_ne_true] at w4
        refine iteF ?_
        exact ⟨g3, acc, xs, (k2.trans (Kp.of s3)).trans k4, back (fun b o n _ e => k4 b o n e) r4.pen (k4 D _ nDa hx3), k4 D _ nDa hx3, (hd.to (off_mono s3)).to (off_kp k4), w4⟩
      | true =>
        rw [if_pos rfl] at w4
        refine iteT ?_
        refine ⟨a, H0, O0, D :: O, ρ', g3, _, r4, w4, fun es g4 J1 H5 k5 r5 fd5 w5 => ?_⟩
        obtain ⟨hz, w5⟩ := w5
        have k35 : Kp a H3 H5 := k4.trans k5
        have hx5 : H5 D = some (.lst xs) := k35 D _ nDa hx3
        have hd5 : DqAll K (Off (a :: D :: O) H5) xs acc := (hd.to (off_mono s3)).to (off_kp k35)
        refine ⟨fun j k H' => ∃ g' ac ys, k = es.length - j ∧ j ≤ es.length ∧ (∀ b o, b ≠ a → b ≠ D → H5 b = some o → H' b = some o) ∧ Rl K a H0 O0 (D :: O) (wipeV ρ' vs1) g' (L2.wipe σ' vs1) H' ∧ H' D = some (.lst ys) ∧ DqAll K (Off (a :: D :: O) H') ys ac ∧ ac.length ≤ acc.length + j ∧
            lcV G1 T1 E (es.drop j) (wipeV ρ' vs1) ac g' fun acc' g3 => lcV2 G T WI1 G1 T1 E vs1 (ds.drop (i + 1)) (wipeV ρ vs) acc' g3 R,
          ⟨es.length, g4, acc, xs, rfl, Nat.zero_le _, fun b o _ _ e => e, r5.wipe vs1, hx5, hd5, Nat.le_refl _, w5⟩, ?_⟩
        rintro j k H6 ⟨g5, ac, ys, rfl, hj', k6, r6, hy6, hd6, hl6, w6⟩
        have sb6 : Sub (Off (a :: D :: O) H5) (Off (a :: D :: O) H6) := fun b o e => by
          obtain ⟨n, e⟩ := off_some.mp e
          exact off_in n (k6 b o (fun z => n (by rw [z]; exact List.mem_cons_self)) (fun z => n (by rw [z]; exact List.mem_cons_of_mem _ List.mem_cons_self)) e)
        obtain ⟨h1, h2⟩ := fd5 j (D :: O) H6 sb6 r6.liveA
        by_cases hlt1 : j < es.length
        · have e1 : es.drop j = es[j] :: es.drop (j + 1) := List.drop_eq_getElem_cons hlt1
          rw [e1] at w6
          obtain ⟨go1, h3⟩ := h1 es[j] (List.getElem?_eq_getElem hlt1)
          refine .inr ⟨go1, fun H' => ∃ g' ac ys, (∀ b o, b ≠ a → b ≠ D → H5 b = some o → H' b = some o) ∧ Rl K a H0 O0 (D :: O) (wipeV ρ' vs1) g' (L2.wipe σ' vs1) H' ∧ H' D = some (.lst ys) ∧ DqAll K (Off (a :: D :: O) H') ys ac ∧ ac.length ≤ acc.length + (j + 1) ∧
              lcV G1 T1 E (es.drop (j + 1)) (wipeV ρ' vs1) ac g' fun acc' g3 => lcV2 G T WI1 G1 T1 E vs1 (ds.drop (i + 1)) (wipeV ρ vs) acc' g3 R,
            fun H' ⟨g', ac, ys, z⟩ => ⟨es.length - (j + 1), by omega, g', ac, ys, rfl, hlt1, z⟩, fun x1 H7 hy1 => ?_⟩
          obtain ⟨s7, dx1⟩ := h3 x1 H7 hy1
          refine ⟨a, H0, O0, D :: O, wipeV ρ' vs1, g5, es[j], _, r6.ext s7, dx1, w6, fun ρ3 σ3 hw3 r3 w3 => ⟨(hw3 vs1 hj1).trans (wipe_wipe fun _ h => h), ?_⟩⟩
          refine ⟨a, H0, O0, D :: O, ρ3, g5, _, r3, w3, fun b g6 H8 k8 r8 w8 => ?_⟩
          have hy7 : H7 D = some (.lst ys) := s7 _ _ hy6
          have k58 : ∀ {H9 : Hp}, Kp a H7 H9 → ∀ b o, b ≠ a → b ≠ D → H5 b = some o → H9 b = some o := fun {H9} kk b o na nd e => kk b o na (s7 b o (k6 b o na nd e))
          cases b with
          | false =>
            rw [if_neg Bool.false_ne_true] at w8
            refine iteF ?_
            exact ⟨g6, ac, ys, k58 k8, (r6.ext s7).step k8 r8.pen, k8 D _ nDa hy7, (hd6.to (off_mono s7)).to (off_kp k8), by omega, w8⟩
          | true =>
            rw [if_pos rfl] at w8
            refine iteT ?_
            refine ⟨a, H0, O0, D :: O, ρ3, g6, _, r8, w8, fun y g7 v H9 k9 r9 d9 w9 => ?_⟩
            have k79 : Kp a H7 H9 := k8.trans k9
            have hy9 : H9 D = some (.lst ys) := k79 D _ nDa hy7
            have s9 : Sub (Off (a :: D :: O) H9) (Off (a :: D :: O) (upd H9 D (.lst (ys ++ [v])))) := off_poke (List.mem_cons_of_mem _ List.mem_cons_self)
            refine ⟨ys, hy9, by rw [hd6.len]; omega, g7, ac ++ [y], ys ++ [v], ?_, ?_, upd_same, ?_, by rw [List.length_append, List.length_singleton]; omega, w9⟩
            · intro b o na nd e
              rw [upd_ne nd]
              exact k58 k79 b o na nd e
            · exact ((r6.ext s7).step k79 r9.pen).poke List.mem_cons_self (r1.freshH hD) (noD _)
            · exact DqAll.app (((hd6.to (off_mono s7)).to (off_kp k79)).to s9) (.cons (d9.to s9) .nil)
        · have e1 : es.drop j = [] := List.drop_eq_nil_of_le (by omega)
          rw [e1] at w6
          refine .inl ⟨h2 (by omega), g5, ac, ys, ?_, ?_, hy6, hd6, w6⟩
          · intro b o na e
            have nb : b ≠ D := ne_of_none e hD
            exact k6 b o na nb (k35 b o na (s3 b o (k2 b o na e)))
          · exact back (fun b o na nd e => k6 b o na nd (k35 b o na e)) r6.pen hy6
    · have e0 : ds.drop i = [] := List.drop_eq_nil_of_le (by omega)
      rw [e0] at w2
      refine .inl ⟨f2 (by omega), ?_⟩
      exact q acc g2 D xs H2 (k1.trans k2) (r.stepH (k1.trans k2) hD0 (by rw [hx]; exact fun z => nomatch z) r2.pen) hD0 hx hd w2⟩
section
variable {X : Cx} {elt tg iter tg1 iter1 : Expr} {ifs ifs1 : List Expr} {pos : Pos}
theorem vl_lc2 {scope : Scope} {own : List (Str × Nat)} {vs1 : List Nat} {WI WI1 : WL} {js js1 : List Nat} {G G1 : WG} {T T1 : WT} {E : WE} (hc : X.calm = true) (hN : X.N.Nodup) (hi : VI X tg iter WI) (ok : BlkOk X.N X.env.scope scope own) (hv : ∀ i ∈ vs1, i ∈ own.map (·.2))
    (hg : ∀ (s : Shared) (H : Hp) (C : Addr) (cl : List (Str × Addr)) (fp : List Addr), VG (X.blk s H scope (compEnvC scope cl C X.env) fp) tg js G) (ht : ∀ (s : Shared) (H : Hp) (C : Addr) (cl : List (Str × Addr)) (fp : List Addr), VTs (X.blk s H scope (compEnvC scope cl C X.env) fp) ifs T)
    (hi1 : ∀ (s : Shared) (H : Hp) (C : Addr) (cl : List (Str × Addr)) (fp : List Addr), VI (X.blk s H scope (compEnvC scope cl C X.env) fp) tg1 iter1 WI1)
    (hg1 : ∀ (s : Shared) (H : Hp) (C : Addr) (cl : List (Str × Addr)) (fp : List Addr), VG (X.blk s H scope (compEnvC scope cl C X.env) fp) tg1 js1 G1) (ht1 : ∀ (s : Shared) (H : Hp) (C : Addr) (cl : List (Str × Addr)) (fp : List Addr), VTs (X.blk s H scope (compEnvC scope cl C X.env) fp) ifs1 T1)
    (he : ∀ (s : Shared) (H : Hp) (C : Addr) (cl : List (Str × Addr)) (fp : List Addr), VE (X.blk s H scope (compEnvC scope cl C X.env) fp) elt E) (hj : ∀ j ∈ js, j ∈ own.map (·.2) := by decide) (hj1 : ∀ j ∈ js1, j ∈ vs1 := by decide)
    (hs : ∀ x, foldedSetIterable iter X.env x = pure x := by intro _; rfl) (hs1 : ∀ env x, foldedSetIterable iter1 env x = pure x := by intro _ _; rfl) : VL X (.ListComp elt [⟨tg, iter, ifs, 0⟩, ⟨tg1, iter1, ifs1, 0⟩] scope pos) (lLc2 WI G T WI1 G1 T1 E (own.map (·.2)) vs1) :=
  pe_weak (pe_lc2 hc hN hi ok hv hg ht hi1 hg1 ht1 he hs hs1) (tL_lc2 hj hj1)
end
end Vl
/-! V14: truths among numbers: + - * with a truth at the left, 0 <= x < 2 with a truth in the middle. -/
namespace Vl
open PySem PySem.Spec PyProof.Rows L2
def ofB (b : Bool) : Int := if b = true then 1 else 0
theorem gives_lt_bi (a : Bool) (b : Int) (u : Tok) : Gives (Builtin.«int.__lt__» ⟨[.bool a, .int b u], []⟩) (.val (Value.bool (decide (ofB a < b)))) :=
  .of_wp fun M A E s Q h => by
    obtain ⟨hp, g, d, tk, os⟩ := s
    wp_walk
    exact ⟨_, rfl, h⟩
theorem gives_ge_bi (a : Bool) (b : Int) (u : Tok) : Gives (Builtin.«int.__ge__» ⟨[.bool a, .int b u], []⟩) (.val (Value.bool (decide (ofB a ≥ b)))) :=
  .of_wp fun M A E s Q h => by
    obtain ⟨hp, g, d, tk, os⟩ := s
    wp_walk
    exact ⟨_, rfl, h⟩
section
variable {prog : Program} {w : World} {A : Around} {E : Value → Shared → Prop} {s : Shared} {Q : Value → Shared → Prop}
theorem lt_bi {a : Bool} {b : Int} {u : Tok} (h : Q (.bool (decide (ofB a < b))) s) : wpAny (model prog w) A (compareOp .Lt (.bool a) (.int b u)) Q E s :=
  SeqAt.rc_left_or (op := .Lt) rfl (typeIs_int s b u) (by decide) F.sub_int_bool F.slot_bool_lt (call_gives F.slot_bool_lt rfl F.entry_int_lt (F.args_int_lt_2 _ _) (gives_lt_bi a b u) ⟨nofun, h⟩) (.inl rfl)
theorem le_ib {a : Int} {t : Tok} {b : Bool} (h : Q (.bool (decide (a ≤ ofB b))) s) : wpAny (model prog w) A (compareOp .LtE (.int a t) (.bool b)) Q E s :=
  SeqAt.rc_sub_first_or (op := .LtE) (typeIs_int s a t) rfl (by decide) F.sub_bool_int F.slot_bool_ge (call_gives F.slot_bool_ge rfl F.entry_int_ge (F.args_int_ge_2 _ _) (gives_ge_bi b a t) ⟨nofun, h⟩) (.inl rfl)
end
section
variable {X : Cx}
theorem op_ltB : OpR X (compareOp .Lt) (fun x y H Q => ∃ b j, x = .bl b ∧ y = .int j ∧ Q (.bl (decide (ofB b < j))) H) := by
  intro pins s σ H x y v u Q I rx ry h
  obtain ⟨b, j, rfl, rfl, q⟩ := h
  cases rx
  obtain ⟨t, rfl⟩ := ry
  exact lt_bi ⟨.bl _, H, I, rfl, q⟩
theorem op_leB : OpR X (compareOp .LtE) (fun x y H Q => ∃ i b, x = .int i ∧ y = .bl b ∧ Q (.bl (decide (i ≤ ofB b))) H) := by
  intro pins s σ H x y v u Q I rx ry h
  obtain ⟨i, b, rfl, rfl, q⟩ := h
  cases ry
  obtain ⟨t, rfl⟩ := rx
  exact le_ib ⟨.bl _, H, I, rfl, q⟩
theorem op_addB : OpR X (binaryOp .Add) (fun x y H Q => ∃ b j, x = .bl b ∧ y = .int j ∧ Q (.int (ofB b + j)) H) := by
  intro pins s σ H x y v u Q I rx ry h
  obtain ⟨b, j, rfl, rfl, q⟩ := h
  cases rx
  obtain ⟨t, rfl⟩ := ry
  exact IntBool.add_bool_int ⟨.int _, H, I.tok _, ⟨_, rfl⟩, q⟩
theorem op_subB : OpR X (binaryOp .Sub) (fun x y H Q => ∃ b j, x = .bl b ∧ y = .int j ∧ Q (.int (ofB b - j)) H) := by
  intro pins s σ H x y v u Q I rx ry h
  obtain ⟨b, j, rfl, rfl, q⟩ := h
  cases rx
  obtain ⟨t, rfl⟩ := ry
  exact IntBool.sub_bool_int ⟨.int _, H, I.tok _, ⟨_, rfl⟩, q⟩
theorem op_mulB : OpR X (binaryOp .Mult) (fun x y H Q => ∃ b j, x = .bl b ∧ y = .int j ∧ Q (.int (ofB b * j)) H) := by
  intro pins s σ H x y v u Q I rx ry h
  obtain ⟨b, j, rfl, rfl, q⟩ := h
  cases rx
  obtain ⟨t, rfl⟩ := ry
  exact IntBool.mul_bool_int ⟨.int _, H, I.tok _, ⟨_, rfl⟩, q⟩
end
def fBI (g : Int → Int → PyData) (f : F2) : F2 := fun x y R => match x, y with
  | .bool b, .int j => R (g (ofB b) j)
  | _, _ => f x y R
def fIB (g : Int → Int → PyData) (f : F2) : F2 := fun x y R => match x, y with
  | .int i, .bool b => R (g i (ofB b))
  | _, _ => f x y R
theorem opS_BI {K : PySem.W.Frag} {r : R2} {f : F2} {g : Int → Int → PyData} {gv : Int → Int → V} (hg : ∀ H i j, Dq K H (gv i j) (g i j)) (h : OpS K r f) : OpS K (fun x y H Q => (∃ b j, x = .bl b ∧ y = .int j ∧ Q (gv (ofB b) j) H) ∨ r x y H Q) (fBI g f) := by
  intro A H x y dx dy R Q hA hx hy w q
  by_cases z : ∃ b j, dx = .bool b ∧ dy = .int j
  · obtain ⟨b, j, rfl, rfl⟩ := z
    cases hx
    cases hy
    exact .inl ⟨_, _, rfl, rfl, q _ _ H (Sub.refl _) (hg _ _ _) w⟩
  · refine .inr (h A H x y dx dy R Q hA hx hy ?_ q)
    cases dx <;> try exact w
    cases dy <;> first
      | exact w
      | exact absurd ⟨_, _, rfl, rfl⟩ z
theorem opS_IB {K : PySem.W.Frag} {r : R2} {f : F2} {g : Int → Int → PyData} {gv : Int → Int → V} (hg : ∀ H i j, Dq K H (gv i j) (g i j)) (h : OpS K r f) : OpS K (fun x y H Q => (∃ i b, x = .int i ∧ y = .bl b ∧ Q (gv i (ofB b)) H) ∨ r x y H Q) (fIB g f) := by
  intro A H x y dx dy R Q hA hx hy w q
  by_cases z : ∃ i b, dx = .int i ∧ dy = .bool b
  · obtain ⟨i, b, rfl, rfl⟩ := z
    cases hx
    cases hy
    exact .inl ⟨_, _, rfl, rfl, q _ _ H (Sub.refl _) (hg _ _ _) w⟩
  · refine .inr (h A H x y dx dy R Q hA hx hy ?_ q)
    cases dx <;> try exact w
    cases dy <;> first
      | exact w
      | exact absurd ⟨_, _, rfl, rfl⟩ z
abbrev fAddN : F2 := fBI (fun i j => .int (i + j)) fAdd
abbrev fSubN : F2 := fBI (fun i j => .int (i - j)) fSub
abbrev fMulN : F2 := fBI (fun i j => .int (i * j)) fMulI
abbrev fLeN : F2 := fIB (fun i j => .bool (decide (i ≤ j))) fLe
abbrev fLtN : F2 := fBI (fun i j => .bool (decide (i < j))) fLtI
section
variable {X : Cx} {a b c : Expr} {pos : Pos} {Wa Wb Wc : WE}
theorem v_addN (ha : VE X a Wa) (hb : VE X b Wb) : VE X (.BinOp a .Add b pos) (wOp fAddN Wa Wb) := v_bin (op_addB.or op_addA) (opS_BI (gv := fun i j => .int (i + j)) (fun _ _ _ => .int _) opS_add) ha hb
theorem v_subN (ha : VE X a Wa) (hb : VE X b Wb) : VE X (.BinOp a .Sub b pos) (wOp fSubN Wa Wb) := v_bin (op_subB.or op_sub) (opS_BI (gv := fun i j => .int (i - j)) (fun _ _ _ => .int _) opS_I0) ha hb
theorem v_mulN (ha : VE X a Wa) (hb : VE X b Wb) : VE X (.BinOp a .Mult b pos) (wOp fMulN Wa Wb) := v_bin (op_mulB.or op_mul) (opS_BI (gv := fun i j => .int (i * j)) (fun _ _ _ => .int _) opS_I) ha hb
theorem t_leltN (ha : VE X a Wa) (hb : VE X b Wb) (hc : VE X c Wc) (hm : lastMarks [.LtE, .Lt] [b, c] = false := by with_unfolding_all rfl) : VT X (.Compare a [.LtE, .Lt] [b, c] pos) (wB (wChain fLeN fLtN Wa Wb Wc)) :=
  t_chain (op_leB.or op_le) (opS_IB (gv := fun i j => .bl (decide (i ≤ j))) (fun _ _ _ => .bl _) opS_B0) (op_ltB.or op_lt) (opS_BI (gv := fun i j => .bl (decide (i < j))) (fun _ _ _ => .bl _) opS_B0) ha hb hc hm
end
end Vl
/-! V15: < of tuples of ints. -/
namespace Vl
open PySem PySem.Spec PyProof.Rows L2
theorem dq_ints {K : PySem.W.Frag} {H : Hp} : ∀ {xs : List V} {ns : List Int}, DqAll K H xs (ns.map .int) → xs = ns.map V.int
  | _, [], h => by
    cases h
    rfl
  | _, n :: ns, h => by
    cases h with
    | cons h t =>
      cases h
      rw [dq_ints t]
      rfl
def fLtT : F2 := fun x y R => ∃ ns ms : List Int, x = .tuple (ns.map .int) ∧ y = .tuple (ms.map .int) ∧ R (.bool (HT.lexLt ns ms))
theorem opS_ltT {K : PySem.W.Frag} : OpS K (rLtT K) fLtT := fun A H x y dx dy R Q hA hx hy ⟨ns, ms, ex, ey, w⟩ q => by
  subst ex ey
  cases hx with
  | tup h1 h2 =>
    cases hy with
    | tup k1 k2 =>
      rw [dq_ints h2] at h1
      rw [dq_ints k2] at k1
      exact ⟨_, _, ns, ms, rfl, rfl, sqt_mono off_out h1, sqt_mono off_out k1, q _ _ H (Sub.refl _) (.bl _) w⟩
section
variable {X : Cx} {a b : Expr} {pos : Pos} {Wa Wb : WE}
theorem v_ltT (hu : X.A.units + 64 < cLine) (ha : VE X a Wa) (hb : VE X b Wb) : VE X (.Compare a [.Lt] [b] pos) (wOp fLtT Wa Wb) := v_cmp (op_ltT (by omega)) opS_ltT ha hb (nomark _)
theorem t_ltT (hu : X.A.units + 64 < cLine) (ha : VE X a Wa) (hb : VE X b Wb) : VT X (.Compare a [.Lt] [b] pos) (wB (wOp fLtT Wa Wb)) := t_cmp (op_ltT (by omega)) opS_ltT ha hb (nomark _)
end
end Vl
/-! V16: sorted of tuples, the order told by a number for each item. -/
namespace Vl
open PySem PySem.Spec PyProof.Rows L2
mutual
/-- x < y is k -/
inductive CmpR : Nat → PyData → PyData → Bool → Prop
  | int (n : Nat) (i j : Int) : CmpR n (.int i) (.int j) (decide (i < j))
  | str (n : Nat) (x y : Str) : CmpR n (.str x) (.str y) (decide (x.cps.toList < y.cps.toList))
  | tup {n : Nat} {xs ys : List PyData} {k : Bool} : CmpS n xs ys k → CmpR (n + 1) (.tuple xs) (.tuple ys) k
inductive CmpS : Nat → List PyData → List PyData → Bool → Prop
  | nilL (n : Nat) (ys : List PyData) : CmpS n [] ys (!ys.isEmpty)
  | nilR (n : Nat) (x : PyData) (xs : List PyData) : CmpS n (x :: xs) [] false
  | same {n : Nat} {x y : PyData} {xs ys : List PyData} {k : Bool} : x.plain = true → y.plain = true → min x.depth y.depth ≤ 50 → PyData.eqv x y = true → CmpS n xs ys k → CmpS n (x :: xs) (y :: ys) k
  | diff {n : Nat} {x y : PyData} {xs ys : List PyData} {k : Bool} : x.plain = true → y.plain = true → min x.depth y.depth ≤ 50 → PyData.eqv x y = false → CmpR n x y k → CmpS n (x :: xs) (y :: ys) k
end
mutual
theorem rcR_of {s : Shared} : ∀ {n : Nat} {d e : PyData} {k : Bool} {A : Around} {v u : Value} {as bs : List Addr}, CmpR n d e k → Reads s.heap v d as → Reads s.heap u e bs → A.units + n + 52 < cLine → SeqAt.RcLt A s v u k
  | _, _, _, _, A, _, _, _, _, .int n i j, r1, r2, hu => by
    cases r1
    cases r2
    exact fun prog w E Q q => PyProof.Rows.lt_int q
  | _, _, _, _, A, _, _, _, _, .str n x y, r1, r2, hu => by
    cases r1
    cases r2
    exact fun prog w E Q q => PyProof.Rows.lt_str q
  | _, _, _, _, A, _, _, _, _, .tup c, r1, r2, hu => by
    cases r1 with
    | @tuple l o vs m _ _ h1 h2 h3 h4 =>
      cases r2 with
      | @tuple l' o' vs' m' _ _ k1 k2 k3 k4 =>
        exact lex_lt ⟨_, h1, h2, _, h3⟩ ⟨_, k1, k2, _, k3⟩ (by omega) (lexR_of (A := A.in1) (vs := vs) (ws := vs') (i := 0) c h4 k4 (Nat.zero_le _) (Nat.zero_le _) (by show A.units + 1 + _ + 52 < cLine; omega))
theorem lexR_of {s : Shared} : ∀ {n : Nat} {xs ys : List PyData} {k : Bool} {A : Around} {vs ws : Array Value} {i : Nat} {as bs : List Addr}, CmpS n xs ys k → ReadsAll s.heap (vs.toList.drop i) xs as → ReadsAll s.heap (ws.toList.drop i) ys bs → i ≤ vs.size → i ≤ ws.size →
    A.units + n + 52 < cLine → LexI A s vs ws k i
  | _, _, _, _, A, vs, ws, i, _, _, .nilL n ys, r1, r2, i1, i2, hu => by
    generalize hz : vs.toList.drop i = z at r1
    generalize hy : ws.toList.drop i = y at r2
    cases r1
    have a := drop_none hz
    refine .fin (by omega) ?_
    cases r2 with
    | nil =>
      have b := drop_none hy
      exact (decide_eq_false (by omega)).symm
    | cons _ _ =>
      obtain ⟨h1, _, _⟩ := drop_head hy
      exact (decide_eq_true (by omega)).symm
  | _, _, _, _, A, vs, ws, i, _, _, .nilR n x xs, r1, r2, i1, i2, hu => by
    generalize hz : vs.toList.drop i = z at r1
    generalize hy : ws.toList.drop i = y at r2
    cases r2
    have b := drop_none hy
    cases r1 with
    | cons _ _ =>
      obtain ⟨h1, _, _⟩ := drop_head hz
      exact .fin (by omega) (decide_eq_false (by omega)).symm
  | _, _, _, _, A, vs, ws, i, _, _, .same p1 p2 p3 p4 c, r1, r2, i1, i2, hu => by
    generalize hz : vs.toList.drop i = z at r1
    generalize hy : ws.toList.drop i = y at r2
    cases r1 with
    | cons a1 a2 =>
      cases r2 with
      | cons b1 b2 =>
        obtain ⟨h1, rfl, e1⟩ := drop_head hz
        obtain ⟨h2, rfl, e2⟩ := drop_head hy
        have q := SeqAt.eqAt_plain _ _ A s _ _ _ _ a1 b1 p1 p2 (by omega)
        rw [p4] at q
        rw [← e1] at a2
        rw [← e2] at b2
        exact .yes h1 h2 q (lexR_of c a2 b2 h1 h2 hu)
  | _, _, _, _, A, vs, ws, i, _, _, .diff p1 p2 p3 p4 c, r1, r2, i1, i2, hu => by
    generalize hz : vs.toList.drop i = z at r1
    generalize hy : ws.toList.drop i = y at r2
    cases r1 with
    | cons a1 a2 =>
      cases r2 with
      | cons b1 b2 =>
        obtain ⟨h1, rfl, e1⟩ := drop_head hz
        obtain ⟨h2, rfl, e2⟩ := drop_head hy
        have q := SeqAt.eqAt_plain _ _ A s _ _ _ _ a1 b1 p1 p2 (by omega)
        rw [p4] at q
        exact .no h1 h2 q (rcR_of c a1 b1 hu)
end
/-- what is asked of the items: code tells their order -/
structure OrdC (code : PyData → Int) (ds : List PyData) : Prop where
  nx : ∀ d ∈ ds, noX d = true
  hd : ∀ d ∈ ds, ∃ z r, d = .tuple (.tuple z :: r)
  cmp : ∀ d ∈ ds, ∀ e ∈ ds, CmpR 4 d e (decide (code d < code e))
open Classical in
/-- the number of a value, by what it reads as in h -/
noncomputable def codeAt (code : PyData → Int) (h : Heap) (v : Value) : Int := if q : ∃ d as, Reads h v d as then code q.choose else 0
theorem codeAt_eq {code : PyData → Int} {h : Heap} {v : Value} {d : PyData} {as : List Addr} (r : Reads h v d as) : codeAt code h v = code d := by
  have q : ∃ d as, Reads h v d as := ⟨d, as, r⟩
  unfold codeAt
  rw [dif_pos q]
  obtain ⟨bs, r2⟩ := q.choose_spec
  rw [(r2.unique _ _ r).1]
noncomputable def ltC (code : PyData → Int) (h : Heap) (v u : Value) : Bool := decide (codeAt code h v < codeAt code h u)
theorem ltC_swo {code : PyData → Int} {h : Heap} : SrtO.Swo (ltC code h) where
  asym := fun x y q => by
    have := of_decide_eq_true q
    exact decide_eq_false (by omega)
  tr := fun x y z p q => by
    have a := of_decide_eq_false p
    have b := of_decide_eq_false q
    exact decide_eq_false (by omega)
def rSortC (K : PySem.W.Frag) (code : PyData → Int) : List V → Hp → VK → Prop := fun vs H Q => ∃ (a : Addr) (xs : List V) (ds : List PyData) (B : List Addr), vs = [V.ref a] ∧ SqL K H a xs ∧ DqAll K (Off B H) xs ds ∧ OrdC code ds ∧
  ∀ (ys : List V) (es : List PyData) (p : Addr), es.Perm ds → es.Pairwise (fun d e => code d ≤ code e) → DqAll K (Off B H) ys es → H p = none → Q (.ref p) (upd H p (.lst ys))
section
variable {X : Cx}
theorem call_sortC {code : PyData → Int} (hu : X.A.units + 64 < cLine) : CallR X (.builtin "sorted") (rSortC X.K code) := by
  intro pins s σ H vs us Q I r h
  obtain ⟨a, xs, ds, B, rfl, hs, hd, ho, q⟩ := h
  obtain ⟨its, rv, hl, hz⟩ := I.list hs
  rw [Vals.ref1 r]
  obtain ⟨zs, e1, e2, e3, hzs⟩ := side hd rv
  have hlen : its.length ≤ sizeLine := by rw [← rv.length]; exact hz
  have rdz : ∀ z ∈ zs, ∃ as, Reads s.heap z.2.2 z.2.1 as := fun z hzm =>
    Dq.reads I z.2.1 z.1 z.2.2 (ho.nx _ (by rw [e2]; exact List.mem_map.mpr ⟨z, hzm, rfl⟩)) ((hzs z hzm).1.to off_out) (hzs z hzm).2
  have rd : ∀ v ∈ its, ∃ d ∈ ds, ∃ as, Reads s.heap v d as := fun v hv => by
    rw [e3] at hv
    obtain ⟨z, hzm, rfl⟩ := List.mem_map.mp hv
    obtain ⟨as, ra⟩ := rdz z hzm
    exact ⟨_, by rw [e2]; exact List.mem_map.mpr ⟨z, hzm, rfl⟩, as, ra⟩
  refine SrtO.sorted_ord (ltv := ltC code s.heap) ltC_swo hl.isList hlen (fun h2 h1 b hb keep => ?_) (fun out hsrt hstb => ?_)
  · intro h' keep2
    have kk : ∀ b o, s.heap.get? b = some o → h'.get? b = some o := fun b o e => keep2 b o (keep b o e).1 (keep b o e).2
    have firsts : ∀ l : List Value, (∀ v ∈ l, v ∈ its) → ∃ fs, PySem.W.KatTups h' l fs ∧ fs.length = l.length ∧ ∀ f ∈ fs, ∃ (a : Addr) (o : Obj), f = .ref a ∧ h'.get? a = some o ∧ o.cls = .type "tuple" := by
      intro l
      induction l with
      | nil => exact fun _ => ⟨[], PySem.W.KatTups.nil, rfl, fun _ h => (nomatch h)⟩
      | cons v l ih =>
        intro hm
        obtain ⟨fs, f1, f2, f3⟩ := ih fun x hx => hm x (List.mem_cons_of_mem _ hx)
        obtain ⟨d, hdm, as, ra⟩ := rd v (hm v List.mem_cons_self)
        obtain ⟨z, rr, rfl⟩ := ho.hd d hdm
        cases ra with
        | @tuple a0 o vs0 n _ _ g1 g2 g3 g4 =>
          generalize hw : vs0.toList = w0 at g4
          cases g4 with
          | @cons f0 _ _ _ _ _ c1 c2 =>
            cases c1 with
            | @tuple a1 o1 vs1 n1 _ _ k1 k2 k3 k4 =>
              refine ⟨.ref a1 :: fs, PySem.W.KatTups.cons (kk _ _ g1) g2 g3 (by rw [← Array.getElem?_toList, hw]; rfl) f1, by rw [List.length_cons, List.length_cons, f2], fun f hf => ?_⟩
              rcases List.mem_cons.mp hf with rfl | hf
              · exact ⟨a1, o1, rfl, kk _ _ k1, k2⟩
              · exact f3 f hf
    obtain ⟨fs, f1, f2, f3⟩ := firsts its fun _ h => h
    refine ⟨tuples' (Value.type "tuple" != Value.type "tuple"), fun Q' E' q' => ?_, ?_⟩
    · refine PySem.W.kat_kind (T := .type "tuple") f1 (by omega) (fun f hf => ?_) (by decide +kernel) q'
      obtain ⟨a1, o1, rfl, k1, k2⟩ := f3 f hf
      exact (PySem.W.Looks.ld k1).andThen (by rw [k2]; exact .now)
    · intro p q' hp hq
      obtain ⟨d, hdm, as, ra⟩ := rd _ hp
      obtain ⟨e, hem, bs, rb⟩ := rd _ hq
      have ra' := Reads.keeps kk ra
      have rb' := Reads.keeps kk rb
      have c := ho.cmp d hdm e hem
      have ek : SrtO.lt2 (ltC code s.heap) p q' = decide (code d < code e) := by
        show decide (codeAt code s.heap p.1 < codeAt code s.heap q'.1) = _
        rw [codeAt_eq ra, codeAt_eq rb]
      rw [ek]
      clear ek
      obtain ⟨z1, r1, rfl⟩ := ho.hd d hdm
      obtain ⟨z2, r2, rfl⟩ := ho.hd e hem
      generalize p.1 = pv at ra'
      generalize q'.1 = qv at rb'
      cases ra' with
      | @tuple a0 o vs0 n _ _ g1 g2 g3 g4 =>
        cases rb' with
        | @tuple b0 o' ws0 n' _ _ k1 k2 k3 k4 =>
          generalize decide (code (.tuple (.tuple z1 :: r1)) < code (.tuple (.tuple z2 :: r2))) = k at c ⊢
          cases c with
          | tup c =>
            exact PySem.W.kat_lt g1 g3 k1 k3 (kat_of (lexR_of (s := { s with heap := h' }) (A := X.A.in1.in1) (vs := vs0) (ws := ws0) (i := 0) c g4 k4 (Nat.zero_le _) (Nat.zero_le _) (by show X.A.units + 1 + 1 + 3 + 52 < cLine; omega)))
  · obtain ⟨zs', hzp, rfl⟩ := Vl.perm_lift (fun z : V × PyData × Value => z.2.2) hstb.perm zs e3
    obtain ⟨ep, he'⟩ := PyProof.Rows.sortedAll_at s.heap its (zs'.map (·.2.2)).toArray
    have hz' : ∀ z ∈ zs', Dq X.K (Off B H) z.1 z.2.1 ∧ RelV z.1 z.2.2 := fun z hz => hzs z (hzp.mem_iff.mp hz)
    obtain ⟨dq, vl⟩ := side_dq hz'
    have hl2 : (zs'.map (·.1)).length ≤ sizeLine := by
      rw [List.length_map, hzp.length_eq]
      rw [e3, List.length_map] at hlen
      exact hlen
    refine ⟨.ref _, upd H (s.heap.objs.size + 1) (.lst (zs'.map (·.1))), I.laid (t' := s.toks) (fun _ _ => PyProof.Rows.sortedAll_old) (Nat.le_succ _) ⟨hl2, zs'.map (·.2.2), ep, vl, he'⟩, rfl, q _ _ _ ?_ ?_ dq (I.hok.fresh (Nat.le_succ _))⟩
    · rw [e2]
      exact hzp.map _
    · have h0 := List.pairwise_map.mp hsrt
      refine List.pairwise_map.mpr (h0.imp_of_mem fun {x y} hx hy hxy => ?_)
      obtain ⟨as, ra⟩ := rdz x (hzp.mem_iff.mp hx)
      obtain ⟨bs, rb⟩ := rdz y (hzp.mem_iff.mp hy)
      have := of_decide_eq_false hxy
      rw [codeAt_eq ra, codeAt_eq rb] at this
      show code x.2.1 ≤ code y.2.1
      omega
variable {e : Expr} {pos : Pos} {W : WE}
def lSortC (code : PyData → Int) (W : WE) : WL := fun ρ g R => W ρ g fun d g1 => ∃ xs, d = .list xs ∧ OrdC code xs ∧ ∀ ys, ys.Perm xs → ys.Pairwise (fun d e => code d ≤ code e) → R ys g1
theorem vl_sortedC {p : Pos} (code : PyData → Int) (hu : X.A.units + 64 < cLine) (hg : Gl X "sorted") (hm : X.mg "sorted" = none) (he : VE X e W) (hv : bootBuiltins "sorted" = some (.builtin "sorted") := by decide +kernel) (hs : starEach [e] X.env = (false, eval e X.env) :: starEach [] X.env := by rfl) :
    VL X (.Call (.Name "sorted" p) [e] [] pos) (lSortC code W) :=
  pe_weak (pe_callB (call_sortC (code := code) hu) hg hm hv (pa_cons he pa_nil hs) (by decide) (by decide) hs rfl) fun σ H Q ⟨a, H0, O0, O, ρ, g, R, r, w, q⟩ => ⟨a, H0, O0, O, ρ, g, _, r, w, fun d g1 v H1 k1 r1 d1 w1 => by
    obtain ⟨xs, rfl, ho, w1⟩ := w1
    cases d1 with
    | @lst l vs _ h1 h2 =>
      refine ⟨l, vs, xs, a :: O, rfl, SqL.of (off_out _ _ h1), h2, ho, fun ys es p hp hps hd hn => ?_⟩
      have h0 : H p = none := by
        cases e : H p with
        | none => rfl
        | some o =>
          by_cases z : p = a
          · exact absurd hn (r1.liveA p (by rw [z]; exact List.mem_cons_self))
          · rw [k1 p o z e] at hn
            cases hn
      exact q es g1 p ys _ (k1.trans (Kp.of (sub_upd hn))) (r1.hide hn) h0 upd_same (hd.to (off_new hn)) (w1 es hp hps)⟩
end
end Vl
/-! V17: enumerate of a tuple. -/
namespace Vl
open PySem PySem.Spec PyProof.Rows L2

theorem en_new {v : Value} {o : Obj} {F : Heap → Prop} (B : Begins v o F) :
    Meets (Builtin.«enumerate.__new__» ⟨[.type "enumerate", v], []⟩) (fun _ R s => F s.heap ∧
      R (.ok (.ret (.ref (s.heap.push o).objs.size))) { s with heap := (s.heap.push o).push { cls := .type "enumerate", data := .fields #[.none, .bool false, .ref s.heap.objs.size, rawInt 0, .none, .none] } }) :=
  .of_wp fun prog w A R s h => by
    obtain ⟨hp, g, d, tk, os⟩ := s
    obtain ⟨h1, h⟩ := h
    have hsub := sub_enumerate
    have q1 : ∀ {A' : Around} {E : Value → Shared → Prop} {Q : Value → Shared → Prop}, Q (.ref hp.objs.size) ⟨hp.push o, g, d, tk, os⟩ → wpAny (model prog w) A' (pyIter v) Q E ⟨hp, g, d, tk, os⟩ :=
      fun q => B.iter prog w _ _ ⟨hp, g, d, tk, os⟩ _ h1 q
    wp_walk using q1
    refine wpAny_stack_any fun st => wpAny_pure ?_
    split
    · rename_i c _ _ _ _ _
      cases (c == Value.type "enumerate")
      · wp_walk using q1
        exact ⟨_, rfl, h⟩
      · wp_walk using q1
        exact ⟨_, rfl, h⟩
    · wp_walk using q1
      exact ⟨_, rfl, h⟩
theorem en_call {prog : Program} {w : World} {A : Around} {E : Value → Shared → Prop} {s : Shared} {l : Addr} {items : Array Value} {Q : Value → Shared → Prop} (hL : s.heap.IsTuple l items)
    (h : ∀ h', IsEnum h' (s.heap.objs.size + 1) s.heap.objs.size 0 .none → h'.IsTupleIter s.heap.objs.size l 0 → h'.objs.size = s.heap.objs.size + 2 →
      (∀ b o, s.heap.get? b = some o → h'.get? b = some o) → Q (.ref (s.heap.objs.size + 1)) { s with heap := h' }) :
    wpAny (model prog w) A (call (.type "enumerate") [.ref l]) Q E s := by
  refine callType_new F.called_enumerate (by decide) (F.typeCall_enumerate_1 _) (F.newCall_enumerate_1 _) (fun obj => F.args_object_init_2 obj _) F.entry_enumerate_new
    (en_new (begins_tuple l items)) ⟨hL, ?_⟩
  have hz : (s.heap.push { cls := .type "tuple_iterator", data := .fields #[.ref l, .int 0 0] }).objs.size = s.heap.objs.size + 1 := Heap.size_push ..
  show _ ∧ _
  rw [hz]
  have he : IsEnum ((s.heap.push { cls := .type "tuple_iterator", data := .fields #[.ref l, .int 0 0] }).push
      { cls := .type "enumerate", data := .fields #[.none, .bool false, .ref s.heap.objs.size, rawInt 0, .none, .none] }) (s.heap.objs.size + 1) s.heap.objs.size 0 .none := by
    have := Heap.get?_push_size (s.heap.push { cls := .type "tuple_iterator", data := .fields #[.ref l, .int 0 0] })
      (o := { cls := .type "enumerate", data := .fields #[.none, .bool false, .ref s.heap.objs.size, rawInt 0, .none, .none] }) rfl
    rw [hz] at this; exact this
  refine ⟨⟨_, he, rfl⟩, h _ he ⟨_, Heap.get?_push_of_some _ (Heap.get?_push_size _ rfl), rfl, rfl⟩ (by rw [Heap.size_push, hz]) fun b o x => Heap.get?_push_of_some _ (Heap.get?_push_of_some _ x)⟩

theorem en_end {prog : Program} {w : World} {A : Around} {E : Value → Shared → Prop} {s : Shared} {e it t : Addr} {i : Nat} {j : Int} {items : Array Value} {old : Value} {Q : Option Value → Shared → Prop} (hh : A.handled = none)
    (he : IsEnum s.heap e it j old) (hit : s.heap.IsTupleIter it t i) (ht : s.heap.IsTuple t items) (hx : items[i]? = none)
    (hQ : ∀ h', Heap.ExtBut it s.heap h' → Q none { s with heap := h' }) : wpAny (model prog w) A (pyNext (.ref e)) Q E s := by
  have hT : s.TypeIs (.ref e) "enumerate" := ⟨_, he, rfl⟩
  unfold pyNext
  refine wpAny_bind (wpAny_attempt (wpAny_callSpecial?_slot (name := Str.ofString "__next__") hT F.slot_enumerate_next
    (wpAny_call_entry F.slot_enumerate_next hT F.entry_enumerate_next ?_ (F.args_enumerate_next_1 _))))
  show wpAny _ _ (field (.ref e) 2 >>= _) _ _ _
  refine wpAny_bind (wpAny_field he rfl (x := .ref it) rfl ?_)
  refine wpAny_bind (wpAny_nextOf_tuple_end (A := A.in1) hh hit ht hx fun h' x he' hx' => ?_)
  obtain ⟨o, ho, hc⟩ := hx'
  refine wpAny_bind (wpAny_isInstance (T := "StopIteration") (b := true) ⟨o, ho, hc⟩ isSubtype_stop ?_)
  exact wpAny_pure (hQ _ he')

/-- the tuple at a as it stands at each turn, each item in a new pair -/
def IteT (K : PySem.W.Frag) (a : Addr) : It :=
  ⟨fun i H => ∃ (xs : List V) (x : V), SqT K H a xs ∧ xs[i]? = some x, fun i H v H' => ∃ T x, v = .ref T ∧ H T = none ∧ H' = upd H T (.tup [.int (i : Nat), x]) ∧ ∀ xs, SqT K H a xs → xs[i]? = some x, fun i H => ∃ xs : List V, SqT K H a xs ∧ xs.length ≤ i⟩
theorem turn_enT {P : Program} {w : World} {K : PySem.W.Frag} {elts : List Expr} {kk : Nat} {tpos : Pos} (a e it : Addr) (hei : e ≠ it) (hea : e ≠ a) (hai : a ≠ it) :
    Turn P w K (.Tuple elts kk tpos) (IteT K a) [e, it] e (fun i h => (∃ old, IsEnum h e it ((i : Nat) : Int) old) ∧ h.IsTupleIter it a i) where
  mem := by simp
  obj := fun i h st b hb => by
    obtain ⟨⟨old, he⟩, ⟨o, ho, hc, hd⟩⟩ := st
    have e' : b = e ∨ b = it := by simpa using hb
    rcases e' with z | z
    · rw [z]; exact ⟨_, he, fun v q => nomatch q⟩
    · rw [z]; exact ⟨o, ho, fun v q => by rw [hd] at q; cases q⟩
  keep := fun i h h' st k => let ⟨⟨old, he⟩, hi⟩ := st; ⟨⟨old, k e (by simp) _ he⟩, hi.at fun o q => k it (by simp) o q⟩
  item := by
    intro X hP hw hK hc i pins s σ H E I hf st hg
    subst hP hw hK
    obtain ⟨⟨old, he⟩, hit⟩ := st
    obtain ⟨xs, x, hq, hx⟩ := hg
    obtain ⟨its, rv, p, hz⟩ := I.tuple hq
    obtain ⟨u, hu, ru⟩ := rv.get hx
    have hel : e < s.heap.objs.size := Heap.lt_size he
    have hil : it < s.heap.objs.size := by obtain ⟨_, q, _⟩ := hit; exact Heap.lt_size q
    have hlt : i < its.toArray.size := by
      have := (List.getElem?_eq_some_iff.mp hu).1
      simpa using this
    have hh : X.A.handled = none := I.ok.hd hc
    refine wpAny_pyNext_enum_itemD (Draws.tuple (A := X.A.in1) hh it a hai its.toArray) he ⟨hit, show s.heap.IsTuple a its.toArray from p⟩ hlt hei (by simp [hei, hea]) fun u' h' tk hP' ho hst' hT hsz hk => ?_
    obtain ⟨hit', _⟩ := hst'
    have eu : u' = u := by
      have h0 : its.toArray[i]? = some u' := hP'
      have h1 : its.toArray[i]? = some u := by simpa using hu
      rw [h0] at h1
      exact Option.some.inj h1
    subst eu
    refine ⟨_, rfl, wpAny_letOwnedTupleGo_enum (s := { s with heap := h', toks := tk + 1 }) ho fun h'' he' sb => ?_⟩
    have hT2 : h''.get? s.heap.objs.size = some { cls := .type "tuple", data := .seq #[.int i tk, u'] } := (sb.2 _ (Nat.ne_of_gt hel)).trans hT
    have new : ObjOk X.prog X.w (upd H s.heap.objs.size (.tup [.int (i : Nat), x])) h'' s.heap.objs.size (.tup [.int (i : Nat), x]) :=
      ⟨by show 2 ≤ sizeLine; decide, [.int i tk, u'], .cons ⟨_, rfl⟩ (.cons ru .nil), ⟨_, hT2, rfl, _, rfl⟩⟩
    have I1 : Inv X pins σ (upd H s.heap.objs.size (.tup [.int (i : Nat), x])) { s with heap := h'', toks := tk + 1 } :=
      I.turnedNew (ch := [e, it]) (fun b ob hb q => (sb.2 b (fun z => hb (by simp [z]))).trans (hk b ob (fun z => hb (by simp [z])) (fun z => hb (by simp [z])) q)) hf (Nat.le_refl _) new
    refine ⟨.ref s.heap.objs.size, _, I1, rfl, ⟨_, x, rfl, I.hok.fresh (Nat.le_refl _), rfl, fun ys hy => by rw [I.tuple_inj hy hq]; exact hx⟩, ⟨⟨u', ?_⟩, hit'.at fun o q => (sb.2 it (Ne.symm hei)).trans q⟩, fun b hb => ?_⟩
    · have e1 : ((i + 1 : Nat) : Int) = (i : Int) + 1 := by omega
      rw [e1]; exact he'
    · have hb' : b < s.heap.objs.size := by
        have e' : b = e ∨ b = it := by simpa using hb
        rcases e' with z | z
        · rw [z]; exact hel
        · rw [z]; exact hil
      rw [upd_ne (Nat.ne_of_lt hb')]
      exact (hf b hb).1
  done := by
    intro X hP hw hK hc i pins s σ H E I hf st hg
    subst hP hw hK
    obtain ⟨⟨old, he⟩, hit⟩ := st
    obtain ⟨xs, hq, hx⟩ := hg
    obtain ⟨its, rv, p, hz⟩ := I.tuple hq
    obtain ⟨f0, f1, f2, f3, f4, f5⟩ := hf it (by simp)
    have hl := rv.length
    have hh : X.A.handled = none := I.ok.hd hc
    exact en_end hh he hit (show s.heap.IsTuple a its.toArray from p) (by simp; omega) fun h' eb => ⟨rfl, I.turned (t' := s.toks) (fun b o hb q => eb b o hb q) f0 f1 f3 f4 f5⟩
  self := fun A i s Q E st h => let ⟨⟨_, he⟩, _⟩ := st; wpAny_pyIter_enum he h

/-- enumerate of a list or of a tuple -/
def iEnA (K : PySem.W.Frag) (ta : TA) : TI := fun σ H R => ta σ H fun vs H1 => ∃ a xs, vs = [.ref a] ∧ ((SqL K H1 a xs ∧ R (Ite K a) H1) ∨ (SqT K H1 a xs ∧ R (IteT K a) H1))
theorem pi_enA {X : Cx} {e : Expr} {ta : TA} {p pos tpos : Pos} {elts : List Expr} {kk : Nat} (hg : Gl X "enumerate") (hm : X.mg "enumerate" = none) (ha : PA X [e] ta) (hs : starEach [e] X.env = [(false, eval e X.env)] := by rfl) :
    PI X (.Tuple elts kk tpos) (.Call (.Name "enumerate" p) [e] [] pos) (iEnA X.K ta) := by
  refine ⟨fun pins s σ H R I h => ?_⟩
  refine Call_ (ld_blt I hg hm boot_enumerate (PyProof.Rows.callWith_type1 (thn (ha.run pos pins s σ H _ I h) fun us s1 ⟨vs, H1, I1, r1, q1⟩ => ?_) hs rfl))
  obtain ⟨a, xs, ex, q1⟩ := q1
  subst ex
  cases r1 with
  | cons r rr =>
    cases rr
    cases r
    have fresh2 : ∀ b, b ∈ [s1.heap.objs.size + 1, s1.heap.objs.size] → FpOk X pins H1 b := fun b hb => by
      have e' : b = s1.heap.objs.size + 1 ∨ b = s1.heap.objs.size := by simpa using hb
      have hle : s1.heap.objs.size ≤ b := by
        rcases e' with z | z
        · rw [z]; exact Nat.le_add_right _ _
        · rw [z]; exact Nat.le_refl _
      exact I1.fpOk hle (I1.hok.fresh hle)
    rcases q1 with ⟨hq, q⟩ | ⟨hq, q⟩
    · obtain ⟨its, rv, p', hz⟩ := I1.list hq
      refine call_enumerate_list p'.isList fun h' he hit hsz hk => wpAny_pyIter_enum he ?_
      have I2 : Inv X pins σ H1 { s1 with heap := h' } := I1.kept (t' := s1.toks) hk
      exact ⟨s1.heap.objs.size + 1, [s1.heap.objs.size + 1, s1.heap.objs.size], _, _, H1, rfl, I2, turn_enum a (s1.heap.objs.size + 1) s1.heap.objs.size, ⟨⟨.none, he⟩, hit, Nat.succ_ne_self _⟩, fresh2, q⟩
    · obtain ⟨its, rv, p', hz⟩ := I1.tuple hq
      obtain ⟨o1, ho1, _⟩ := id p'
      have hlt : a < s1.heap.objs.size := Heap.lt_size ho1
      refine en_call (show s1.heap.IsTuple a its.toArray from p') fun h' he hit hsz hk => wpAny_pyIter_enum he ?_
      have I2 : Inv X pins σ H1 { s1 with heap := h' } := I1.kept (t' := s1.toks) hk
      exact ⟨s1.heap.objs.size + 1, [s1.heap.objs.size + 1, s1.heap.objs.size], _, _, H1, rfl, I2, turn_enT a (s1.heap.objs.size + 1) s1.heap.objs.size (Nat.succ_ne_self _) (Nat.ne_of_gt (Nat.lt_succ_of_lt hlt)) (Nat.ne_of_lt hlt), ⟨⟨.none, he⟩, hit⟩, fresh2, q⟩

theorem feed_enT {K : PySem.W.Frag} {a l : Addr} {Hd : Hp} {xs : List V} {ds : List PyData} (h : SqT K Hd l xs) (hd : DqAll K Hd xs ds) : Feed K a Hd (IteT K l) ((List.range ds.length).zipWith (fun (k : Nat) d => .tuple [.int (k : Nat), d]) ds) := fun i O' H2 s hv => by
  have hl : SqT K H2 l xs := sqt_mono off_out (sqt_mono s h)
  refine ⟨fun d e => ?_, fun hi => ⟨xs, hl, by rw [hd.len]; rw [List.length_zipWith, List.length_range] at hi; omega⟩⟩
  rw [List.getElem?_zipWith] at e
  cases q1 : ds[i]? with
  | none => rw [q1] at e; cases hq : (List.range ds.length)[i]? <;> rw [hq] at e <;> simp at e
  | some d1 =>
    have hi : i < ds.length := (List.getElem?_eq_some_iff.mp q1).1
    rw [q1, List.getElem?_range hi] at e
    cases e
    obtain ⟨v1, e1, w1⟩ := DqAll.at hd q1
    refine ⟨⟨xs, v1, hl, e1⟩, fun x H3 ⟨T, x1, ex, hT, e3, f1⟩ => ?_⟩
    have z1 := f1 xs hl
    rw [e1] at z1
    cases z1
    subst ex e3
    have s3 := sub_upd (o := .tup [.int (i : Nat), v1]) hT
    exact ⟨s3, .tup (.inl (.inl (off_upd hv hT))) (.cons (.int _) (.cons ((w1.to s).to (off_mono s3)) .nil))⟩
def iEm (V : WL) : WL := fun ρ g R => V ρ g fun ds g1 => match ds with
  | [.list xs] => R ((List.range xs.length).zipWith (fun (k : Nat) d => .tuple [.int (k : Nat), d]) xs) g1
  | [.tuple xs] => R ((List.range xs.length).zipWith (fun (k : Nat) d => .tuple [.int (k : Nat), d]) xs) g1
  | _ => False
section
variable {X : Cx} {e : Expr} {pos : Pos}
/-- for i, x in enumerate(e): e a list or a tuple -/
theorem vi_enA {V : WL} {p tpos : Pos} {elts : List Expr} {kk : Nat} (hg : Gl X "enumerate") (hm : X.mg "enumerate" = none) (ha : VA X [e] V) (hs : starEach [e] X.env = [(false, eval e X.env)] := by rfl) :
    VI X (.Tuple elts kk tpos) (.Call (.Name "enumerate" p) [e] [] pos) (iEm V) := pi_weak (pi_enA hg hm ha hs) fun σ H S ⟨a, H0, O0, O, ρ, g, R, r, w, q⟩ => ⟨a, H0, O0, O, ρ, g, _, r, w, fun ds g1 vs H1 k1 r1 d1 w1 => by
  cases d1 with
  | nil => exact w1.elim
  | cons h1 t =>
    cases t with
    | cons _ _ => cases h1 <;> exact w1.elim
    | nil =>
      cases h1 <;> try exact w1.elim
      · rename_i l xs ds hl hx
        exact ⟨l, xs, rfl, .inl ⟨SqL.of (off_out _ _ hl), q _ g1 _ H1 k1 r1 (feed_enum hl hx) w1⟩⟩
      · rename_i l xs ds hl hx
        exact ⟨l, xs, rfl, .inr ⟨sqt_mono off_out hl, q _ g1 _ H1 k1 r1 (feed_enT hl hx) w1⟩⟩⟩
end
end Vl
/-! V18: append to a slot's own list, named; list(range(..)). -/
namespace Vl
open PySem PySem.Spec PyProof.Rows L2
section
variable {X : Cx} {e a b : Expr} {pos : Pos} {W Wa Wb : WE}
theorem vs_appN (i : Nat) {x : Str} {p1 p2 : Pos} {We : WE} (he : VE X e We) (hN : X.N[i]? = some x := by rfl) (hv : Vis X.env.scope x := by first | exact Or.inl rfl | exact Or.inr (Or.inl rfl) | exact Or.inr (Or.inr rfl)) (hd : (x == ("__debug__" : Str)) = false := by decide) (hcd : (x == ("__classdict__" : Str)) = false := by decide)
    (hbase : attributeBase (.Name x p1) "append" X.env (eval (.Name x p1) X.env) = eval (.Name x p1) X.env := by rfl)
    (hfew : ((backTo pos (starEach [e] X.env)).all (fun x => !x.1) && (backToKw pos (keywordEach [] X.env)).all (fun x => x.1.isSome)
      && decide (([e] : List Expr).length + ([] : List Keyword).length + (if ([] : List Keyword).isEmpty then 0 else 1) < 30)) = true := by rfl)
    (hline : (p2.endLine == pos.line) = true := by rfl) (hs1 : starEach [e] X.env = (false, eval e X.env) :: starEach [] X.env := by rfl) (hplain : (backTo pos (starEach [] X.env)).any (·.1) = false := by rfl)
    {pos' : Pos} (hs : swapsWith (.Call (.Attribute (.Name x p1) "append" p2) [e] [] pos) none pos'.line X.env = pure false := by rfl) :
    VS X (.Expr (.Call (.Attribute (.Name x p1) "append" p2) [e] [] pos) pos') (sApp i We) :=
  vs_app i he hN hv hd hcd (pe_bm (T := "list") (id := "list.append") (r := rAppend) F.plainAttrs_list F.slot_list_append F.type_list_append mt_append (pe_var hN hv hd hcd) (pa_cons he pa_nil hs1) hbase hfew hline hs1 hplain) hs

theorem rgV_dq {K : PySem.W.Frag} {H : Hp} (i j : Int) : DqAll K H (rgV i j) (rangeD i j) := by
  unfold rgV rangeD
  generalize List.range (j - i).toNat = l
  induction l with
  | nil => exact .nil
  | cons k l ih => exact .cons (.int _) ih
/-- list(range(j)) -/
def lRg1 (W : WE) : WL := fun ρ g R => W ρ g fun d g1 => ∃ j, d = .int j ∧ RgOk 0 j ∧ R (rangeD 0 j) g1
/-- list(range(i, j)) -/
def lRg2 (Wa Wb : WE) : WL := fun ρ g R => Wa ρ g fun d g1 => Wb ρ g1 fun d' g2 => ∃ i j, d = .int i ∧ d' = .int j ∧ RgOk i j ∧ R (rangeD i j) g2
theorem kp_none {a l : Addr} {H H1 : Hp} (k : Kp a H H1) (ha : H1 a ≠ none) (hl : H1 l = none) : H l = none := by
  cases e : H l with
  | none => rfl
  | some o =>
    by_cases z : l = a
    · exact absurd hl (z ▸ ha)
    · rw [k l o z e] at hl
      cases hl
theorem vl_list1 {p q pr : Pos} (hc : X.calm = true) (hg : Gl X "list") (hm : X.mg "list" = none) (hg2 : Gl X "range") (hm2 : X.mg "range" = none) (ha : VE X a Wa) (na : starEach [a] X.env = (false, eval a X.env) :: starEach [] X.env := by rfl)
    (hs : starEach [.Call (.Name "range" p) [a] [] pr] X.env = (false, eval (.Call (.Name "range" p) [a] [] pr) X.env) :: starEach [] X.env := by rfl) : VL X (.Call (.Name "list" q) [.Call (.Name "range" p) [a] [] pr] [] pos) (lRg1 Wa) :=
  pe_weak (pe_listRg hc hg hm (prg_1 hg2 hm2 ha na) hs) fun σ H Q ⟨a, H0, O0, O, ρ, g, R, r, w, q⟩ => ⟨a, H0, O0, O, ρ, g, _, r, w, fun d g1 v H1 k1 r1 d1 w1 => by
    obtain ⟨j, rfl, ok, w1⟩ := w1
    cases d1
    exact ⟨j, rfl, ok, fun l hl => q _ g1 l _ _ (k1.trans (Kp.of (sub_upd hl))) (r1.hide hl) (kp_none k1 r1.pen.live hl) upd_same (rgV_dq 0 j) w1⟩⟩
theorem vl_list2 {p q pr : Pos} (hc : X.calm = true) (hg : Gl X "list") (hm : X.mg "list" = none) (hg2 : Gl X "range") (hm2 : X.mg "range" = none) (ha : VE X a Wa) (hb : VE X b Wb) (na : starEach [a, b] X.env = (false, eval a X.env) :: starEach [b] X.env := by rfl)
    (nb : starEach [b] X.env = (false, eval b X.env) :: starEach [] X.env := by rfl) (hp : (backTo pr (starEach [b] X.env)).any (·.1) = false := by rfl)
    (hs : starEach [.Call (.Name "range" p) [a, b] [] pr] X.env = (false, eval (.Call (.Name "range" p) [a, b] [] pr) X.env) :: starEach [] X.env := by rfl) : VL X (.Call (.Name "list" q) [.Call (.Name "range" p) [a, b] [] pr] [] pos) (lRg2 Wa Wb) :=
  pe_weak (pe_listRg hc hg hm (prg_2 hg2 hm2 ha hb na nb hp) hs) fun σ H Q ⟨a, H0, O0, O, ρ, g, R, r, w, q⟩ => ⟨a, H0, O0, O, ρ, g, _, r, w, fun d g1 v H1 k1 r1 d1 w1 => ⟨a, H0, O0, O, ρ, g1, _, r1, w1, fun d' g2 v' H2 k2 r2 d2 w2 => by
    obtain ⟨i, j, rfl, rfl, ok, w2⟩ := w2
    cases d1
    cases d2
    exact ⟨i, j, rfl, rfl, ok, fun l hl => q _ g2 l _ _ ((k1.trans k2).trans (Kp.of (sub_upd hl))) (r2.hide hl) (kp_none (k1.trans k2) r2.pen.live hl) upd_same (rgV_dq i j) w2⟩⟩⟩
end
end Vl
/-! V19: defs whose result is a new list. -/
namespace Vl
open PySem PySem.Spec PyProof.Rows L2
abbrev VSpL := Rho → Nat → (List PyData → Nat → Prop) → Prop
abbrev WSL := EndsV → (List PyData → Nat → Prop) → Rho → Nat → Prop
/-- the result is a new list that nothing else holds -/
def spL (K : PySem.W.Frag) (S : VSpL) : Sp := fun vs H Q _ => ∃ (a : Addr) (O : List Addr) (g : Nat) (as : Rho) (R : List PyData → Nat → Prop), Pen K a O g H ∧ a ∉ O ∧ (∀ p ∈ O, H p ≠ none) ∧ ArgsR K a (Off (a :: O) H) vs as ∧ S as g R ∧
  ∀ ds g' p xs H', Kp a H H' → Pen K a (p :: O) g' H' → H p = none → H' p = some (.lst xs) → DqAll K (Off (a :: p :: O) H') xs ds → R ds g' → Q (.ref p) H'
def ErL (K : PySem.W.Frag) (a : Addr) (H0 : Hp) (O0 : List Addr) (R : List PyData → Nat → Prop) (D : Ends) : Prop :=
  ∀ ds g' p xs H', Kp a H0 H' → Pen K a (p :: O0) g' H' → H0 p = none → H' p = some (.lst xs) → DqAll K (Off (a :: p :: O0) H') xs ds → R ds g' → D.rt (.ref p) H'
def tSl (K : PySem.W.Frag) (W : WSL) : TS := fun D σ H => ∃ (a : Addr) (H0 : Hp) (O0 O : List Addr) (ρ : Rho) (g : Nat) (V : EndsV) (R : List PyData → Nat → Prop), Rl K a H0 O0 O ρ g σ H ∧ W V R ρ g ∧ Er K a H0 O0 (Off (a :: O) H) V D ∧ ErL K a H0 O0 R D
abbrev VSl (X : Cx) (st : Stmt) (W : WSL) : Prop := PS X st (tSl X.K W)
abbrev VSls (X : Cx) (st : List Stmt) (W : WSL) : Prop := PSs X st (tSl X.K W)
def lOf (W : WS) : WSL := fun V _ => W V
def lSeq (W V : WSL) : WSL := fun D R => W { D with nx := V D R } R
def lIf (T : WT) (W V : WSL) : WSL := fun D R ρ g => T ρ g fun k g1 => if k = true then W D R ρ g1 else V D R ρ g1
def lRet (W : WL) : WSL := fun _ R ρ g => W ρ g R
def lRetO (i : Nat) : WSL := fun _ R ρ g => ∃ ds, ρ[i]? = some (.own ds) ∧ R ds g
def lDis (i : Nat) (W : WSL) : WSL := fun V R ρ g => ∃ ds, ρ[i]? = some (.own ds) ∧ W V R (ρ.set i (.val (.list ds))) g
theorem Rl.backP {K : PySem.W.Frag} {a p : Addr} {H0 H : Hp} {O0 O : List Addr} {ρ : Rho} {g : Nat} {σ : L2.St} {H' : Hp} (r : Rl K a H0 O0 O ρ g σ H) (hp : p ∈ O) : Sub (Off (a :: O) H') (Off (a :: p :: O0) H') := off_sub fun b hb => by
  rcases List.mem_cons.mp hb with z | z
  · rw [z]; exact List.mem_cons_self
  · rcases List.mem_cons.mp z with z | z
    · rw [z]; exact List.mem_cons_of_mem _ hp
    · exact List.mem_cons_of_mem _ (r.sub b z)
section
variable {X : Cx} {st : Stmt} {rest as bs : List Stmt} {e c : Expr} {pos : Pos} {W V : WSL}
theorem vl_of {U : WS} (h : VS X st U) : VSl X st (lOf U) := ps_weak h fun D σ H ⟨a, H0, O0, O, ρ, g, V, R, r, w, en, el⟩ => ⟨a, H0, O0, O, ρ, g, V, r, w, en⟩
theorem vsl_nil : VSls X [] (lOf sNext) := pss_weak vss_nil fun D σ H ⟨a, H0, O0, O, ρ, g, V, R, r, w, en, el⟩ => ⟨a, H0, O0, O, ρ, g, V, r, w, en⟩
theorem vsl_one (h : VSl X st W) : VSls X [st] W := pss_one h
theorem vsl_cons (h : VSl X st W) (t : VSls X rest V) : VSls X (st :: rest) (lSeq W V) := pss_weak (pss_cons h t) fun D σ H ⟨a, H0, O0, O, ρ, g, U, R, r, w, e, el⟩ => ⟨a, H0, O0, O, ρ, g, _, R, r, w,
  ⟨fun O' ρ' g' σ' H' s r' w' => ⟨a, H0, O0, O', ρ', g', U, R, r', w', e.on s, el⟩, e.bk, e.ct, e.rt⟩, el⟩
theorem vsl_if {T : WT} (h : VT X c T) (ha : VSls X as W) (hb : VSls X bs V) : VSl X (.If c as bs pos) (lIf T W V) := ps_weak (ps_if h ha hb) fun D σ H ⟨a, H0, O0, O, ρ, g, U, R, r, w, en, el⟩ => ⟨a, H0, O0, O, ρ, g, _, r, w, fun k g1 H1 k1 r1 w1 => by
  cases k with
  | true =>
    rw [if_pos rfl] at w1 ⊢
    exact ⟨a, H0, O0, O, ρ, g1, U, R, r1, w1, en.on (off_kp k1), el⟩
  | false =>
    rw [if_neg Bool.false_ne_true] at w1 ⊢
    exact ⟨a, H0, O0, O, ρ, g1, U, R, r1, w1, en.on (off_kp k1), el⟩⟩
theorem vsl_dis (i : Nat) (h : VSls X rest W) : VSls X rest (lDis i W) := pss_weak h fun D σ H ⟨a, H0, O0, O, ρ, g, V, R, r, ⟨ds, hi, w⟩, en, el⟩ => by
  obtain ⟨O', s, r'⟩ := r.disown hi
  exact ⟨a, H0, O0, O', _, g, V, R, r', w, en.on s, el⟩
theorem vsl_ret {U : WL} (h : VL X e U) : VSl X (.Return (some e) pos) (lRet U) := ps_weak (ps_ret h) fun D σ H ⟨a, H0, O0, O, ρ, g, V, R, r, w, en, el⟩ => ⟨a, H0, O0, O, ρ, g, _, r, w, fun ds g1 p xs H1 k1 r1 hp hx d1 w1 =>
  el ds g1 p xs H1 r1.keep (r1.pen.to (r1.backP List.mem_cons_self) rfl) (r.freshH hp) hx (d1.to (r1.backP List.mem_cons_self)) w1⟩
theorem vsl_retO (i : Nat) {x : Str} {p1 : Pos} (hN : X.N[i]? = some x := by rfl) (hv : Vis X.env.scope x := by first | exact Or.inl rfl | exact Or.inr (Or.inl rfl) | exact Or.inr (Or.inr rfl)) (hd : (x == ("__debug__" : Str)) = false := by decide)
    (hcd : (x == ("__classdict__" : Str)) = false := by decide) : VSl X (.Return (some (.Name x p1)) pos) (lRetO i) := ps_weak (ps_ret (pe_var hN hv hd hcd)) fun D σ H ⟨a, H0, O0, O, ρ, g, V, R, r, ⟨ds, hi, w⟩, en, el⟩ => by
  obtain ⟨p, xs, e, hp, hn, hx, hd⟩ := r.slot i _ hi
  exact ⟨.ref p, e, el ds g p xs H r.keep (r.pen.to (r.backP hp) rfl) hn hx (hd.to (r.backP hp)) w⟩
end
def endL : EndsV := { nx := fun _ _ => False, rt := fun _ _ => False }
structure CkL (P : Program) (w : World) (K : PySem.W.Frag) (mg : Str → Option Value) (base : Heap) (x : Str) (ps : List Str) (k : Nat) (S : VSpL) : Prop where
  ex : ∃ (f : Addr) (fd : FuncData), FnOk P w K mg base CX0 k f fd ps (spL K S) ∧ Binds K fd ps [] ∧ mg x = some (.ref f) ∧ PySem.W.keepIn K (.ref f) = true
section
variable {P : Program} {w : World} {K : PySem.W.Frag} {mg : Str → Option Value} {base : Heap}
theorem fn_vL {x qual : Str} {st : Stmt} {f : Addr} {fd : FuncData} {N ps : List Str} {k : Nat} {S : VSpL} {W : WSL} (F : Fun K x qual st f fd) (sc : FnScope N ps (defScope st)) (hl : ∀ as g R, S as g R → as.length = ps.length)
    (hb : ∀ (cdv : Value) (A : Around) (outer : List Env) (s : Shared) (H : Hp) (E : XK), Room k (A.deeper (envOfC qual (defScope st) s.heap.objs.size f cdv)) → VSls (cxOf CX0 P w K mg base N qual (defScope st) f cdv A outer s H E).nox (defBody st) W)
    (hw : ∀ as g R, S as g R → W endL (fun ds g' => ∃ g2, g' ≤ g2 ∧ R ds g2) (startV N.length as) g) (hn : ps.length ≤ N.length := by decide) : FnOk P w K mg base CX0 (k + 1) f fd ps (spL K S) := by
  refine F.ok sc (fun vs H Q E h => ?_) (fun cdv A outer s H vs Q E hr h => ?_)
  · obtain ⟨a, O, g, as, R, _, _, _, r, hS, _⟩ := h
    rw [r.len]
    exact hl as g R hS
  · obtain ⟨a, O, g, as, R, p, ha, hlv, r, hS, q⟩ := h
    have hlen : as.length ≤ N.length := by rw [hl as g R hS]; exact hn
    refine ⟨_, hb cdv A outer s H E hr, a, H, O, O, startV N.length as, g, endL, _, rl_start p ha hlv r hlen, hw as g R hS, ⟨fun _ _ _ _ _ _ _ h => h.elim, fun _ _ _ _ _ _ _ h => h.elim, fun _ _ _ _ _ _ _ h => h.elim, fun _ _ _ _ _ _ _ h => h.elim⟩, ?_⟩
    exact fun ds g' p xs H' k' p' hn hx hd ⟨g2, h2, w2⟩ => q ds g2 p xs H' k' (p'.mono h2) hn hx hd w2
theorem ckl_v {x : Str} {st : Stmt} {N ps : List Str} {k : Nat} {S : VSpL} {W : WSL} (D : Df K mg x st ps) (sc : FnScope N ps (defScope st)) (hl : ∀ as g R, S as g R → as.length = ps.length)
    (hb : ∀ (f : Addr) (cdv : Value) (A : Around) (outer : List Env) (s : Shared) (H : Hp) (E : XK), Room k (A.deeper (envOfC x (defScope st) s.heap.objs.size f cdv)) → VSls (cxOf CX0 P w K mg base N x (defScope st) f cdv A outer s H E).nox (defBody st) W)
    (hw : ∀ as g R, S as g R → W endL (fun ds g' => ∃ g2, g' ≤ g2 ∧ R ds g2) (startV N.length as) g) (hn : ps.length ≤ N.length := by decide) : CkL P w K mg base x ps (k + 1) S := by
  obtain ⟨f, fd, F, b, m⟩ := D.ex
  exact ⟨f, fd, fn_vL F sc hl (hb f) hw hn, b, m, F.kp⟩
end
section
variable {X : Cx} {e : Expr} {es : List Expr} {pos : Pos}
def lFn (S : VSpL) (V : WP) : WL := fun ρ g R => V ρ g fun as g1 => S as g1 R
/-- a call of such a def: a new list -/
theorem vl_callC {k : Nat} {ps : List Str} {S : VSpL} {V : WP} {x : Str} {p : Pos} (C : CkL X.prog X.w X.K X.mg X.base x ps k S) (hr : Room k X.A) (hg : Gl X x) (ha : VP X (e :: es) V) (hdb : (x == ("__debug__" : Str)) = false := by decide)
    (he : starEach (e :: es) X.env = (false, eval e X.env) :: starEach es X.env := by rfl) (hpl : (backTo pos (starEach es X.env)).any (·.1) = false := by rfl) : VL X (.Call (.Name x p) (e :: es) [] pos) (lFn S V) := by
  obtain ⟨f, fd, F, b, m, kp⟩ := C.ex
  exact pe_weak (pe_call F hr hg m kp b .nil pass0 ha hdb he hpl) fun σ H Q ⟨a, H0, O0, O, ρ, g, R, r, w, q⟩ => ⟨a, H0, O0, O, ρ, g, _, r, w, fun as g1 vs H1 k1 r1 d1 w1 => by
    show spL X.K S (vs ++ []) H1 Q _
    rw [List.append_nil]
    exact ⟨a, O, g1, as, R, r1.pen, r1.noA, r1.live, d1, w1, fun ds g' p xs H' k' p' hn hx hd w' => q ds g' p xs H' (k1.trans k') (r1.stepH k' hn (by rw [hx]; exact fun z => nomatch z) p') (kp_none k1 r1.pen.live hn) hx hd w'⟩⟩
end
end Vl
/-! W5: comprehensions with two sources, by what each outer item adds. -/
namespace Vl
open PySem PySem.Spec PyProof.Rows L2
theorem lc2_pure {α : Type} {enc : α → PyData} {h : α → List PyData} {G : WG} {T : WT} {WI1 : WL} {G1 : WG} {T1 : WT} {E : WE} {vs1 : List Nat} {ρ : Rho} {g : Nat} {R : List PyData → Nat → Prop} (M : Nat) : ∀ (xs : List α) (acc : List PyData),
    (∀ x ∈ xs, ∀ (N : List PyData → Nat → Prop) (acc : List PyData), acc.length ≤ M → N (acc ++ h x) g → G (enc x) ρ fun ρ' => (wipeV ρ' vs1).any isOwn = false ∧ T ρ' g fun b g1 => if b = true then WI1 ρ' g1 fun es g2 => acc.length + es.length ≤ sizeLine ∧ lcV G1 T1 E es (wipeV ρ' vs1) acc g2 N else N acc g1) →
    acc.length + (xs.flatMap h).length ≤ M → R (acc ++ xs.flatMap h) g → lcV2 G T WI1 G1 T1 E vs1 (xs.map enc) ρ acc g R
  | [], acc, _, _, hR => by simpa [lcV2] using hR
  | x :: xs, acc, hs, hM, hR => by
    show G (enc x) ρ _
    rw [List.flatMap_cons, List.length_append] at hM
    refine hs x List.mem_cons_self (fun acc' g' => lcV2 G T WI1 G1 T1 E vs1 (xs.map enc) ρ acc' g' R) acc (by omega) (lc2_pure M xs _ (fun y hy => hs y (List.mem_cons_of_mem _ hy)) ?_ ?_)
    · rw [List.length_append]; omega
    · rw [List.flatMap_cons, ← List.append_assoc] at hR
      exact hR
/-- a loop as a fold: what holds of the slots goes from item to item -/
theorem lp_fold {α β : Type} {enc : α → PyData} {G : WG} {B : WS} {V : EndsV} {g : Nat} (I : β → Rho → Prop) (step : β → α → β) : ∀ (xs : List α) (b : β) (ρ : Rho),
    (∀ x ∈ xs, ∀ (b : β) (ρ : Rho) (N : Rho → Nat → Prop), I b ρ → (∀ ρ', I (step b x) ρ' → N ρ' g) → G (enc x) ρ fun ρ' => B { nx := N, rt := V.rt, bk := V.nx, ct := N } ρ' g) →
    I b ρ → (∀ ρ', I (xs.foldl step b) ρ' → V.nx ρ' g) → loopV G B V (xs.map enc) ρ g
  | [], b, ρ, _, h, e => e ρ h
  | x :: xs, b, ρ, hs, h, e => by
    show G (enc x) ρ _
    exact hs x List.mem_cons_self b ρ (loopV G B V (xs.map enc)) h fun ρ' h' => lp_fold I step xs (step b x) ρ' (fun y hy => hs y (List.mem_cons_of_mem _ hy)) h' e
end Vl
/-! W6: a test reads a slot's own list as plain data, and the slot keeps it. -/
namespace Vl
open PySem PySem.Spec PyProof.Rows L2
def NotInts (ds : List PyData) : Prop := ∃ d ∈ ds, ∀ i : Int, d ≠ .int i
theorem Rl.disownP {K : PySem.W.Frag} {a : Addr} {H0 H : Hp} {O0 O : List Addr} {ρ : Rho} {g : Nat} {σ : L2.St} (r : Rl K a H0 O0 O ρ g σ H) {i : Nat} {ds : List PyData} (hi : ρ[i]? = some (.own ds)) :
    ∃ O', Sub (Off (a :: O) H) (Off (a :: O') H) ∧ Rl K a H0 O0 O' (ρ.set i (.val (.list ds))) g σ H ∧ ∃ p xs, p ≠ a ∧ H p = some (.lst xs) ∧ DqAll K (Off (a :: O) H) xs ds ∧ ∀ q ∈ O, q ∈ O' ∨ q = p := by
  obtain ⟨p, xs, e, hp, hn, hx, h⟩ := r.slot i _ hi
  have h0 : p ∉ O0 := fun z => r.live0 p z hn
  have sb : Sub (Off (a :: O) H) (Off (a :: O.filter (fun q => decide (q ≠ p))) H) := off_sub fun b hb => by
    rcases List.mem_cons.mp hb with z | z
    · rw [z]; exact List.mem_cons_self
    · exact List.mem_cons_of_mem _ (List.mem_filter.mp z).1
  have ofil : ∀ {q : Addr}, q ∈ O → q ≠ p → q ∈ O.filter (fun q => decide (q ≠ p)) := fun {q} h1 h2 => List.mem_filter.mpr ⟨h1, decide_eq_true h2⟩
  have fo : ∀ {q : Addr}, q ∈ O.filter (fun q => decide (q ≠ p)) → q ∈ O := fun {q} h1 => (List.mem_filter.mp h1).1
  have npa : p ≠ a := fun z => r.noA (z ▸ hp)
  have out : p ∉ a :: O.filter (fun q => decide (q ≠ p)) := fun hq => by
    rcases List.mem_cons.mp hq with z | z
    · exact npa z
    · exact absurd rfl (of_decide_eq_true (List.mem_filter.mp z).2)
  have hl : i < ρ.length := (List.getElem?_eq_some_iff.mp hi).1
  refine ⟨_, sb, ⟨r.keep, r.pen.to sb rfl, fun q hq => ofil (r.sub q hq) fun z => h0 (z ▸ hq), fun q hq => r.new q (fo hq), fun hq => r.noA (fo hq), fun q hq => r.live q (fo hq), r.live0, by rw [List.length_set]; exact r.len, fun j s hs => ?_, fun j k ds' es o h1 h2 e1 e2 => ?_⟩, p, xs, npa, hx, h, fun q hq => ?_⟩
  · rcases set_slot hs with ⟨rfl, rfl, _⟩ | ⟨hj, hs⟩
    · exact ⟨.ref p, e, .lst (off_in out hx) (h.to sb)⟩
    · have q := r.slot j s hs
      cases s with
      | un => trivial
      | val d =>
        obtain ⟨v, e', h'⟩ := q
        exact ⟨v, e', h'.to sb⟩
      | own es =>
        obtain ⟨q, ys, e', hq, hn', hx', h'⟩ := q
        refine ⟨q, ys, e', ofil hq fun z => hj ?_, hn', hx', h'.to sb⟩
        exact r.inj i j ds es _ hi hs e (by rw [e', z])
      | pen => exact q
  · rcases set_slot h1 with ⟨_, z, _⟩ | ⟨_, h1⟩
    · cases z
    · rcases set_slot h2 with ⟨_, z, _⟩ | ⟨_, h2⟩
      · cases z
      · exact r.inj j k ds' es o h1 h2 e1 e2
  · by_cases z : q = p
    · exact .inr z
    · exact .inl (ofil hq z)
theorem ints_only {K : PySem.W.Frag} {H : Hp} : ∀ {cells : List Int} {ds : List PyData}, DqAll K H (cells.map V.int) ds → ∀ d ∈ ds, ∃ i : Int, d = .int i
  | [], _, .nil, d, h => (nomatch h)
  | c :: cells, _, .cons h t, d, hd => by
    rcases List.mem_cons.mp hd with rfl | hd
    · cases h
      exact ⟨c, rfl⟩
    · exact ints_only t d hd
/-- the pen after data were read that hide less -/
theorem pen_back {K : PySem.W.Frag} {a p : Addr} {O O' : List Addr} {g1 : Nat} {H H1 : Hp} {xs : List V} {ds : List PyData} {Hd : Hp} (pn : Pen K a O' g1 H1) (k : Kp a H H1) (np : p ≠ a) (hx : H p = some (.lst xs)) (hd : DqAll K Hd xs ds) (ni : NotInts ds) (hq : ∀ q ∈ O, q ∈ O' ∨ q = p) : Pen K a O g1 H1 := by
  obtain ⟨c, cells, j, rest, h1, h2, h3, h4⟩ := pn
  refine ⟨c, cells, j, rest, h1, ?_, h3, h4⟩
  obtain ⟨n, e⟩ := off_some.mp h2
  refine off_in (fun z => ?_) e
  rcases List.mem_cons.mp z with z | z
  · exact n (by rw [z]; exact List.mem_cons_self)
  · rcases hq c z with z | z
    · exact n (List.mem_cons_of_mem _ z)
    · subst z
      rw [k c _ np hx] at e
      cases e
      obtain ⟨d, hm, hn⟩ := ni
      obtain ⟨i, rfl⟩ := ints_only hd d hm
      exact hn i rfl
def wBor (i : Nat) (T : WT) : WT := fun ρ g R => ∃ ds, ρ[i]? = some (.own ds) ∧ NotInts ds ∧ T (ρ.set i (.val (.list ds))) g R
theorem t_bor {X : Cx} {c : Expr} {T : WT} (i : Nat) (h : VT X c T) : VT X c (wBor i T) := pt_weak h fun σ H Q ⟨a, H0, O0, O, ρ, g, R, r, ⟨ds, hi, ni, w⟩, q⟩ => by
  obtain ⟨O', sb, r', p, xs, np, hx, hd, hq⟩ := r.disownP hi
  exact ⟨a, H0, O0, O', _, g, R, r', w, fun b g1 H1 k1 r1 w1 => q b g1 H1 k1 (r.step k1 (pen_back r1.pen k1 np hx hd ni hq)) w1⟩
end Vl
/-! V23: a module's constants: numbers, texts, tuples of these. -/
namespace Vl
open PySem PySem.Spec PyProof.Rows L2
/-- the global x is the data d -/
structure Gc (K : PySem.W.Frag) (mg : Str → Option Value) (x : Str) (d : PyData) : Prop where
  ex : ∃ (u : Value) (v : V), mg x = some u ∧ RelV v u ∧ ∀ H, Dq K H v d
theorem v_glob {X : Cx} {x : Str} {d : PyData} {pos : Pos} (G : Gc X.K X.mg x d) (hg : Gl X x) (hd : (x == ("__debug__" : Str)) = false := by decide) : VE X (.Name x pos) (wC d) := by
  obtain ⟨u, v, hm, r, h⟩ := G.ex
  exact pe_weak (pe_glob hg hm r hd) fun σ H Q ⟨a, H0, O0, O, ρ, g, R, rl, w, q⟩ => q d g v H (Kp.refl _ _) rl (h _) w
theorem gc_int {K : PySem.W.Frag} {h : Heap} {mg : Str → Option Value} {x : Str} {i : Int} {t} (X : K.In h) (G : h.Ns mainGlobals mg) (n : PySem.W.nsIn K mainGlobals x = some (some (.int i t))) : Gc K mg x (.int i) :=
  ⟨⟨_, .int i, PySem.W.mg_of X G n, ⟨t, rfl⟩, fun _ => .int i⟩⟩
/-- strings, bools, numbers of a tuple, by what they are -/
inductive Cs : List Value → List PyData → Prop
  | nil : Cs [] []
  | str {x : Str} {t} {us : List Value} {ds : List PyData} : Cs us ds → Cs (.str x t :: us) (.str x :: ds)
  | bl {b : Bool} {us : List Value} {ds : List PyData} : Cs us ds → Cs (.bool b :: us) (.bool b :: ds)
  | int {i : Int} {t} {us : List Value} {ds : List PyData} : Cs us ds → Cs (.int i t :: us) (.int i :: ds)
theorem Cs.vs {K : PySem.W.Frag} {H : Hp} : ∀ {us : List Value} {ds : List PyData}, Cs us ds → ∃ vs, Vals vs us ∧ DqAll K H vs ds
  | _, _, .nil => ⟨[], .nil, .nil⟩
  | _, _, .str h => by
    obtain ⟨vs, a, b⟩ := h.vs (K := K) (H := H)
    exact ⟨.str _ :: vs, .cons ⟨_, rfl⟩ a, .cons (.str _) b⟩
  | _, _, .bl h => by
    obtain ⟨vs, a, b⟩ := h.vs (K := K) (H := H)
    exact ⟨.bl _ :: vs, .cons rfl a, .cons (.bl _) b⟩
  | _, _, .int h => by
    obtain ⟨vs, a, b⟩ := h.vs (K := K) (H := H)
    exact ⟨.int _ :: vs, .cons ⟨_, rfl⟩ a, .cons (.int _) b⟩
theorem gc_tup {K : PySem.W.Frag} {h : Heap} {mg : Str → Option Value} {x : Str} {a : Addr} {o : Option Addr} {its : Array Value} {n : Nat} {sl : Array (Option Value)} {ds : List PyData} (X : K.In h) (G : h.Ns mainGlobals mg)
    (hn : PySem.W.nsIn K mainGlobals x = some (some (.ref a))) (hl : K.lookup a = some ⟨.type "tuple", o, .seq its n, sl⟩) (hc : Cs its.toList ds) (hz : its.size ≤ sizeLine) : Gc K mg x (.tuple ds) :=
  ⟨⟨_, .ref a, PySem.W.mg_of X G hn, rfl, fun H => by
    obtain ⟨vs, h1, h2⟩ := hc.vs (K := K) (H := H)
    exact .tup (.inr ⟨_, its, n, hl, rfl, rfl, hz, h1⟩) h2⟩⟩
end Vl
/-! V24: x, y = e, [..]: the second a slot's own list. -/
namespace Vl
open PySem PySem.Spec PyProof.Rows L2
section
variable {X : Cx} {a b : Expr} {pos : Pos} {Wa : WE}
theorem off_born {K : PySem.W.Frag} {a p : Addr} {O : List Addr} {H H' : Hp} (k : Kp a H H') (hp : H p = none) : Sub (Off (a :: O) H) (Off (a :: p :: O) H') := fun b o e => by
  obtain ⟨n, e⟩ := off_some.mp e
  have na : b ≠ a := fun z => n (by rw [z]; exact List.mem_cons_self)
  refine off_in (fun z => ?_) (k b o na e)
  rcases List.mem_cons.mp z with z | z
  · exact na z
  · rcases List.mem_cons.mp z with z | z
    · rw [z, hp] at e
      cases e
    · exact n (List.mem_cons_of_mem _ z)
def sPar2P (i j : Nat) (W1 : WE) (W2 : WL) : WS := fun V ρ g => W1 ρ g fun d g1 => W2 ρ g1 fun ds g2 => V.nx ((ρ.set i (.val d)).set j (.own ds)) g2
theorem tS_par2P {K : PySem.W.Frag} {i j : Nat} {W1 : WE} {W2 : WL} : ∀ D σ H, tS K (sPar2P i j W1 W2) D σ H → tPar i j (tCons (tE K W1) (tCons (tL K W2) tNil)) D σ H := fun D σ H ⟨a, H0, O0, O, ρ, g, V, r, w, en⟩ =>
  ⟨a, H0, O0, O, ρ, g, _, r, w, fun d g1 v1 H1 k1 r1 dd1 w1 => ⟨a, H0, O0, O, ρ, g1, _, r1, w1, fun ds g2 p xs H2 k2 r2 hp hx d2 w2 => by
    have npa : p ≠ a := fun z => r1.pen.live (z ▸ hp)
    refine ⟨v1, .ref p, rfl, en.nx (p :: O) _ g2 _ H2 ((off_kp k1).trans (off_born (K := K) k2 hp)) ((r2.setVal (dd1.to (off_born (K := K) k2 hp))).setOwn List.mem_cons_self (r1.freshH hp) hx d2 fun m es hm hs e => ?_) w2⟩
    rcases set_slot hs with ⟨_, z, _⟩ | ⟨hj, hs⟩
    · cases z
    · rw [List.getElem?_set_ne hj] at e
      obtain ⟨q, _, e', hq, _⟩ := r1.slot m _ hs
      rw [e] at e'
      cases e'
      exact r1.live p hq hp⟩⟩
theorem vs_par2P (i j : Nat) {x y : Str} {px py pt : Pos} {kt k2 pt2} {V : WL} (hc : X.calm = true) (hN : X.N.Nodup) (ha : VE X a Wa) (hb : VL X b V) (hi : X.N[i]? = some x := by rfl) (hj : X.N[j]? = some y := by rfl) (hij : i ≠ j := by decide)
    (hx : X.env.scope.names.lookup x = some .local := by rfl) (hy : X.env.scope.names.lookup y = some .local := by rfl) (hw : swappedStores [.Tuple [.Name x px, .Name y py] kt pt] (.Tuple [a, b] k2 pt2) X.env = pure (some [x, y]) := by rfl)
    (hs : swapsWithSole [.Tuple [.Name x px, .Name y py] kt pt] (.Tuple [a, b] k2 pt2) pos.line X.env = pure false := by rfl) (h1 : starEach [a, b] X.env = (false, eval a X.env) :: starEach [b] X.env := by rfl) (h2 : starEach [b] X.env = (false, eval b X.env) :: starEach [] X.env := by rfl) :
    VS X (.Assign [.Tuple [.Name x px, .Name y py] kt pt] (.Tuple [a, b] k2 pt2) pos) (sPar2P i j Wa V) := ps_weak (ps_par hc hN hi hj hij hx hy (pa_cons ha (pa_cons hb pa_nil h2) h1) hw hs) tS_par2P
end
end Vl
namespace Law
open PySem PySem.Spec PyProof.Rows L2 Vl
def topS (i : Nat) : Stmt := PySem.Challenge.pw_somerows_k04_plans_recognized.main.body.getD i (.Pass ⟨0, 0, 0, 0⟩)
abbrev s_is_integer_within : Stmt := topS 1
theorem sc_is_integer_within : FnScope ["value", "low", "high"] ["value", "low", "high"] (defScope s_is_integer_within) := ⟨rfl, rfl, rfl, by decide +kernel, rfl, by decide +kernel, by decide +kernel⟩
abbrev s_is_tuple_of : Stmt := topS 2
theorem sc_is_tuple_of : FnScope ["value", "length"] ["value", "length"] (defScope s_is_tuple_of) := ⟨rfl, rfl, rfl, by decide +kernel, rfl, by decide +kernel, by decide +kernel⟩
abbrev s_is_plan : Stmt := topS 15
theorem sc_is_plan : FnScope ["value", "at"] ["value"] (defScope s_is_plan) := ⟨rfl, rfl, rfl, by decide +kernel, rfl, by decide +kernel, by decide +kernel⟩
abbrev s_all_plans : Stmt := topS 16
theorem sc_all_plans : FnScope ["lanes", "late", "anew", "children", "parents", "tells_value", "tells_children", "looks_again"] ["lanes", "late", "anew"] (defScope s_all_plans) := ⟨rfl, rfl, rfl, by decide +kernel, rfl, by decide +kernel, by decide +kernel⟩
abbrev s__law_open : Stmt := topS 18
theorem sc__law_open : FnScope ["script", "cells", "k", "cell"] ["script"] (defScope s__law_open) := ⟨rfl, rfl, rfl, by decide +kernel, rfl, by decide +kernel, by decide +kernel⟩
abbrev s__law_spread : Stmt := topS 19
theorem sc__law_spread : FnScope ["cell", "at", "primes", "one", "two", "three"] ["cell", "at"] (defScope s__law_spread) := ⟨rfl, rfl, rfl, by decide +kernel, rfl, by decide +kernel, by decide +kernel⟩
abbrev s__law_take : Stmt := topS 20
theorem sc__law_take : FnScope ["pen", "amount", "at", "cell", "found"] ["pen", "amount"] (defScope s__law_take) := ⟨rfl, rfl, rfl, by decide +kernel, rfl, by decide +kernel, by decide +kernel⟩
abbrev s__law_same : Stmt := topS 21
theorem sc__law_same : FnScope ["found", "due", "one", "other"] ["found", "due"] (defScope s__law_same) := ⟨rfl, rfl, rfl, by decide +kernel, rfl, by decide +kernel, by decide +kernel⟩
abbrev s__law_one_of : Stmt := topS 22
theorem sc__law_one_of : FnScope ["pen", "some"] ["pen", "some"] (defScope s__law_one_of) := ⟨rfl, rfl, rfl, by decide +kernel, rfl, by decide +kernel, by decide +kernel⟩
abbrev s__law_is_integer : Stmt := topS 23
theorem sc__law_is_integer : FnScope ["value", "low", "high"] ["value", "low", "high"] (defScope s__law_is_integer) := ⟨rfl, rfl, rfl, by decide +kernel, rfl, by decide +kernel, by decide +kernel⟩
abbrev s__law_odd : Stmt := topS 24
theorem sc__law_odd : FnScope ["pen"] ["pen"] (defScope s__law_odd) := ⟨rfl, rfl, rfl, by decide +kernel, rfl, by decide +kernel, by decide +kernel⟩
abbrev s__law_bent : Stmt := topS 25
theorem sc__law_bent : FnScope ["pen", "value", "found", "way", "k"] ["pen", "value"] (defScope s__law_bent) := ⟨rfl, rfl, rfl, by decide +kernel, rfl, by decide +kernel, by decide +kernel⟩
abbrev s__law_draw_plan : Stmt := topS 26
theorem sc__law_draw_plan : FnScope ["pen", "late", "sends", "flags", "flag", "anew", "some"] ["pen", "late"] (defScope s__law_draw_plan) := ⟨rfl, rfl, rfl, by decide +kernel, rfl, by decide +kernel, by decide +kernel⟩
abbrev s__law_is_plan : Stmt := topS 27
theorem sc__law_is_plan : FnScope ["value", "word", "flag", "sends"] ["value"] (defScope s__law_is_plan) := ⟨rfl, rfl, rfl, by decide +kernel, rfl, by decide +kernel, by decide +kernel⟩
abbrev s_law : Stmt := topS 28
theorem sc_law : FnScope ["script", "pen", "turn", "plan", "values", "again", "k", "some", "one", "j", "value", "text", "lanes", "late", "anew", "due", "children", "parents", "flags", "told"] ["script"] (defScope s_law) := ⟨rfl, rfl, rfl, by decide +kernel, rfl, by decide +kernel, by decide +kernel⟩
structure Gs (K : PySem.W.Frag) (mg : Str → Option Value) : Prop where
  c_LANES : Gc K mg "LANES" (.int (0))
  c_LATE : Gc K mg "LATE" (.int (1))
  c_CHILDREN : Gc K mg "CHILDREN" (.int (2))
  c_PARENTS : Gc K mg "PARENTS" (.int (3))
  c_TELLS_VALUE : Gc K mg "TELLS_VALUE" (.int (4))
  c_TELLS_CHILDREN : Gc K mg "TELLS_CHILDREN" (.int (5))
  c_LOOKS_AGAIN : Gc K mg "LOOKS_AGAIN" (.int (6))
  c_ANEW : Gc K mg "ANEW" (.int (7))
  c_SENDINGS : Gc K mg "SENDINGS" (.tuple [.str "all", .str "either", .str "now"])
  c_BOOLS : Gc K mg "BOOLS" (.tuple [.bool false, .bool true])
  c_BEGINNINGS_ANEW : Gc K mg "BEGINNINGS_ANEW" (.tuple [.str "never", .str "cut", .str "kept"])
section
variable {P : Program} {w : World} {K : PySem.W.Frag} {mg : Str → Option Value} {base : Heap}
theorem prime_of {d : PyData} (h : d ∈ [PyData.int 2147483629, .int 2147483587, .int 2147483579, .int 2147483563, .int 2147483549, .int 2147483543, .int 2147483497, .int 2147483489, .int 2147483477, .int 2147483423, .int 2147483399, .int 2147483353, .int 2147483323]) :
    ∃ p, d = .int p ∧ 0 < p ∧ p ≤ 2147483629 := by
  simp only [List.mem_cons, List.not_mem_nil, or_false] at h
  rcases h with rfl | rfl | rfl | rfl | rfl | rfl | rfl | rfl | rfl | rfl | rfl | rfl | rfl <;> exact ⟨_, rfl, by decide, by decide⟩
theorem ok_spread (B : Bi mg) (D : Df K mg "_law_spread" s__law_spread ["cell", "at"]) : Ck P w K mg base "_law_spread" ["cell", "at"] 1 spSpread := by
  refine ck_v D sc__law_spread (fun as g R h => ?_) (fun f cdv A outer s H E hr => (vss_cons (vs_if (t_ge (vv 0) (v_pow v_int v_int)) (vss_one (vs_ret (vv 0))) vss_nil) (vss_cons (vs_set 2 sc__law_spread.nd (v_lst (va_cons v_int (va_cons v_int (va_cons v_int (va_cons v_int (va_cons v_int (va_cons v_int (va_cons v_int (va_cons v_int va_nil)))))))))) (vss_cons (vs_set 2 sc__law_spread.nd (v_add (vv 2) (v_lst (va_cons v_int (va_cons v_int (va_cons v_int (va_cons v_int (va_cons v_int va_nil)))))))) (vss_cons (vs_set 3 sc__law_spread.nd (v_add (v_add (v_mulI (v_mod (v_toInt (by rfl) B.b_int (va_cons (vv 0) va_nil)) v_int) (v_add (v_mulI v_int (vv 1)) v_int)) (v_mulI (vv 1) v_int)) v_int)) (vss_cons (vs_set 3 sc__law_spread.nd (v_mod (v_toInt (by rfl) B.b_int (va_cons (v_pow (vv 3) v_int) va_nil)) (v_ix (vv 2) (v_mod (v_toInt (by rfl) B.b_int (va_cons (vv 1) va_nil)) v_int)))) (vss_cons (vs_set 4 sc__law_spread.nd (v_mod (v_toInt (by rfl) B.b_int (va_cons (v_pow (v_add (v_add (v_mulI (vv 3) (v_add (vv 1) v_int)) (v_mod (v_toInt (by rfl) B.b_int (va_cons (vv 0) va_nil)) v_int)) v_int) v_int) va_nil)) (v_ix (vv 2) (v_mod (v_toInt (by rfl) B.b_int (va_cons (v_add (vv 1) v_int) va_nil)) v_int)))) (vss_cons (vs_set 5 sc__law_spread.nd (v_mod (v_toInt (by rfl) B.b_int (va_cons (v_pow (v_add (v_add (vv 4) (v_mod (v_toInt (by rfl) B.b_int (va_cons (vv 3) va_nil)) v_int)) (vv 1)) v_int) va_nil)) (v_ix (vv 2) (v_mod (v_toInt (by rfl) B.b_int (va_cons (v_add (vv 1) v_int) va_nil)) v_int)))) (vss_one (vs_ret (v_add (v_mulI (v_add (v_mulI (vv 3) v_int) (vv 4)) v_int) (vv 5)))))))))))) (fun as g R h => ?_)
  · obtain ⟨c, k, rfl, _⟩ := h
    rfl
  · obtain ⟨c, k, rfl, hk, hR⟩ := h
    have hk' : k ≤ 4000000000 := hk
    have kn : ∀ m : Int, 0 ≤ ((k : Int) + m) % 13 ∧ ((k : Int) + m) % 13 < 13 := fun m => ⟨Int.emod_nonneg _ (by decide), Int.emod_lt_of_pos _ (by decide)⟩
    have k0 : 0 ≤ (k : Int) % 13 ∧ (k : Int) % 13 < 13 := ⟨Int.emod_nonneg _ (by decide), Int.emod_lt_of_pos _ (by decide)⟩
    simp only [sSeq, sIf, sSet, sOwn, sRet, sRetN, sNext, sDis, sSetIx, sApp, sAsg, sPar, sPar2O, sPar3, wB, wOp, wVar, wC, wNil, wCons, pNil, pCons, pPen, wTup, lLst, wL, wCall, wChain, Vl.wAnd, Vl.wOr, Vl.wNot, wAndV, wOrV, wNotV, wIf, wNeg, wIsN, wIsa, wFn, wSl, oNo, oPt, lList, wRevL, wIxO, wEqE, gN, gsNil, gsCons, gT, iL, iT, iR1, iR2, iZp, iEn, wYes, wipeV, endV, startV, e_fII, e_addI, e_addT, e_addL, e_intI, e_intB, e_mulT, e_mulL, e_lenL, e_lenT, e_tupL, e_tupT, e_eqI, e_neI, e_eqB, e_neB, e_eqS, e_neS, List.length_cons, List.length_nil, List.replicate, List.cons_append, List.nil_append, List.getElem?_cons_zero, List.getElem?_cons_succ, List.set_cons_zero, List.set_cons_succ, Nat.reduceAdd, Nat.reduceSub, List.replicate_succ, List.replicate_zero, true_and, if_true, if_false, Bool.false_eq_true, reduceIte, Int.toNat_natCast]
    refine ⟨pow_ok (a := 10) (n := 18) (by decide) (by decide), ?_⟩
    by_cases hc : (10 : Int) ^ Int.toNat 18 ≤ c
    · rw [if_pos (decide_eq_true hc)]
      exact ⟨g, Nat.le_refl _, hR c⟩
    · rw [if_neg (by rw [decide_eq_false hc]; exact Bool.false_ne_true)]
      have m1 := Int.emod_nonneg c (show (1000000007 : Int) ≠ 0 by decide)
      have m2 := Int.emod_lt_of_pos c (show (0 : Int) < 1000000007 by decide)
      have p1 := prod_le m1 (Int.le_of_lt m2) (show 0 ≤ 2 * (k : Int) + 69069 by omega) (show 2 * (k : Int) + 69069 ≤ 8000069069 by omega)
      generalize hq : c % 1000000007 * (2 * (k : Int) + 69069) = q at p1 ⊢
      refine ⟨by decide, by decide, by decide, by decide, mulL (by decide) (by decide), mulL (by omega) (by omega), mulR (by decide) (by decide), pow_ok (n := 3) (by omega) (by decide), by decide, ?_⟩
      refine fIx_mem k0.1 (by simpa using k0.2) fun d hd => ?_
      obtain ⟨p, rfl, hp0, hp1⟩ := prime_of hd
      simp only [sSeq, sIf, sSet, sOwn, sRet, sRetN, sNext, sDis, sSetIx, sApp, sAsg, sPar, sPar2O, sPar3, wB, wOp, wVar, wC, wNil, wCons, pNil, pCons, pPen, wTup, lLst, wL, wCall, wChain, Vl.wAnd, Vl.wOr, Vl.wNot, wAndV, wOrV, wNotV, wIf, wNeg, wIsN, wIsa, wFn, wSl, oNo, oPt, lList, wRevL, wIxO, wEqE, gN, gsNil, gsCons, gT, iL, iT, iR1, iR2, iZp, iEn, wYes, wipeV, endV, startV, e_fII, e_addI, e_addT, e_addL, e_intI, e_intB, e_mulT, e_mulL, e_lenL, e_lenT, e_tupL, e_tupT, e_eqI, e_neI, e_eqB, e_neB, e_eqS, e_neS, List.length_cons, List.length_nil, List.replicate, List.cons_append, List.nil_append, List.getElem?_cons_zero, List.getElem?_cons_succ, List.set_cons_zero, List.set_cons_succ, Nat.reduceAdd, Nat.reduceSub, List.replicate_succ, List.replicate_zero, true_and, if_true, if_false, Bool.false_eq_true, reduceIte, Int.toNat_natCast]
      have o1 := Int.emod_nonneg ((q + (k : Int) * 40503 + 977) ^ Int.toNat 3) (show p ≠ 0 by omega)
      have o2 := Int.emod_lt_of_pos ((q + (k : Int) * 40503 + 977) ^ Int.toNat 3) hp0
      generalize (q + (k : Int) * 40503 + 977) ^ Int.toNat 3 % p = one at o1 o2 ⊢
      have p2 := prod_le o1 (show one ≤ 2147483629 by omega) (show 0 ≤ (k : Int) + 3 by omega) (show (k : Int) + 3 ≤ 4000000003 by omega)
      have m3 := Int.emod_nonneg c (show (65537 : Int) ≠ 0 by decide)
      have m4 := Int.emod_lt_of_pos c (show (0 : Int) < 65537 by decide)
      generalize one * ((k : Int) + 3) = q2 at p2 ⊢
      generalize c % 65537 = q3 at m3 m4 ⊢
      refine ⟨hp0, mulL (by omega) (by omega), by decide, pow_ok (n := 5) (by omega) (by decide), by decide, ?_⟩
      refine fIx_mem (kn 5).1 (by simpa using (kn 5).2) fun d hd => ?_
      obtain ⟨p', rfl, hp0', hp1'⟩ := prime_of hd
      simp only [sSeq, sIf, sSet, sOwn, sRet, sRetN, sNext, sDis, sSetIx, sApp, sAsg, sPar, sPar2O, sPar3, wB, wOp, wVar, wC, wNil, wCons, pNil, pCons, pPen, wTup, lLst, wL, wCall, wChain, Vl.wAnd, Vl.wOr, Vl.wNot, wAndV, wOrV, wNotV, wIf, wNeg, wIsN, wIsa, wFn, wSl, oNo, oPt, lList, wRevL, wIxO, wEqE, gN, gsNil, gsCons, gT, iL, iT, iR1, iR2, iZp, iEn, wYes, wipeV, endV, startV, e_fII, e_addI, e_addT, e_addL, e_intI, e_intB, e_mulT, e_mulL, e_lenL, e_lenT, e_tupL, e_tupT, e_eqI, e_neI, e_eqB, e_neB, e_eqS, e_neS, List.length_cons, List.length_nil, List.replicate, List.cons_append, List.nil_append, List.getElem?_cons_zero, List.getElem?_cons_succ, List.set_cons_zero, List.set_cons_succ, Nat.reduceAdd, Nat.reduceSub, List.replicate_succ, List.replicate_zero, true_and, if_true, if_false, Bool.false_eq_true, reduceIte, Int.toNat_natCast]
      have t1 := Int.emod_nonneg ((q2 + q3 + 5) ^ Int.toNat 5) (show p' ≠ 0 by omega)
      have t2 := Int.emod_lt_of_pos ((q2 + q3 + 5) ^ Int.toNat 5) hp0'
      generalize (q2 + q3 + 5) ^ Int.toNat 5 % p' = two at t1 t2 ⊢
      have m5 := Int.emod_nonneg one (show (1009 : Int) ≠ 0 by decide)
      have m6 := Int.emod_lt_of_pos one (show (0 : Int) < 1009 by decide)
      generalize one % 1009 = q4 at m5 m6 ⊢
      refine ⟨hp0', by decide, pow_ok (n := 3) (by omega) (by decide), by decide, ?_⟩
      refine fIx_mem (kn 7).1 (by simpa using (kn 7).2) fun d hd => ?_
      obtain ⟨p'', rfl, hp0'', hp1''⟩ := prime_of hd
      simp only [sSeq, sIf, sSet, sOwn, sRet, sRetN, sNext, sDis, sSetIx, sApp, sAsg, sPar, sPar2O, sPar3, wB, wOp, wVar, wC, wNil, wCons, pNil, pCons, pPen, wTup, lLst, wL, wCall, wChain, Vl.wAnd, Vl.wOr, Vl.wNot, wAndV, wOrV, wNotV, wIf, wNeg, wIsN, wIsa, wFn, wSl, oNo, oPt, lList, wRevL, wIxO, wEqE, gN, gsNil, gsCons, gT, iL, iT, iR1, iR2, iZp, iEn, wYes, wipeV, endV, startV, e_fII, e_addI, e_addT, e_addL, e_intI, e_intB, e_mulT, e_mulL, e_lenL, e_lenT, e_tupL, e_tupT, e_eqI, e_neI, e_eqB, e_neB, e_eqS, e_neS, List.length_cons, List.length_nil, List.replicate, List.cons_append, List.nil_append, List.getElem?_cons_zero, List.getElem?_cons_succ, List.set_cons_zero, List.set_cons_succ, Nat.reduceAdd, Nat.reduceSub, List.replicate_succ, List.replicate_zero, true_and, if_true, if_false, Bool.false_eq_true, reduceIte, Int.toNat_natCast]
      exact ⟨hp0'', mulR (by decide) (by decide), mulR (by decide) (by decide), g, Nat.le_refl _, hR _⟩
theorem ok_take (B : Bi mg) (C_spread : Ck P w K mg base "_law_spread" ["cell", "at"] 1 spSpread) (D : Df K mg "_law_take" s__law_take ["pen", "amount"]) : Ck P w K mg base "_law_take" ["pen", "amount"] 2 spTake := by
  obtain ⟨f, fd, F, b, m⟩ := D.ex
  obtain ⟨fS, fdS, FS, bS, gS, kS⟩ := C_spread.ex
  refine ⟨f, fd, F.ok sc__law_take (fun vs H Q E h => ?_) (fun cdv A outer s H vs Q E hr h => ?_), b, m, F.kp⟩
  · obtain ⟨a, O, g, as, R, _, _, _, r, ⟨n, rfl, _⟩, _⟩ := h
    exact r.len
  · obtain ⟨a, O, g, as, R, hp, ha, hl, r, ⟨n, rfl, ⟨hn, hn2⟩, hg, hR⟩, q⟩ := h
    cases r with
    | pen t =>
    cases t with
    | val h1 t =>
    cases t
    cases h1
    obtain ⟨c, cells, k, rest, e1, e2, e3, e4⟩ := hp
    refine ⟨_, (pss_join (ps_if (pt_cmpR op_lt (pe_ix ix_list (pv 0) pe_int (fun _ _ => rfl)) (pv 1) (nomark _))
      (pss_cons (ps_set (i := 2) sc__law_take.nd rfl (.inl rfl) (pe_ix ix_list (pv 0) pe_int (fun _ _ => rfl))) (pss_cons (ps_set (i := 3) sc__law_take.nd rfl (.inl rfl) pe_int)
        (pss_join (ps_if (pt_cmpR op_lt (pv 2) (pe_callB call_len_seq (by rfl) B.b_len PySem.boot_len (pa_cons (pe_ix ix_list (pv 0) pe_int (fun _ _ => rfl)) pa_nil)) (nomark _)) (pss_one (ps_set (i := 3) sc__law_take.nd rfl (.inl rfl) (pe_ix ix_list (pe_ix ix_list (pv 0) pe_int (fun _ _ => rfl)) (pv 2) (fun _ _ => rfl))))
          (pss_one (ps_if (pt_cmpR op_gt (pe_callB call_len_seq (by rfl) B.b_len PySem.boot_len (pa_cons (pe_ix ix_list (pv 0) pe_int (fun _ _ => rfl)) pa_nil)) pe_int (nomark _)) (pss_one (ps_set (i := 3) sc__law_take.nd rfl (.inl rfl) (pe_op op_mod (pe_callTy call_int1 (by rfl) B.b_int boot_int' (pa_cons (pe_ix ix_list (pe_ix ix_list (pv 0) pe_int (fun _ _ => rfl)) (pe_op op_mod (pe_callTy call_int1 (by rfl) B.b_int boot_int' (pa_cons (pe_op op_add (pe_op op_mul (pv 2) pe_int) pe_int) pa_nil)) (pe_callB call_len_seq (by rfl) B.b_len PySem.boot_len (pa_cons (pe_ix ix_list (pv 0) pe_int (fun _ _ => rfl)) pa_nil))) (fun _ _ => rfl)) pa_nil)) (pe_op op_add (pe_op op_pow pe_int pe_int) (pv 2))))) pss_nil)))
        (pss_cons (ps_asg (pe_op op_add (pv 2) pe_int) (pg_sub (pv 0) pe_int set_list))
        (pss_one (ps_asg (pe_call FS (hr.mono (by decide)) (by rfl) gS kS bS .nil pass0 (pa_cons (pv 3) (pa_cons (pv 2) pa_nil))) (pg_sub (pv 0) pe_int set_list))))))) pss_nil)
    (pss_cons (ps_set (i := 4) sc__law_take.nd rfl (.inl rfl) (pe_op op_mod (pe_callTy call_int1 (by rfl) B.b_int boot_int' (pa_cons (pe_ix ix_list (pv 0) pe_int (fun _ _ => rfl)) pa_nil)) (pv 1))) (pss_cons (ps_asg (pe_op op_fdiv (pe_ix ix_list (pv 0) pe_int (fun _ _ => rfl)) (pv 1)) (pg_sub (pv 0) pe_int set_list)) (pss_one (ps_ret (pv 4)))))), ?_⟩
    have hca : c ∉ a :: O := (off_some.mp e2).1
    have hc : H c = some (.lst (cells.map V.int)) := (off_some.mp e2).2
    have nca : c ≠ a := fun z => hca (by rw [z]; exact List.mem_cons_self)
    have hg' : g < 4000000000 := hg
    -- behind the first if: the pen has some rest
    refine ⟨fun σ' H1 => ∃ (y2 y3 : Option V), σ' = [some (.ref a), some (.int n), y2, y3, none] ∧ Pen K a O (g + 1) H1 ∧ Kp a H H1, ?_, ?_⟩
    · refine ⟨.ref a, rfl, a, _, 2, _, rfl, rfl, SqL.of e1, rfl, .int n, rfl, _, _, rfl, rfl, _, rfl, ite2 (fun _ => ?_) (fun _ => ?_)⟩
      · refine ⟨.ref a, rfl, a, _, 1, _, rfl, rfl, SqL.of e1, rfl, ?_⟩
        -- behind the second if: some cell
        refine ⟨fun σ' H1 => ∃ cell : Int, σ' = [some (.ref a), some (.int n), some (.int (k : Int)), some (.int cell), none] ∧ H1 = H, ?_, ?_⟩
        · refine ⟨.int (k : Int), rfl, .ref a, rfl, a, _, 0, _, rfl, rfl, SqL.of e1, rfl, c, _, rfl, .inl (SqL.of hc), _, _, rfl, rfl, _, rfl, ite2 (fun h1 => ?_) (fun h1 => ?_)⟩
          · have hk : k < cells.length := by
              have := of_decide_eq_true h1
              rw [List.length_map] at this
              omega
            exact ⟨.ref a, rfl, a, _, 0, _, rfl, rfl, SqL.of e1, rfl, .int (k : Int), rfl, c, _, _, .int cells[k], rfl, rfl, SqL.of hc, atI_nat (by rw [List.getElem?_map, List.getElem?_eq_getElem hk]; rfl), cells[k], rfl, rfl⟩
          · refine ⟨.ref a, rfl, a, _, 0, _, rfl, rfl, SqL.of e1, rfl, c, _, rfl, .inl (SqL.of hc), _, _, rfl, rfl, _, rfl, ite2 (fun h2 => ?_) (fun h2 => ?_)⟩
            · have hl0 : 0 < cells.length := by
                have := of_decide_eq_true h2
                rw [List.length_map] at this
                omega
              have j0 := Int.emod_nonneg ((k : Int) * 5 + 3) (show ((cells.length : Nat) : Int) ≠ 0 by omega)
              have j1 := Int.emod_lt_of_pos ((k : Int) * 5 + 3) (show (0 : Int) < ((cells.length : Nat) : Int) by omega)
              obtain ⟨j, hj⟩ := Int.eq_ofNat_of_zero_le j0
              have hjl : j < cells.length := by omega
              refine ⟨.ref a, rfl, a, _, 0, _, rfl, rfl, SqL.of e1, rfl, .int (k : Int), rfl, _, _, rfl, rfl, mulR (by decide) (by decide), _, _, rfl, rfl, .inl ⟨_, rfl, ?_⟩⟩
              refine ⟨.ref a, rfl, a, _, 0, _, rfl, rfl, SqL.of e1, rfl, c, _, rfl, .inl (SqL.of hc), _, _, rfl, rfl, by rw [List.length_map]; omega, ?_⟩
              refine ⟨c, _, ((k : Int) * 5 + 3) % (cells.length : Nat), .int cells[j], rfl, by rw [List.length_map], SqL.of hc, (by rw [hj]; exact atI_nat (by rw [List.getElem?_map, List.getElem?_eq_getElem hjl]; rfl)), .inl ⟨_, rfl, ?_⟩⟩
              refine ⟨_, _, rfl, rfl, pow_ok (a := 10) (n := 17) (by decide) (by decide), .int (k : Int), rfl, _, _, rfl, rfl, _, _, rfl, rfl, ?_, ?_⟩
              · have : (0 : Int) < 10 ^ Int.toNat 17 := by decide
                show (0 : Int) < 10 ^ Int.toNat 17 + (k : Int)
                omega
              · exact ⟨_, rfl, rfl⟩
            · exact ⟨0, rfl, rfl⟩
        · rintro σ' H1 ⟨cell, rfl, rfl⟩
          -- pen[1] = at + 1
          refine ⟨.int (k : Int), rfl, _, _, rfl, rfl, .ref a, rfl, a, _, 1, 1, rfl, rfl, e1, rfl, ?_⟩
          -- pen[2] = _law_spread(cell, at)
          have nO : ∀ {o : HO} (p : Addr), p ∈ O → upd H1 a o p ≠ none := fun {o} p hp z => by
            rw [upd_ne (show p ≠ a from fun y => ha (y ▸ hp))] at z
            exact hl p hp z
          refine ⟨.int cell, rfl, .int (k : Int), rfl, a, O, g + 1, [.val (.int cell), .val (.int (k : Int))], fun d g' => (∃ z, d = .int z) ∧ g' = g + 1, ⟨c, cells, k + 1, rest, ?_, ?_, e3, Nat.succ_le_succ e4⟩, ha, nO, .val (.int _) (.val (.int _) .nil), ⟨cell, k, rfl, by omega, fun z => ⟨⟨z, rfl⟩, rfl⟩⟩, ?_⟩
          · rw [upd_same]
            rfl
          · exact off_in hca (by rw [upd_ne nca]; exact hc)
          · rintro d g' v H' kp ⟨c', cells', k', rest', f1, f2, f3, f4⟩ dv ⟨⟨z, rfl⟩, rfl⟩
            cases dv with
            | int _ =>
            obtain ⟨f1, f2, f3, f4⟩ := (⟨f1, f2, f3, f4⟩ : H' a = _ ∧ _ ∧ _ ∧ _)
            have hca' : c' ∉ a :: O := (off_some.mp f2).1
            have hc' : H' c' = some (.lst (cells'.map V.int)) := (off_some.mp f2).2
            have nca' : c' ≠ a := fun z => hca' (by rw [z]; exact List.mem_cons_self)
            refine ⟨.ref a, rfl, a, _, 2, 2, rfl, rfl, f1, rfl, ?_⟩
            refine ⟨_, _, rfl, ⟨c', cells', k', z, by rw [upd_same]; rfl, off_in hca' (by rw [upd_ne nca']; exact hc'), f3, f4⟩, ?_⟩
            intro b o nb e
            rw [upd_ne nb]
            exact kp b o nb (by rw [upd_ne nb]; exact e)
      · exact ⟨none, none, rfl, ⟨c, cells, k, rest, e1, e2, e3, Nat.le_succ_of_le e4⟩, Kp.refl _ _⟩
    · rintro σ' H1 ⟨y2, y3, rfl, ⟨c1, cells1, k1, rest1, f1, f2, f3, f4⟩, kp⟩
      have hca1 : c1 ∉ a :: O := (off_some.mp f2).1
      have hc1 : H1 c1 = some (.lst (cells1.map V.int)) := (off_some.mp f2).2
      have nca1 : c1 ≠ a := fun z => hca1 (by rw [z]; exact List.mem_cons_self)
      refine ⟨.ref a, rfl, a, _, 2, _, rfl, rfl, SqL.of f1, rfl, .inl ⟨_, rfl, .int n, rfl, _, _, rfl, rfl, hn, ?_⟩⟩
      refine ⟨.ref a, rfl, a, _, 2, _, rfl, rfl, SqL.of f1, rfl, .int n, rfl, _, _, rfl, rfl, ⟨hn, by omega⟩, .ref a, rfl, a, _, 2, 2, rfl, rfl, f1, rfl, .int (rest1 % n), rfl, ?_⟩
      refine q (.int (rest1 % n)) (g + 1) _ _ (fun b o nb e => by rw [upd_ne nb]; exact kp b o nb e) ⟨c1, cells1, k1, rest1 / n, by rw [upd_same]; rfl, off_in hca1 (by rw [upd_ne nca1]; exact hc1), f3, f4⟩ (.int _) (hR _ (Int.emod_nonneg _ (by omega)) (Int.emod_lt_of_pos _ hn))
/-- the pen is made of a script: a new list of a new list of cells, and two noughts -/
def spOpen (K : PySem.W.Frag) : Sp := fun vs H Q _ => ∃ (a : Addr) (ns : List Int), vs = [.ref a] ∧ SqL K H a (ns.map V.int) ∧ ns.length ≤ 63 ∧
  ∀ p H', H p = none → Sub H H' → Pen K p [] 0 H' → Q (.ref p) H'
theorem set_ints (l : List Int) (n : Nat) (y : Int) : (l.map V.int).set n (V.int y) = (l.set n y).map V.int := (List.map_set ..).symm
theorem cut_take (ns : List Int) : cutV (ns.map V.int) none (some 12) = (ns.take 12).map V.int := by
  simp only [cutV, HT.sIx, List.length_map]
  rw [if_neg (by decide), List.drop_zero, Nat.sub_zero, show Int.toNat 12 = 12 from rfl, ← List.map_take]
  congr 1
  by_cases h : 12 ≤ ns.length
  · rw [Nat.min_eq_left h]
  · rw [Nat.min_eq_right (by omega), List.take_length, List.take_of_length_le (by omega)]
theorem cut_mid (ns : List Int) : cutV (ns.map V.int) (some 12) (some 63) = ((ns.drop 12).take 51).map V.int := by
  simp only [cutV, HT.sIx, List.length_map]
  rw [if_neg (by decide), if_neg (by decide), show Int.toNat 12 = 12 from rfl, show Int.toNat 63 = 63 from rfl, ← List.map_drop, ← List.map_take]
  congr 1
  by_cases h : 63 ≤ ns.length
  · rw [Nat.min_eq_left h, Nat.min_eq_left (by omega)]
  · rw [Nat.min_eq_right (by omega)]
    by_cases h2 : 12 ≤ ns.length
    · rw [Nat.min_eq_left h2, List.take_of_length_le (by rw [List.length_drop]; omega), List.take_of_length_le (by rw [List.length_drop]; omega)]
    · rw [Nat.min_eq_right (by omega), List.drop_eq_nil_of_le (Nat.le_refl _), List.drop_eq_nil_of_le (by omega), List.take_nil, List.take_nil]
theorem ok_open (B : Bi mg) (D : Df K mg "_law_open" s__law_open ["script"]) : ∃ (f : Addr) (fd : FuncData), FnOk P w K mg base CX0 1 f fd ["script"] (spOpen K) ∧ L2.Binds K fd ["script"] [] ∧ mg "_law_open" = some (.ref f) ∧ PySem.W.keepIn K (.ref f) = true := by
  obtain ⟨f, fd, F, b, m⟩ := D.ex
  refine ⟨f, fd, F.ok sc__law_open (fun vs H Q E h => ?_) (fun cdv A outer s H vs Q E hr h => ?_), b, m, F.kp⟩
  · obtain ⟨a, ns, rfl, _⟩ := h
    rfl
  · obtain ⟨a, ns, rfl, ha, hl, q⟩ := h
    refine ⟨_, (pss_cons (ps_set (i := 1) sc__law_open.nd rfl (.inl rfl) (pe_callTy call_list_of (by rfl) B.b_list (by decide +kernel) (pa_cons (pe_slice sl_list (pv 0) po_none (po_some pe_int)) pa_nil)))
      (pss_cons (ps_for PassesOwn.never rfl (pi_enum (by rfl) B.b_enumerate (pa_cons (pe_slice sl_list (pv 0) (po_some pe_int) (po_some pe_int)) pa_nil)) (pg_tup rfl (pgs_cons (pg_name (i := 2) sc__law_open.nd rfl (.inl rfl)) (pgs_cons (pg_name (i := 3) sc__law_open.nd rfl (.inl rfl)) pgs_nil)))
        (pss_one (ps_asg (pe_op op_add (pe_ix ix_list (pv 1) (pe_op op_mod (pe_callTy call_int1 (by rfl) B.b_int boot_int' (pa_cons (pv 2) pa_nil)) pe_int) (fun _ _ => rfl)) (pv 3))
          (pg_sub (pv 1) (pe_op op_mod (pe_callTy call_int1 (by rfl) B.b_int boot_int' (pa_cons (pv 2) pa_nil)) pe_int) set_list))))
      (pss_one (ps_ret (pe_lst (pa_cons (pv 1) (pa_cons pe_int (pa_cons pe_int pa_nil)))))))), ?_⟩
    refine ⟨.ref a, rfl, 12, rfl, a, _, rfl, ha, fun p1 hp1 => ?_⟩
    have s1 := sub_upd (o := .lst (cutV (ns.map V.int) none (some 12))) hp1
    refine ⟨p1, _, rfl, .inl (SqL.of upd_same), fun c hc => ?_⟩
    have Hc : H c = none := by
      cases e : H c with
      | none => rfl
      | some o => rw [s1 c o e] at hc; cases hc
    generalize hH1 : upd (upd H p1 (HO.lst (cutV (ns.map V.int) none (some 12)))) c (HO.lst (cutV (ns.map V.int) none (some 12))) = H1
    have s2 : Sub H H1 := by
      rw [← hH1]
      exact s1.trans (sub_upd hc)
    have hc1 : H1 c = some (.lst ((ns.take 12).map V.int)) := by
      rw [← hH1, upd_same, cut_take]
    clear hH1
    refine ⟨.ref a, rfl, 12, rfl, 63, rfl, a, _, rfl, sql_mono s2 ha, fun e he => ⟨e, _, rfl, SqL.of upd_same, ?_⟩⟩
    rw [cut_mid]
    have he1 : upd H1 e (HO.lst (((ns.drop 12).take 51).map V.int)) e = some (HO.lst (((ns.drop 12).take 51).map V.int)) := upd_same
    have hce : c ≠ e := fun z => by
      rw [z, he] at hc1
      cases hc1
    have hc2 : upd H1 e (HO.lst (((ns.drop 12).take 51).map V.int)) c = some (.lst ((ns.take 12).map V.int)) := by rw [upd_ne hce]; exact hc1
    have s3 : Sub H (upd H1 e (HO.lst (((ns.drop 12).take 51).map V.int))) := s2.trans (sub_upd he)
    generalize upd H1 e (HO.lst (((ns.drop 12).take 51).map V.int)) = H2 at he1 hc2 s3 ⊢
    refine ⟨fun i m σ' H' => ∃ (cells : List Int) (y2 y3 : Option V), cells.length = (ns.take 12).length ∧ σ' = [some (.ref a), some (.ref c), y2, y3] ∧ H' c = some (.lst (cells.map V.int)) ∧
      H' e = some (.lst (((ns.drop 12).take 51).map V.int)) ∧ Sub H H' ∧ m = 51 - i, ⟨51, ns.take 12, none, none, rfl, rfl, hc2, he1, s3, rfl⟩, ?_⟩
    rintro i m σ' H' ⟨cells, y2, y3, hlen, rfl, g1, g2, g3, rfl⟩
    by_cases hi : i < ((ns.drop 12).take 51).length
    · have h12 : cells.length = 12 := by
        rw [List.length_take, List.length_drop] at hi
        rw [hlen, List.length_take]
        omega
      have hi51 : i < 51 := by
        rw [List.length_take] at hi
        omega
      refine .inr ⟨⟨_, .int (((ns.drop 12).take 51)[i]), SqL.of g2, by rw [List.getElem?_map, List.getElem?_eq_getElem hi]; rfl⟩, fun σ2 H3 => ∃ (cells : List Int) (y2 y3 : Option V), cells.length = (ns.take 12).length ∧ σ2 = [some (.ref a), some (.ref c), y2, y3] ∧ H3 c = some (.lst (cells.map V.int)) ∧
        H3 e = some (.lst (((ns.drop 12).take 51).map V.int)) ∧ Sub H H3, fun σ2 H3 ⟨x1, x2, x3, x4, x5, x6, x7, x8⟩ => ⟨51 - (i + 1), by omega, x1, x2, x3, x4, x5, x6, x7, x8, rfl⟩, ?_⟩
      rintro x H3 ⟨T, v, rfl, hT, rfl, hv⟩
      have hv := hv _ (SqL.of g2)
      rw [List.getElem?_map, List.getElem?_eq_getElem hi] at hv
      obtain rfl : V.int (((ns.drop 12).take 51)[i]) = v := Option.some.inj hv
      have s4 : Sub H' (upd H' T (.tup [.int (i : Nat), .int (((ns.drop 12).take 51)[i])])) := sub_upd hT
      have gc := s4 _ _ g1
      have ge := s4 _ _ g2
      have gs := g3.trans s4
      have k0 : 0 ≤ ((i : Nat) : Int) % 12 := Int.emod_nonneg _ (by decide)
      have k1 : ((i : Nat) : Int) % 12 < 12 := Int.emod_lt_of_pos _ (by decide)
      obtain ⟨j, hj⟩ := Int.eq_ofNat_of_zero_le k0
      have hjl : j < cells.length := by omega
      refine ⟨T, _, rfl, .inl (.inl upd_same), rfl, _, _, rfl, _, _, rfl, rfl, ?_⟩
      generalize upd H' T (.tup [.int (i : Nat), .int (((ns.drop 12).take 51)[i])]) = H4 at gc ge gs ⊢
      refine ⟨.ref c, rfl, .int (i : Nat), rfl, .inl ⟨_, rfl, _, _, rfl, rfl, (show (0 : Int) < 12 by decide), c, _, ((i : Nat) : Int) % 12, .int cells[j], rfl, rfl, SqL.of gc, (by rw [hj]; exact atI_nat (by rw [List.getElem?_map, List.getElem?_eq_getElem hjl]; rfl)), ?_⟩⟩
      refine ⟨_, rfl, _, _, rfl, rfl, .ref c, rfl, .int (i : Nat), rfl, .inl ⟨_, rfl, _, _, rfl, rfl, (show (0 : Int) < 12 by decide), c, _, ((i : Nat) : Int) % 12, j, rfl, rfl, gc, ?_, ?_⟩⟩
      · rw [List.length_map, hj]
        unfold ixN
        rw [if_pos (by omega), if_pos (by omega), Int.toNat_natCast]
      · refine ⟨cells.set j (cells[j] + (((ns.drop 12).take 51)[i])), _, _, ?_, rfl, ?_, ?_, ?_⟩
        · rw [List.length_set]
          exact hlen
        · rw [upd_same]
          show some (HO.lst ((cells.map V.int).set j (V.int (cells[j] + ((ns.drop 12).take 51)[i])))) = _
          rw [set_ints]
        · rw [upd_ne (Ne.symm hce)]
          exact ge
        · exact fun b o eb => by
            have hb : b ≠ c := fun z => by
              rw [z, Hc] at eb
              cases eb
            rw [upd_ne hb]
            exact gs b o eb
    · refine .inl ⟨⟨_, SqL.of g2, by rw [List.length_map]; omega⟩, .ref c, rfl, ?_⟩
      refine ⟨by show 3 ≤ sizeLine; decide, fun p hp => q p _ ?_ ?_ ?_⟩
      · cases ep : H p with
        | none => rfl
        | some o => rw [g3 p o ep] at hp; cases hp
      · exact g3.trans (sub_upd hp)
      · refine ⟨c, cells, 0, 0, upd_same, off_in ?_ ?_, ?_, Nat.le_refl _⟩
        · intro z
          obtain rfl : c = p := by simpa using z
          rw [g1] at hp
          cases hp
        · rw [upd_ne (ne_of_none g1 hp)]
          exact g1
        · rw [hlen, List.length_take]
          omega
end
end Law
/-! V25: x, y, z = a, b, c: values all. -/
namespace Vl
open PySem PySem.Spec PyProof.Rows L2
section
variable {X : Cx} {a b c : Expr} {pos : Pos} {Wa Wb Wc : WE}
def sPar3V (i j l : Nat) (W1 W2 W3 : WE) : WS := fun V ρ g => W1 ρ g fun d1 g1 => W2 ρ g1 fun d2 g2 => W3 ρ g2 fun d3 g3 => V.nx (((ρ.set i (.val d1)).set j (.val d2)).set l (.val d3)) g3
theorem tS_par3V {K : PySem.W.Frag} {i j l : Nat} {W1 W2 W3 : WE} : ∀ D σ H, tS K (sPar3V i j l W1 W2 W3) D σ H → tPar3 i j l (tCons (tE K W1) (tCons (tE K W2) (tCons (tE K W3) tNil))) D σ H := fun D σ H ⟨a, H0, O0, O, ρ, g, V, r, w, en⟩ =>
  ⟨a, H0, O0, O, ρ, g, _, r, w, fun d1 g1 v1 H1 k1 r1 dd1 w1 => ⟨a, H0, O0, O, ρ, g1, _, r1, w1, fun d2 g2 v2 H2 k2 r2 dd2 w2 => ⟨a, H0, O0, O, ρ, g2, _, r2, w2, fun d3 g3 v3 H3 k3 r3 dd3 w3 =>
    ⟨v1, v2, v3, rfl, en.nx O _ g3 _ H3 (((off_kp k1).trans (off_kp k2)).trans (off_kp k3)) (((r3.setVal ((dd1.to (off_kp k2)).to (off_kp k3))).setVal (dd2.to (off_kp k3))).setVal dd3) w3⟩⟩⟩⟩
theorem vs_par3V (i j l : Nat) {x y z : Str} {px py pz pt : Pos} {kt k2 pt2} (hc : X.calm = true) (hN : X.N.Nodup) (ha : VE X a Wa) (hb : VE X b Wb) (hcc : VE X c Wc) (hi : X.N[i]? = some x := by rfl) (hj : X.N[j]? = some y := by rfl) (hl : X.N[l]? = some z := by rfl) (hij : i ≠ j := by decide) (hil : i ≠ l := by decide) (hjl : j ≠ l := by decide)
    (hx : X.env.scope.names.lookup x = some .local := by rfl) (hy : X.env.scope.names.lookup y = some .local := by rfl) (hz : X.env.scope.names.lookup z = some .local := by rfl) (hw : swappedStores [.Tuple [.Name x px, .Name y py, .Name z pz] kt pt] (.Tuple [a, b, c] k2 pt2) X.env = pure (some [x, y, z]) := by rfl)
    (hs : swapsWithSole [.Tuple [.Name x px, .Name y py, .Name z pz] kt pt] (.Tuple [a, b, c] k2 pt2) pos.line X.env = pure false := by rfl) (h1 : starEach [a, b, c] X.env = (false, eval a X.env) :: starEach [b, c] X.env := by rfl) (h2 : starEach [b, c] X.env = (false, eval b X.env) :: starEach [c] X.env := by rfl) (h3 : starEach [c] X.env = (false, eval c X.env) :: starEach [] X.env := by rfl) :
    VS X (.Assign [.Tuple [.Name x px, .Name y py, .Name z pz] kt pt] (.Tuple [a, b, c] k2 pt2) pos) (sPar3V i j l Wa Wb Wc) := ps_weak (ps_par3 hc hN hi hj hl hij hil hjl hx hy hz (pa_cons ha (pa_cons hb (pa_cons hcc pa_nil h3) h2) h1) hw hs) tS_par3V
end
end Vl
/-! V26: sorted of tuples whose first item is a text, the order told by a number for each item. -/
namespace Vl
open PySem PySem.Spec PyProof.Rows L2
theorem kat_ofT {prog : Program} {w : World} {A : Around} {s : Shared} {xs ys : Array Value} {k : Bool} : ∀ {i : Nat}, LexI A s xs ys k i → 1 ≤ i → PySem.W.KatLex prog w A true (decide (xs.size < ys.size)) (fun r s' => s' = s ∧ r = k) ((xs.toList.zip ys.toList).drop i) i s := by
  intro i h
  have zl : (xs.toList.zip ys.toList).length = min xs.size ys.size := by simp
  induction h with
  | fin h e =>
    intro _
    rw [List.drop_of_length_le (by omega)]
    exact PySem.W.kat_nil ⟨rfl, e.symm⟩
  | @yes i h1 h2 he _ ih =>
    intro hi
    rw [List.drop_eq_getElem_cons (by omega)]
    rw [show (xs.toList.zip ys.toList)[i]'(by omega) = (xs[i], ys[i]) by simp]
    exact PySem.W.kat_cons (he prog w _ _ (PySem.W.kat_yes (ih (by omega))))
  | @no i h1 h2 he hr =>
    intro hi
    rw [List.drop_eq_getElem_cons (by omega)]
    rw [show (xs.toList.zip ys.toList)[i]'(by omega) = (xs[i], ys[i]) by simp]
    refine PySem.W.kat_cons (he prog w _ _ (PySem.W.kat_no ?_))
    rw [show (true && i == 0) = false by cases i with | zero => omega | succ i => rfl]
    exact PySem.W.kat_one _ _ (hr prog w _ _ ⟨rfl, rfl⟩)
theorem katS {prog : Program} {w : World} {A : Around} {s : Shared} {n : Nat} {x y : Str} {xs ys : List PyData} {k : Bool} {vs ws : Array Value} {as bs : List Addr} (c : CmpS n (.str x :: xs) (.str y :: ys) k) (r1 : ReadsAll s.heap vs.toList (.str x :: xs) as) (r2 : ReadsAll s.heap ws.toList (.str y :: ys) bs) (hu : A.units + n + 52 < cLine) :
    PySem.W.KatLex prog w A true (decide (vs.size < ws.size)) (fun r s' => s' = s ∧ r = k) (vs.toList.zip ws.toList) 0 s := by
  generalize hz : vs.toList = z at r1
  generalize hy : ws.toList = u at r2
  cases r1 with
  | @cons v0 vt _ _ _ _ a1 a2 =>
    cases r2 with
    | @cons w0 wt _ _ _ _ b1 b2 =>
      rw [List.zip_cons_cons]
      cases c with
      | same p1 p2 p3 p4 c =>
        have q := SeqAt.eqAt_plain _ _ A s _ _ _ _ a1 b1 p1 p2 (by omega)
        rw [p4] at q
        have e1 : vs.toList.drop 1 = vt := by rw [hz]; rfl
        have e2 : ws.toList.drop 1 = wt := by rw [hy]; rfl
        rw [← e1] at a2
        rw [← e2] at b2
        have s1 : 1 ≤ vs.size := by rw [← Array.length_toList, hz]; simp
        have s2 : 1 ≤ ws.size := by rw [← Array.length_toList, hy]; simp
        have l := kat_ofT (prog := prog) (w := w) (lexR_of (A := A) (vs := vs) (ws := ws) (i := 1) c a2 b2 s1 s2 hu) (Nat.le_refl 1)
        rw [hz, hy, List.zip_cons_cons, List.drop_one, List.tail_cons] at l
        exact PySem.W.kat_cons (q prog w _ _ (PySem.W.kat_yes l))
      | diff p1 p2 p3 p4 c =>
        have q := SeqAt.eqAt_plain _ _ A s _ _ _ _ a1 b1 p1 p2 (by omega)
        rw [p4] at q
        cases c
        cases a1
        cases b1
        exact PySem.W.kat_cons (q prog w _ _ (PySem.W.kat_no (PyProof.Rows.oneLt_str ⟨rfl, rfl⟩)))
/-- what is asked of the items: code tells their order -/
structure OrdS (code : PyData → Int) (ds : List PyData) : Prop where
  nx : ∀ d ∈ ds, noX d = true
  hd : ∀ d ∈ ds, ∃ x r, d = .tuple (.str x :: r)
  cmp : ∀ d ∈ ds, ∀ e ∈ ds, CmpR 5 d e (decide (code d < code e))
def rSortS (K : PySem.W.Frag) (code : PyData → Int) : List V → Hp → VK → Prop := fun vs H Q => ∃ (a : Addr) (xs : List V) (ds : List PyData) (B : List Addr), vs = [V.ref a] ∧ SqL K H a xs ∧ DqAll K (Off B H) xs ds ∧ OrdS code ds ∧
  ∀ (ys : List V) (es : List PyData) (p : Addr), es.Perm ds → es.Pairwise (fun d e => code d ≤ code e) → DqAll K (Off B H) ys es → H p = none → Q (.ref p) (upd H p (.lst ys))
section
variable {X : Cx}
theorem call_sortS {code : PyData → Int} (hu : X.A.units + 64 < cLine) : CallR X (.builtin "sorted") (rSortS X.K code) := by
  intro pins s σ H vs us Q I r h
  obtain ⟨a, xs, ds, B, rfl, hs, hd, ho, q⟩ := h
  obtain ⟨its, rv, hl, hz⟩ := I.list hs
  rw [Vals.ref1 r]
  obtain ⟨zs, e1, e2, e3, hzs⟩ := side hd rv
  have hlen : its.length ≤ sizeLine := by rw [← rv.length]; exact hz
  have rdz : ∀ z ∈ zs, ∃ as, Reads s.heap z.2.2 z.2.1 as := fun z hzm =>
    Dq.reads I z.2.1 z.1 z.2.2 (ho.nx _ (by rw [e2]; exact List.mem_map.mpr ⟨z, hzm, rfl⟩)) ((hzs z hzm).1.to off_out) (hzs z hzm).2
  have rd : ∀ v ∈ its, ∃ d ∈ ds, ∃ as, Reads s.heap v d as := fun v hv => by
    rw [e3] at hv
    obtain ⟨z, hzm, rfl⟩ := List.mem_map.mp hv
    obtain ⟨as, ra⟩ := rdz z hzm
    exact ⟨_, by rw [e2]; exact List.mem_map.mpr ⟨z, hzm, rfl⟩, as, ra⟩
  refine SrtO.sorted_ord (ltv := ltC code s.heap) ltC_swo hl.isList hlen (fun h2 h1 b hb keep => ?_) (fun out hsrt hstb => ?_)
  · intro h' keep2
    have kk : ∀ b o, s.heap.get? b = some o → h'.get? b = some o := fun b o e => keep2 b o (keep b o e).1 (keep b o e).2
    have firsts : ∀ l : List Value, (∀ v ∈ l, v ∈ its) → ∃ fs, PySem.W.KatTups h' l fs ∧ fs.length = l.length ∧ ∀ f ∈ fs, ∃ x t, f = .str x t := by
      intro l
      induction l with
      | nil => exact fun _ => ⟨[], PySem.W.KatTups.nil, rfl, fun _ h => (nomatch h)⟩
      | cons v l ih =>
        intro hm
        obtain ⟨fs, f1, f2, f3⟩ := ih fun x hx => hm x (List.mem_cons_of_mem _ hx)
        obtain ⟨d, hdm, as, ra⟩ := rd v (hm v List.mem_cons_self)
        obtain ⟨z, rr, rfl⟩ := ho.hd d hdm
        cases ra with
        | @tuple a0 o vs0 n _ _ g1 g2 g3 g4 =>
          generalize hw : vs0.toList = w0 at g4
          cases g4 with
          | @cons f0 _ _ _ _ _ c1 c2 =>
            cases c1
            refine ⟨_ :: fs, PySem.W.KatTups.cons (kk _ _ g1) g2 g3 (by rw [← Array.getElem?_toList, hw]; rfl) f1, by rw [List.length_cons, List.length_cons, f2], fun f hf => ?_⟩
            rcases List.mem_cons.mp hf with rfl | hf
            · exact ⟨_, _, rfl⟩
            · exact f3 f hf
    obtain ⟨fs, f1, f2, f3⟩ := firsts its fun _ h => h
    refine ⟨tuples' (Value.type "str" != Value.type "tuple"), fun Q' E' q' => ?_, ?_⟩
    · refine PySem.W.kat_kind (T := .type "str") f1 (by omega) (fun f hf => ?_) (by decide +kernel) q'
      obtain ⟨x, t, rfl⟩ := f3 f hf
      exact .now
    · intro p q' hp hq
      obtain ⟨d, hdm, as, ra⟩ := rd _ hp
      obtain ⟨e, hem, bs, rb⟩ := rd _ hq
      have ra' := Reads.keeps kk ra
      have rb' := Reads.keeps kk rb
      have c := ho.cmp d hdm e hem
      have ek : SrtO.lt2 (ltC code s.heap) p q' = decide (code d < code e) := by
        show decide (codeAt code s.heap p.1 < codeAt code s.heap q'.1) = _
        rw [codeAt_eq ra, codeAt_eq rb]
      rw [ek]
      clear ek
      obtain ⟨z1, r1, rfl⟩ := ho.hd d hdm
      obtain ⟨z2, r2, rfl⟩ := ho.hd e hem
      generalize p.1 = pv at ra'
      generalize q'.1 = qv at rb'
      cases ra' with
      | @tuple a0 o vs0 n _ _ g1 g2 g3 g4 =>
        cases rb' with
        | @tuple b0 o' ws0 n' _ _ k1 k2 k3 k4 =>
          generalize decide (code (.tuple (.str z1 :: r1)) < code (.tuple (.str z2 :: r2))) = k at c ⊢
          cases c with
          | tup c =>
            exact PySem.W.kat_lt g1 g3 k1 k3 (katS (s := { s with heap := h' }) (A := X.A.in1.in1) c g4 k4 (by show X.A.units + 1 + 1 + 4 + 52 < cLine; omega))
  · obtain ⟨zs', hzp, rfl⟩ := Vl.perm_lift (fun z : V × PyData × Value => z.2.2) hstb.perm zs e3
    obtain ⟨ep, he'⟩ := PyProof.Rows.sortedAll_at s.heap its (zs'.map (·.2.2)).toArray
    have hz' : ∀ z ∈ zs', Dq X.K (Off B H) z.1 z.2.1 ∧ RelV z.1 z.2.2 := fun z hz => hzs z (hzp.mem_iff.mp hz)
    obtain ⟨dq, vl⟩ := side_dq hz'
    have hl2 : (zs'.map (·.1)).length ≤ sizeLine := by
      rw [List.length_map, hzp.length_eq]
      rw [e3, List.length_map] at hlen
      exact hlen
    refine ⟨.ref _, upd H (s.heap.objs.size + 1) (.lst (zs'.map (·.1))), I.laid (t' := s.toks) (fun _ _ => PyProof.Rows.sortedAll_old) (Nat.le_succ _) ⟨hl2, zs'.map (·.2.2), ep, vl, he'⟩, rfl, q _ _ _ ?_ ?_ dq (I.hok.fresh (Nat.le_succ _))⟩
    · rw [e2]
      exact hzp.map _
    · have h0 := List.pairwise_map.mp hsrt
      refine List.pairwise_map.mpr (h0.imp_of_mem fun {x y} hx hy hxy => ?_)
      obtain ⟨as, ra⟩ := rdz x (hzp.mem_iff.mp hx)
      obtain ⟨bs, rb⟩ := rdz y (hzp.mem_iff.mp hy)
      have := of_decide_eq_false hxy
      rw [codeAt_eq ra, codeAt_eq rb] at this
      show code x.2.1 ≤ code y.2.1
      omega
variable {e : Expr} {pos : Pos} {W : WE}
def lSortS (code : PyData → Int) (W : WE) : WL := fun ρ g R => W ρ g fun d g1 => ∃ xs, d = .list xs ∧ OrdS code xs ∧ ∀ ys, ys.Perm xs → ys.Pairwise (fun d e => code d ≤ code e) → R ys g1
theorem vl_sortedS {p : Pos} (code : PyData → Int) (hu : X.A.units + 64 < cLine) (hg : Gl X "sorted") (hm : X.mg "sorted" = none) (he : VE X e W) (hv : bootBuiltins "sorted" = some (.builtin "sorted") := by decide +kernel) (hs : starEach [e] X.env = (false, eval e X.env) :: starEach [] X.env := by rfl) :
    VL X (.Call (.Name "sorted" p) [e] [] pos) (lSortS code W) :=
  pe_weak (pe_callB (call_sortS (code := code) hu) hg hm hv (pa_cons he pa_nil hs) (by decide) (by decide) hs rfl) fun σ H Q ⟨a, H0, O0, O, ρ, g, R, r, w, q⟩ => ⟨a, H0, O0, O, ρ, g, _, r, w, fun d g1 v H1 k1 r1 d1 w1 => by
    obtain ⟨xs, rfl, ho, w1⟩ := w1
    cases d1 with
    | @lst l vs _ h1 h2 =>
      refine ⟨l, vs, xs, a :: O, rfl, SqL.of (off_out _ _ h1), h2, ho, fun ys es p hp hps hd hn => ?_⟩
      have h0 : H p = none := by
        cases e : H p with
        | none => rfl
        | some o =>
          by_cases z : p = a
          · exact absurd hn (r1.liveA p (by rw [z]; exact List.mem_cons_self))
          · rw [k1 p o z e] at hn
            cases hn
      exact q es g1 p ys _ (k1.trans (Kp.of (sub_upd hn))) (r1.hide hn) h0 upd_same (hd.to (off_new hn)) (w1 es hp hps)⟩
end
end Vl
/-! V27: a comprehension, two lists, a third place stored as a slot's own list. -/
namespace Vl
open PySem PySem.Spec PyProof.Rows L2
section
variable {X : Cx} {a b c iter tg elt : Expr} {ifs : List Expr} {pos : Pos} {Wa Wb : WE}
theorem vs_ownLc (i : Nat) {y : Str} {py spos : Pos} {scope : Scope} {own : List (Str × Nat)} {WI : WL} {js : List Nat} {G : WG} {T : WT} {E : WE} (hc : X.calm = true) (hN : X.N.Nodup) (hi : VI X tg iter WI) (ok : BlkOk X.N X.env.scope scope own)
    (hg : ∀ (s : Shared) (H : Hp) (C : Addr) (cl : List (Str × Addr)) (fp : List Addr), VG (X.blk s H scope (compEnvC scope cl C X.env) fp) tg js G) (ht : ∀ (s : Shared) (H : Hp) (C : Addr) (cl : List (Str × Addr)) (fp : List Addr), VTs (X.blk s H scope (compEnvC scope cl C X.env) fp) ifs T)
    (he : ∀ (s : Shared) (H : Hp) (C : Addr) (cl : List (Str × Addr)) (fp : List Addr), VE (X.blk s H scope (compEnvC scope cl C X.env) fp) elt E) (hy : X.N[i]? = some y := by rfl) (hyl : X.env.scope.names.lookup y = some .local := by rfl)
    (hsw : swapsWith (.ListComp elt [⟨tg, iter, ifs, 0⟩] scope pos) (some (.Name y py)) spos.line X.env = pure true := by exact sw_true rfl rfl rfl (by decide +kernel)) (hj : ∀ j ∈ js, j ∈ own.map (·.2) := by decide) (hs : ∀ x, foldedSetIterable iter X.env x = pure x := by intro _; rfl) :
    VS X (.Assign [.Name y py] (.ListComp elt [⟨tg, iter, ifs, 0⟩] scope pos) spos) (sOwn i (lLc WI G T E (own.map (·.2)))) :=
  ps_weak (ps_setLc hc hN hy hyl hsw hi ok hg ht he hs) fun D σ H h => by
    have h' := tS_own D σ H h
    exact tL_lc hj σ H _ h'
def sPar3L (i j l : Nat) (W1 W2 : WE) (W3 : WL) : WS := fun V ρ g => W1 ρ g fun d1 g1 => W2 ρ g1 fun d2 g2 => W3 ρ g2 fun ds g3 => V.nx (((ρ.set i (.val d1)).set j (.val d2)).set l (.own ds)) g3
theorem tS_par3L {K : PySem.W.Frag} {i j l : Nat} {W1 W2 : WE} {W3 : WL} : ∀ D σ H, tS K (sPar3L i j l W1 W2 W3) D σ H → tPar3 i j l (tCons (tE K W1) (tCons (tE K W2) (tCons (tL K W3) tNil))) D σ H := fun D σ H ⟨a, H0, O0, O, ρ, g, V, r, w, en⟩ =>
  ⟨a, H0, O0, O, ρ, g, _, r, w, fun d1 g1 v1 H1 k1 r1 dd1 w1 => ⟨a, H0, O0, O, ρ, g1, _, r1, w1, fun d2 g2 v2 H2 k2 r2 dd2 w2 => ⟨a, H0, O0, O, ρ, g2, _, r2, w2, fun ds g3 p xs H3 k3 r3 hp hx d3 w3 => by
    refine ⟨v1, v2, .ref p, rfl, en.nx (p :: O) _ g3 _ H3 (((off_kp k1).trans (off_kp k2)).trans (off_born (K := K) k3 hp)) (((r3.setVal ((dd1.to (off_kp k2)).to (off_born (K := K) k3 hp))).setVal (dd2.to (off_born (K := K) k3 hp))).setOwn List.mem_cons_self (r2.freshH hp) hx d3 fun m es hm hs e => ?_) w3⟩
    rcases set_slot hs with ⟨_, z, _⟩ | ⟨hj, hs⟩
    · cases z
    · rw [List.getElem?_set_ne hj] at e
      rcases set_slot hs with ⟨_, z, _⟩ | ⟨hj, hs⟩
      · cases z
      · rw [List.getElem?_set_ne hj] at e
        obtain ⟨q, _, e', hq, _⟩ := r2.slot m _ hs
        rw [e] at e'
        cases e'
        exact r2.live p hq hp⟩⟩⟩
theorem vs_par3L (i j l : Nat) {x y z : Str} {px py pz pt : Pos} {kt k2 pt2} {V : WL} (hc : X.calm = true) (hN : X.N.Nodup) (ha : VE X a Wa) (hb : VE X b Wb) (hcc : VL X c V) (hi : X.N[i]? = some x := by rfl) (hj : X.N[j]? = some y := by rfl) (hl : X.N[l]? = some z := by rfl) (hij : i ≠ j := by decide) (hil : i ≠ l := by decide) (hjl : j ≠ l := by decide)
    (hx : X.env.scope.names.lookup x = some .local := by rfl) (hy : X.env.scope.names.lookup y = some .local := by rfl) (hz : X.env.scope.names.lookup z = some .local := by rfl) (hw : swappedStores [.Tuple [.Name x px, .Name y py, .Name z pz] kt pt] (.Tuple [a, b, c] k2 pt2) X.env = pure (some [x, y, z]) := by rfl)
    (hs : swapsWithSole [.Tuple [.Name x px, .Name y py, .Name z pz] kt pt] (.Tuple [a, b, c] k2 pt2) pos.line X.env = pure false := by rfl) (h1 : starEach [a, b, c] X.env = (false, eval a X.env) :: starEach [b, c] X.env := by rfl) (h2 : starEach [b, c] X.env = (false, eval b X.env) :: starEach [c] X.env := by rfl) (h3 : starEach [c] X.env = (false, eval c X.env) :: starEach [] X.env := by rfl) :
    VS X (.Assign [.Tuple [.Name x px, .Name y py, .Name z pz] kt pt] (.Tuple [a, b, c] k2 pt2) pos) (sPar3L i j l Wa Wb V) := ps_weak (ps_par3 hc hN hi hj hl hij hil hjl hx hy hz (pa_cons ha (pa_cons hb (pa_cons hcc pa_nil h3) h2) h1) hw hs) tS_par3L
def sPar2OO (i j : Nat) (W1 W2 : WL) : WS := fun V ρ g => W1 ρ g fun ds g1 => W2 ρ g1 fun es g2 => V.nx ((ρ.set i (.own ds)).set j (.own es)) g2
theorem tS_par2OO {K : PySem.W.Frag} {i j : Nat} (hij : i ≠ j) {W1 W2 : WL} : ∀ D σ H, tS K (sPar2OO i j W1 W2) D σ H → tPar i j (tCons (tL K W1) (tCons (tL K W2) tNil)) D σ H := fun D σ H ⟨a, H0, O0, O, ρ, g, V, r, w, en⟩ =>
  ⟨a, H0, O0, O, ρ, g, _, r, w, fun ds g1 p xs H1 k1 r1 hp hx d1 w1 => ⟨a, H0, O0, p :: O, ρ, g1, _, r1, w1, fun es g2 p2 ys H2 k2 r2 hp2 hy d2 w2 => by
    have npa : p ≠ a := fun z => r.pen.live (z ▸ hp)
    have npp : p ≠ p2 := fun z => by rw [← z, hx] at hp2; cases hp2
    refine ⟨.ref p, .ref p2, rfl, en.nx (p2 :: p :: O) _ g2 _ H2 (fun b o e => ?_) (((r2.setOwn (List.mem_cons_of_mem _ List.mem_cons_self) (r.freshH hp) (k2 p _ npa hx) (d1.to (off_born (K := K) k2 hp2)) fun m fs hm hs e => ?_)).setOwn List.mem_cons_self (r1.freshH hp2) hy d2 fun m fs hm hs e => ?_) w2⟩
    · obtain ⟨n, e⟩ := off_some.mp e
      have na : b ≠ a := fun z => n (by rw [z]; exact List.mem_cons_self)
      have e1 := k1 b o na e
      refine off_in (fun z => ?_) (k2 b o na e1)
      rcases List.mem_cons.mp z with z | z
      · exact na z
      · rcases List.mem_cons.mp z with z | z
        · rw [z, hp2] at e1
          cases e1
        · rcases List.mem_cons.mp z with z | z
          · rw [z, hp] at e
            cases e
          · exact n (List.mem_cons_of_mem _ z)
    · obtain ⟨q, _, e', hq, _⟩ := r.slot m _ hs
      rw [e] at e'
      cases e'
      exact r.live p hq hp
    · rcases set_slot hs with ⟨rfl, _, _⟩ | ⟨hj, hs⟩
      · rw [List.getElem?_set_self (by
          have := (List.getElem?_eq_some_iff.mp e).1
          rw [List.length_set] at this
          exact this)] at e
        injection e with e
        injection e with e
        injection e with e
        exact npp e
      · rw [List.getElem?_set_ne hj] at e
        obtain ⟨q, _, e', hq, _⟩ := r1.slot m _ hs
        rw [e] at e'
        cases e'
        exact r1.live p2 hq hp2⟩⟩
theorem vs_par2OO (i j : Nat) {x y : Str} {px py pt : Pos} {kt k2 pt2} {V1 V2 : WL} (hc : X.calm = true) (hN : X.N.Nodup) (ha : VL X a V1) (hb : VL X b V2) (hi : X.N[i]? = some x := by rfl) (hj : X.N[j]? = some y := by rfl) (hij : i ≠ j := by decide)
    (hx : X.env.scope.names.lookup x = some .local := by rfl) (hy : X.env.scope.names.lookup y = some .local := by rfl) (hw : swappedStores [.Tuple [.Name x px, .Name y py] kt pt] (.Tuple [a, b] k2 pt2) X.env = pure (some [x, y]) := by rfl)
    (hs : swapsWithSole [.Tuple [.Name x px, .Name y py] kt pt] (.Tuple [a, b] k2 pt2) pos.line X.env = pure false := by rfl) (h1 : starEach [a, b] X.env = (false, eval a X.env) :: starEach [b] X.env := by rfl) (h2 : starEach [b] X.env = (false, eval b X.env) :: starEach [] X.env := by rfl) :
    VS X (.Assign [.Tuple [.Name x px, .Name y py] kt pt] (.Tuple [a, b] k2 pt2) pos) (sPar2OO i j V1 V2) := ps_weak (ps_par hc hN hi hj hij hx hy (pa_cons ha (pa_cons hb pa_nil h2) h1) hw hs) (tS_par2OO hij)
end
end Vl
/-! V28: a tuple times 0, 1 or more. -/
namespace Vl
open PySem PySem.Spec PyProof.Rows L2
theorem mul_zero_meets (l : Addr) (items : Array Value) (n : Nat) (dd : Option Addr) (sl : Array (Option Value)) (u : Tok) (hne : items.isEmpty = false) :
    Meets (Builtin.«tuple.__mul__» ⟨[.ref l, .int 0 u], []⟩) (fun _ R s => s.heap.get? l = some { cls := .type "tuple", dict := dd, data := .seq items n, slots := sl } ∧ R (.ok (.ret (Value.ref s.heap.objs.size))) { s with heap := s.heap.push { cls := Value.type "tuple", data := Data.seq #[] }, toks := s.toks }) :=
  .of_wp fun prog w A R s h => by
    obtain ⟨hp, g, d, tk, os⟩ := s
    obtain ⟨hl, h⟩ := h
    have f1 := AutoSeq1.idx_int
    wp_walk using AutoSeq1.wpAny_loadPart' hl
    exact ⟨_, rfl, h⟩
def rRep0 (K : PySem.W.Frag) : R2 := fun x y H Q => ∃ l xs, x = .ref l ∧ y = .int 0 ∧ SqT K H l xs ∧ xs ≠ [] ∧ ∀ p, H p = none → Q (.ref p) (upd H p (.tup []))
theorem op_rep0 {X : Cx} : OpR X (binaryOp .Mult) (rRep0 X.K) := by
  intro pins s σ H x y v u Q I rx ry h
  obtain ⟨l, xs, rfl, rfl, hT, hne, q⟩ := h
  cases rx
  obtain ⟨t, rfl⟩ := ry
  obtain ⟨its, r, ⟨⟨cls, dd, data, sl⟩, ho, hc, n, hd⟩, _⟩ := I.tuple hT
  simp only at hc hd
  subst hc hd
  have hle : its.length = xs.length := r.length.symm
  have hi : its.toArray.isEmpty = false := by
    cases its with
    | nil => exact absurd (List.eq_nil_of_length_eq_zero hle.symm) hne
    | cons a b => rfl
  refine wpAny_binaryOp_repeat_ref (T := "tuple") (U := "int") (by decide) ⟨_, ho, rfl⟩ (fun s' => typeIs_int s' 0 t) noFill_tuple_mul F.fills_int_mul F.slot_int_rmul repeat_tuple F.slot_int_index.lookup ?_
  exact call_meets F.slot_int_rmul (typeIs_int s 0 t) F.entry_int_rmul (F.args_int_rmul_2 _ _) (int_rmul_tuple 0 t l its.toArray n dd sl) ⟨ho, rfl, ⟨_, ho, rfl⟩, call_meets F.slot_tuple_mul ⟨_, ho, rfl⟩ F.entry_tuple_mul (F.args_tuple_mul_2 _ _) (mul_zero_meets l its.toArray n dd sl t hi)
    ⟨ho, ⟨.ref s.heap.objs.size, _, I.laid (t' := s.toks) (o := .tup []) (fun b ob q => Heap.get?_push_of_some _ q) (Nat.le_refl _) ⟨by show 0 ≤ sizeLine; decide, [], .nil, IsTup.new _ _⟩, rfl, q _ (I.hok.fresh (Nat.le_refl _))⟩⟩⟩
def fMulT0 : F2 := fun x y R => match x, y with
  | .tuple xs, .int k => (0 ≤ k ∧ k ≤ 1000 ∧ xs ≠ [] ∧ xs.length ≤ 1000) ∧ R (.tuple (List.replicate k.toNat xs).flatten)
  | _, _ => False
theorem e_mulT0 {xs : List PyData} {i : Int} {R : PyData → Prop} : fMulT0 (.tuple xs) (.int i) R = ((0 ≤ i ∧ i ≤ 1000 ∧ xs ≠ [] ∧ xs.length ≤ 1000) ∧ R (.tuple (List.replicate i.toNat xs).flatten)) := rfl
theorem opS_mulT0 {K : PySem.W.Frag} : OpS K (fun x y H Q => rMulT K x y H Q ∨ rRep0 K x y H Q) fMulT0 := fun A H x y dx dy R Q hA hx hy w q => by
  cases dx <;> try exact w.elim
  rename_i ds
  cases dy <;> try exact w.elim
  rename_i k
  obtain ⟨⟨h1, h2, h3, h4⟩, w⟩ := w
  by_cases hk : k = 0
  · subst hk
    cases hx with
    | @tup a vs _ ha hv =>
      cases hy
      refine .inr ⟨a, vs, rfl, rfl, sqt_mono off_out ha, fun z => h3 ?_, fun p hp => ?_⟩
      · subst z
        cases hv
        rfl
      · exact q _ _ _ (sub_upd hp) (.tup (.inl (.inl (off_upd hA hp))) .nil) w
  · exact .inl (opS_mulT A H x y (.tuple ds) (.int k) R Q hA hx hy ⟨⟨by omega, h2, h3, h4⟩, w⟩ q)
section
variable {X : Cx} {a b : Expr} {pos : Pos} {Wa Wb : WE}
theorem v_mulT0 (ha : VE X a Wa) (hb : VE X b Wb) : VE X (.BinOp a .Mult b pos) (wOp fMulT0 Wa Wb) := v_bin ((op_repT.or op_rep1).or op_rep0) opS_mulT0 ha hb
end
end Vl
/-! V29: sorted(set(t)), t a tuple of texts. -/
namespace Vl
open PySem PySem.Spec PyProof.Rows L2
/-- a set that was made just now -/
abbrev NewSet (w : World) : Obj := { cls := .type "set", dict := none, data := .set #[] 0 (.fresh 0 0 (!w.params.followText "set-order")) }
def txtOf (e : Int × Value) : Str := match e.2 with
  | .str x _ => x
  | _ => Str.empty
def TxtE (w : World) (e : Int × Value) : Prop := ∃ x tk, e.2 = Value.str x tk ∧ e.1 = hashStr w x
/-- the set of texts at a: its members zs, each once, in some order -/
def SetX (w : World) (h : Heap) (a : Addr) (zs : List Str) : Prop :=
  ∃ o rows ep tb, h.get? a = some o ∧ o.ExactSet ∧ o.data = .set rows ep tb ∧ (∀ e ∈ rows.toList, TxtE w e) ∧ (rows.toList.map txtOf).Perm zs ∧ zs.Nodup ∧ zs.length < scanBound ∧ tb.fits rows.size = true ∧ Ris tb.place.toList ∧
    (w.params.followText "set-order" = true ∨ tb.led = true)
section
variable {P : Program} {w : World} {h h' : Heap} {a : Addr} {zs : List Str}
theorem SetX.move (R : SetX w h a zs) (k : ∀ o, h.get? a = some o → h'.get? a = some o) : SetX w h' a zs := by
  obtain ⟨o, rows, ep, tb, ho, more⟩ := R
  exact ⟨o, rows, ep, tb, k o ho, more⟩
theorem txt_elems {l : List (Int × Value)} (g : ∀ e ∈ l, TxtE w e) : ElemsOf (PySem.strKind P w) l := fun e he => by
  obtain ⟨x, tk, e1, e2⟩ := g e he
  refine ⟨⟨x, ?_, e2⟩, ?_⟩
  · rw [e1]; exact PySem.strKind_is P w x tk
  · rw [e1]; rfl
theorem txt_is {e : Int × Value} (g : TxtE w e) (x : Str) : (PySem.strKind P w).is x e.2 = true ↔ txtOf e = x := by
  obtain ⟨y, tk, e1, _⟩ := g
  unfold txtOf
  rw [e1]
  constructor
  · intro q
    obtain ⟨t, e⟩ := Value.isStrOf_shape (x := x) (v := .str y tk) q
    cases e
    rfl
  · intro q
    subst q
    exact PySem.strKind_is P w _ tk
theorem fresh_X (ho : h.get? a = some (NewSet w)) : SetX w h a [] :=
  ⟨_, #[], 0, _, ho, ⟨rfl, rfl, rfl⟩, rfl, (fun e he => by cases he), List.Perm.nil, List.Pairwise.nil, (by decide), (by rfl), List.Pairwise.nil, by
    by_cases q : w.params.followText "set-order" = true
    · exact Or.inl q
    · refine Or.inr ?_
      show (!w.params.followText "set-order") = true
      simpa using q⟩
end
section
variable {P : Program} {w : World} {A : Around} {E : Value → Shared → Prop} {s : Shared} {a : Addr} {zs : List Str}
/-- the rows are laid down; perhaps they are laid anew in more places -/
theorem addX_end {rg : Bool → Sem Unit} (hrg : ∀ (b : Bool) (u : Shared) (Z : Unit → Shared → Prop), Z () u → wpAny (model P w) A (rg b) Z E u)
    {o : Obj} {rows rows1 : Array (Int × Value)} {ep : Nat} {tb tb1 : SetTable} {us : List Str} (ho : s.heap.get? a = some o) (hex : o.ExactSet) (hd : o.data = .set rows ep tb)
    (g1 : ∀ e ∈ rows1.toList, TxtE w e) (pm : (rows1.toList.map txtOf).Perm us) (nd : us.Nodup) (few : us.length < scanBound) (fit : tb1.fits rows1.size = true) (ris : Ris tb1.place.toList)
    (led : w.params.followText "set-order" = true ∨ tb1.led = true) {old : Bool} {Z : Option Bool → Shared → Prop} (q : ∀ h1, Heap.SameBut a s.heap h1 → SetX w h1 a us → Z (some true) { s with heap := h1 }) :
    wpAny (model P w) A (do
        storeSet a rows1 tb1
        if (!old && tb1.tooFull) = true then do
            rg (relayAll tb1 rows1 (SetTable.grown rows1.size)).2.2
            storeSet a (relayAll tb1 rows1 (SetTable.grown rows1.size)).1 (relayAll tb1 rows1 (SetTable.grown rows1.size)).2.1
            pure (some true)
          else pure (some true)) Z E s := by
  have few1 : rows1.size < scanBound := by
    have e := pm.length_eq
    rw [List.length_map, Array.length_toList] at e
    omega
  refine wpAny_bind (wpAny_storeSet_of ho hd ?_ (fits_of_scanBound few1))
  have at1 := store_at (es' := rows1) (t' := tb1) ho hd
  have sb := Heap.SameBut.update s.heap a (Obj.putSet rows1 tb1)
  by_cases full : (!old && tb1.tooFull) = true
  · rw [if_pos full]
    have p2 := relayAll_perm tb1 rows1 (SetTable.grown rows1.size)
    have f2 := relayAll_fits tb1 rows1 (SetTable.grown rows1.size)
    have r2 := relayAll_ris tb1 rows1 (SetTable.grown rows1.size)
    have l2 := relayAll_led tb1 rows1 (SetTable.grown rows1.size)
    generalize relayAll tb1 rows1 (SetTable.grown rows1.size) = all at p2 f2 r2 l2 ⊢
    obtain ⟨rows2, tb2, gv⟩ := all
    dsimp only at p2 f2 r2 l2 ⊢
    have few2 : rows2.size < scanBound := by
      have e := p2.length_eq
      rw [Array.length_toList, Array.length_toList] at e
      omega
    refine wpAny_bind (hrg _ _ _ ?_)
    refine wpAny_bind (wpAny_storeSet_of at1 rfl ?_ (fits_of_scanBound few2))
    refine wpAny_pure (q _ (sb.trans (Heap.SameBut.update _ a _)) ⟨_, rows2, _, tb2, store_at (es' := rows2) (t' := tb2) at1 rfl, hex, rfl, fun e he => g1 e (p2.mem_iff.mp he), (p2.map txtOf).trans pm, nd, few, f2, r2, ?_⟩)
    rcases led with z | z
    · exact Or.inl z
    · exact Or.inr (l2.trans z)
  · rw [if_neg full]
    exact wpAny_pure (q _ sb ⟨_, rows1, _, tb1, at1, hex, rfl, g1, pm, nd, few, fit, ris, led⟩)
theorem addX {x : Str} {tk : Tok} {Z : Bool → Shared → Prop} (R : SetX w s.heap a zs) (room : zs.length + 1 < scanBound)
    (q : ∀ h1 b, Heap.SameBut a s.heap h1 → SetX w h1 a (if x ∈ zs then zs else x :: zs) → Z b { s with heap := h1 }) :
    wpAny (model P w) A (setAddHashed a (.str x tk) ((PySem.strKind P w).hash x)) Z E s := by
  obtain ⟨o, rows, ep, tb, ho, hex, hd, g, pm, nd, few, fit, ris, led⟩ := R
  have hkey : (PySem.strKind P w).is x (.str x tk) = true := PySem.strKind_is P w x tk
  have hsc : (Value.str x tk).scannable = true := rfl
  have hel : ElemsOf (PySem.strKind P w) rows.toList := txt_elems g
  have fewR : rows.size < scanBound := by
    have e := pm.length_eq
    rw [List.length_map, Array.length_toList] at e
    omega
  unfold setAddHashed setAddHashedIn
  refine wpAny_holding (wpAny_bind (wpAny_setState_of ho hd fit ?_))
  dsimp only
  rw [byScan_of hsc fewR hel, if_pos rfl]
  unfold setAddByScan
  refine wpAny_bind (wpAny_bind (wpAny_rule (wpAny_bind (wpAny_setScan_of hkey ho hd fit hel ?_))))
  have hin : x ∈ zs ↔ ∃ e ∈ rows.toList, (PySem.strKind P w).is x e.2 = true := by
    rw [← pm.mem_iff, List.mem_map]
    exact ⟨fun ⟨e, he, z⟩ => ⟨e, he, (txt_is (g e he) x).mpr z⟩, fun ⟨e, he, z⟩ => ⟨e, he, (txt_is (g e he) x).mp z⟩⟩
  cases hf : List.findIdx? (fun e => (PySem.strKind P w).is x e.2) rows.toList with
  | some j =>
    dsimp only
    obtain ⟨hj, pj, _⟩ := List.findIdx?_eq_some_iff_getElem.mp hf
    have hx : x ∈ zs := hin.mpr ⟨_, List.getElem_mem hj, pj⟩
    refine wpAny_pure (wpAny_pure (q s.heap _ (Heap.SameBut.refl a s.heap) ?_))
    rw [if_pos hx]
    exact ⟨o, rows, ep, tb, ho, hex, hd, g, pm, nd, few, fit, ris, led⟩
  | none =>
    dsimp only
    have hx : x ∉ zs := fun z => by
      obtain ⟨e, he, y⟩ := hin.mp z
      have c := List.findIdx?_eq_none_iff.mp hf e he
      rw [y] at c
      cases c
    rw [if_neg hx] at q
    have way : ∀ (b : Bool) (u : Shared) (Y : Unit → Shared → Prop), Y () u → wpAny (model P w) A (match b with | true => rule "set.scan.the-table-gave-way" | false => pure ()) Y E u := fun b u Y y => by
      cases b
      · exact wpAny_pure y
      · exact wpAny_rule y
    have p1 := layNew_perm tb rows ((PySem.strKind P w).hash x) (.str x tk)
    have f1 := layNew_fits tb rows ((PySem.strKind P w).hash x) (.str x tk)
    have r1 := layNew_ris tb rows ((PySem.strKind P w).hash x) (.str x tk) ris
    have l1 := layNew_led tb rows ((PySem.strKind P w).hash x) (.str x tk)
    generalize layNew tb rows ((PySem.strKind P w).hash x) (.str x tk) = laid at p1 f1 r1 l1 ⊢
    obtain ⟨rows1, tb1, old, gv⟩ := laid
    dsimp only at p1 f1 r1 l1 ⊢
    rw [Array.toList_push] at p1
    have pc := p1.trans (List.perm_append_singleton _ _)
    have g1 : ∀ e ∈ rows1.toList, TxtE w e := fun e he => by
      rcases List.mem_cons.mp (pc.mem_iff.mp he) with rfl | z
      · exact ⟨x, tk, rfl, rfl⟩
      · exact g e z
    have pz : (rows1.toList.map txtOf).Perm (x :: zs) := (pc.map txtOf).trans (List.Perm.cons x pm)
    have led1 : w.params.followText "set-order" = true ∨ tb1.led = true := by
      rcases led with z | z
      · exact Or.inl z
      · exact Or.inr (l1.trans z)
    have ndz : (x :: zs).Nodup := List.nodup_cons.mpr ⟨hx, nd⟩
    refine wpAny_bind (way _ _ _ ?_)
    by_cases pl : tb1.plain = true
    · rw [if_pos pl]
      refine wpAny_bind ?_
      rw [hashByValue_scannable 8 hsc]
      refine wpAny_pure ?_
      refine addX_end way ho hex hd g1 pz ndz room ?_ ?_ ?_ fun h1 sb r => wpAny_pure (q h1 _ sb r)
      · split
        · exact f1
        · exact SetTable.fits_plain_off f1
      · split <;> exact r1
      · split <;> exact led1
    · rw [if_neg pl]
      refine wpAny_bind (wpAny_pure ?_)
      rw [if_pos rfl]
      exact addX_end way ho hex hd g1 pz ndz room f1 r1 led1 fun h1 sb r => wpAny_pure (q h1 _ sb r)
/-- what has been put in of the first i texts -/
def gotX (xs : List Str) (i : Nat) (zs : List Str) : Prop := zs.Nodup ∧ zs.length ≤ i ∧ ∀ x, x ∈ zs ↔ x ∈ xs.take i
theorem gotX.next {xs zs : List Str} {i : Nat} {x : Str} (g : gotX xs i zs) (h : xs[i]? = some x) : gotX xs (i + 1) (if x ∈ zs then zs else x :: zs) := by
  obtain ⟨nd, le, me⟩ := g
  have e : xs.take (i + 1) = xs.take i ++ [x] := by rw [List.take_add_one, h]; rfl
  by_cases hx : x ∈ zs
  · rw [if_pos hx]
    refine ⟨nd, by omega, fun y => ?_⟩
    rw [e, List.mem_append, List.mem_singleton, ← me y]
    exact ⟨.inl, fun z => z.elim id fun q => by rw [q]; exact hx⟩
  · rw [if_neg hx]
    refine ⟨List.nodup_cons.mpr ⟨hx, nd⟩, by rw [List.length_cons]; omega, fun y => ?_⟩
    rw [e, List.mem_append, List.mem_singleton, ← me y, List.mem_cons]
    exact Or.comm
theorem loopX {I : Addr} {fp wr : List Addr} {G : Array GenState → Array GenState → Prop} {n : Nat} {Pv : Nat → Value → Prop} {St : Nat → Shared → Prop} {Z : Result → Shared → Prop}
    (W : WalksS P w A.in1 I fp wr G n Pv St) (S : Addr) (hSf : S ∉ fp) (xs : List Str) (hn : n = xs.length) (hb : n + 1 < scanBound) (hval : ∀ i v, Pv i v → ∃ x t, xs[i]? = some x ∧ v = .str x t) :
    ∀ (k i : Nat) (s : Shared) (zs : List Str), n - i = k → i ≤ n → St i s → SetX w s.heap S zs → gotX xs i zs →
      (∀ u zs, Moved (S :: wr) G s u → SetX w u.heap S zs → gotX xs n zs → Z (.ok (.ret .none)) u) →
      codeAny (model P w) A (.builtin "set.update.loop" ⟨[.ref S, .ref I], []⟩) Z s := by
  have nS : S ∉ wr := fun z => hSf (W.sub _ z)
  have up : ∀ b ∈ wr, b ∈ S :: wr := fun b hb => List.mem_cons_of_mem _ hb
  intro k
  induction k with
  | zero =>
    intro i s zs hk hi hst R g q
    have e : i = n := by omega
    subst e
    refine codeAny_builtin PyProof.Rows.F.entry_set_update_loop ?_
    rw [Around.under_plainId PyProof.Rows.F.plain_set_update_loop _]
    show wpAny _ _ (pyNext (.ref I) >>= _) _ _ _
    refine wpAny_bind (W.done s _ _ hst fun u hm => ?_)
    show wpAny _ _ (ret Value.none) _ _ _
    exact wpAny_pure (q u zs (hm.mono up) (R.move fun o z => hm.heap S o nS z) g)
  | succ k ih =>
    intro i s zs hk hi hst R g q
    have lt : i < n := by omega
    refine codeAny_builtin PyProof.Rows.F.entry_set_update_loop ?_
    rw [Around.under_plainId PyProof.Rows.F.plain_set_update_loop _]
    show wpAny _ _ (pyNext (.ref I) >>= _) _ _ _
    refine wpAny_bind (W.item i s _ _ lt hst fun v u hP hst1 hm => ?_)
    obtain ⟨x, t, hx, rfl⟩ := hval i v hP
    have R1 := R.move (h' := u.heap) fun o z => hm.heap S o nS z
    show wpAny _ _ (holding [Value.str x t] (setAdd S (.str x t)) >>= _) _ _ _
    refine wpAny_bind (wpAny_holding ?_)
    unfold setAdd
    refine wpAny_holding (wpAny_bind ((PySem.strKind P w).pyHash (k := x) (PySem.strKind_is _ _ _ _) ?_))
    have hl := g.2.1
    refine addX (s := { u with toks := u.toks + 1 }) R1 (by omega) fun h1 b sb R2 => ?_
    refine wpAny_pure ⟨plainId_quiet PyProof.Rows.F.plain_set_update_loop _, ih (i + 1) _ _ (by omega) lt (W.frame _ u _ _ hst1 (Nat.le_succ _) fun c hc o z => ?_) R2 (g.next hx) fun u2 zs2 hm2 R3 g3 => ?_⟩
    · rw [sb.2 c fun z : c = S => hSf (z ▸ hc)]
      exact z
    · refine q u2 zs2 (Moved.trans W.gtrans ((hm.mono up).then_heap (Nat.le_succ _) fun c o hc z => ?_) hm2) R3 g3
      rw [sb.2 c fun z : c = S => hc (z ▸ List.mem_cons_self)]
      exact z
set_option maxHeartbeats 6000000 in
theorem set_callX {l : Addr} {items : Array Value} (xs : List Str) {Q : Value → Shared → Prop} (hh : A.handled = none) (hl : s.heap.IsTuple l items) (hit : StrsAre items.toList xs) (hb : xs.length + 1 < scanBound)
    (q : ∀ (h1 : Heap) (tk : Nat) zs, SetX w h1 s.heap.objs.size zs → gotX xs xs.length zs → (∀ b o, s.heap.get? b = some o → h1.get? b = some o) → Q (.ref s.heap.objs.size) { s with heap := h1, toks := tk }) :
    wpAny (model P w) A (call (.type "set") [.ref l]) Q E s := by
  have his : items.size = xs.length := by
    have e := StrsAre.length hit
    rw [Array.length_toList] at e
    exact e
  have hval : ∀ (i : Nat) (v : Value), items[i]? = some v → ∃ x t, xs[i]? = some x ∧ v = .str x t := fun i v hv => by
    have hi : i < xs.length := by rw [← his]; exact (Array.getElem?_eq_some_iff.mp hv).1
    obtain ⟨t, e⟩ := SS.strs_at hit i v (by rw [Array.getElem?_toList]; exact hv)
    refine ⟨xs[i], t, List.getElem?_eq_getElem hi, ?_⟩
    rw [e, List.getD_eq_getElem?_getD, List.getElem?_eq_getElem hi]
    rfl
  obtain ⟨ol, hol, hcl, nl, hdl⟩ := id hl
  have hlS : l < s.heap.objs.size := Heap.lt_size hol
  obtain ⟨c, tl, hmro⟩ := F.called_set.mro
  have made := F.called_set.made
  have sub := F.called_set.sub
  refine wpAny_call (codeAny_of_tree (show wpAny _ _ (callAny (.type "set") _) _ _ _ from ?_))
  refine wpAny_pure ⟨Code.quiet_builtin _ (by decide +kernel), codeAny_builtin F.entry_type_call ?_⟩
  rw [Around.under_plain (weight_type_call_type "set" [.ref l] []) rfl]
  have notType := F.called_set.notType
  have canCreate := F.called_set.canCreate
  have newCall := F.typeCall_set_1 (.ref l)
  repeat (any_goals (first | assumption | wp_step))
  refine codeAny_mono (L2.code_set_led1 (.ref l) (E := E) (Q₁ := fun v u => v = .ref s.heap.objs.size ∧ u = { s with heap := s.heap.push (NewSet w) }) ⟨rfl, rfl⟩) fun r s1 hr => ?_
  cases r with
  | error e => exact hr
  | ok fl =>
    cases fl with
    | ret obj =>
      obtain ⟨rfl, rfl⟩ := hr
      have hS : (s.heap.push (NewSet w)).get? s.heap.objs.size = some (NewSet w) := Heap.get?_push_size _ rfl
      have hT : Shared.TypeIs { s with heap := s.heap.push (NewSet w) } (.ref s.heap.objs.size) "set" := ⟨_, hS, rfl⟩
      have iniLook := F.called_set.init.lookup
      have iniBind := F.called_set.init.bind (.ref s.heap.objs.size)
      repeat (any_goals (first | assumption | wp_step))
      refine codeAny_mono (codeAny_call_builtin (R := wants (fun v u => v = .none ∧ ∃ h1 tk zs, u = { s with heap := h1, toks := tk } ∧ SetX w h1 s.heap.objs.size zs ∧ gotX xs xs.length zs ∧
          (∀ b o, s.heap.get? b = some o → h1.get? b = some o)) E) F.called_set.init.plain F.entry_set_init (check_set_init_1 hT ?_)) fun r2 s2 hr2 => ?_
      · obtain ⟨ocls, odict, odata, oslots⟩ := ol
        simp only at hcl hdl
        subst hcl; subst hdl
        have hol1 : (s.heap.push (NewSet w)).get? l = some { cls := .type "tuple", dict := odict, data := .seq items nl, slots := oslots } := Heap.get?_push_of_some _ hol
        have hsls := F.sub_tuple_set
        have hslf := F.sub_tuple_frozenset
        have hne : (Value.type "tuple" == Value.type "dict") = false := by decide
        have hl1 : (s.heap.push (NewSet w)).IsTuple l items := ⟨_, hol1, rfl, nl, rfl⟩
        have sz : (s.heap.push (NewSet w)).objs.size = s.heap.objs.size + 1 := Heap.size_push ..
        unfold Builtin.«set.__init__» noKeywords Builtin.Frozenset.updateFrom
        generalize hPI : pyIter = PI
        wp_walk
        subst hPI
        refine wpAny_pyIter_tuple hl1 (wpAny_bind (wpAny_runValue ?_))
        have hh3 : A.in1.in1.in1.handled = none := by simp [hh]
        have nI : l ≠ (s.heap.push (NewSet w)).objs.size := by
          rw [sz]
          exact Nat.ne_of_lt (Nat.lt_succ_of_lt hlS)
        have nSf : s.heap.objs.size ∉ [(s.heap.push (NewSet w)).objs.size, l] := by
          rw [sz]; simp only [List.mem_cons, List.not_mem_nil, or_false, not_or]
          exact ⟨Nat.ne_of_lt (Nat.lt_succ_self _), Nat.ne_of_gt hlS⟩
        refine loopX ((Walks.tuple hh3 _ l nI items).toS) s.heap.objs.size nSf xs his (by omega) hval (items.size - 0) 0 _ [] (by omega) (Nat.zero_le _)
          ⟨⟨_, Heap.get?_push_size _ rfl, rfl, rfl⟩, (hl1.push _)⟩ ?h0 ⟨List.Pairwise.nil, Nat.le_refl _, fun x => by simp⟩ ?hR
        case h0 => exact fresh_X (Heap.get?_push_of_some _ hS)
        case hR =>
          intro u zs hm R g
          obtain ⟨h1, g1, d1, tk1, os1⟩ := u
          have eg : g1 = s.gens := hm.gens
          have ed : d1 = s.drawn := hm.drawn
          have eo : os1 = s.os := hm.os
          subst eg; subst ed; subst eo
          show wpAny _ _ _ _ _ _
          refine wpAny_pure (show wpAny _ _ (ret Value.none) _ _ _ from ?_)
          rw [his] at g
          refine wpAny_pure ⟨rfl, h1, tk1, zs, rfl, R, g, fun b o z => ?_⟩
          have b0 : b < s.heap.objs.size := Heap.lt_size z
          refine hm.heap b o (fun hb => ?_) (Heap.get?_push_of_some _ (Heap.get?_push_of_some _ z))
          rcases List.mem_cons.mp hb with y | y
          · exact Nat.lt_irrefl _ (y ▸ b0)
          · have y := List.mem_singleton.mp y
            rw [sz] at y
            exact Nat.lt_irrefl _ (Nat.lt_trans (Nat.lt_succ_self _) (y ▸ b0))
      · cases r2 with
        | error e => exact hr2
        | ok fl2 =>
          cases fl2 with
          | ret v =>
            obtain ⟨rfl, h1, tk, zs, rfl, R, g, k⟩ := hr2
            repeat (any_goals (first | assumption | wp_step))
            exact q _ _ _ R g k
          | _ => exact hr2.elim
    | _ => exact hr.elim
theorem sorted_X {Q : Value → Shared → Prop} (R : SetX w s.heap a zs) (hh : A.handled = none) (h64 : zs.length < 64)
    (q : ∀ u p (out : Array Value) (c : Nat) (ys : List Str), (∀ b o, s.heap.get? b = some o → u.heap.get? b = some o) → u.gens = s.gens → u.os = s.os → s.heap.objs.size ≤ p →
      u.heap.get? p = some (seqObj "list" out c) → StrsAre out.toList ys → ys.Perm zs → sortedS ys = true → Q (.ref p) u) :
    wpAny (model P w) A (call (.builtin "sorted") [.ref a]) Q E s := by
  obtain ⟨o, rows, ep, tb, ho, hex, hd, g, pm, nd, few, fit, ris, led⟩ := R
  have hrs : rows.size = zs.length := by
    have e := pm.length_eq
    rw [List.length_map, Array.length_toList] at e
    exact e
  refine Calls.call_function_entry kind_sorted plain_sorted entry_sorted (args_sorted1 _) ?_
  unfold Builtin.«sorted»
  refine wpAny_bind (m := checkCount "sorted" 1 1 _) (wpAny_pure (wpAny_bind (L2.collect_set (A := A.in1) hh ⟨o, ho, hex.1, hd⟩ fit (by omega) ris led fun u vs k1 hz g1 o1 p1 => ?_)))
  have hvl : vs.length = zs.length := by
    rw [p1.length_eq, List.length_map, Array.length_toList]
    exact hrs
  have shp : ∀ l : List Value, (∀ v ∈ l, ∃ x tk, v = Value.str x tk) → StrsAre l (l.map fun v => txtOf (0, v)) := by
    intro l
    induction l with
    | nil => intro _; exact .nil
    | cons v l ih =>
      intro hv
      obtain ⟨x, tk, rfl⟩ := hv v List.mem_cons_self
      exact .cons x tk (ih fun y hy => hv y (List.mem_cons_of_mem _ hy))
  have hI : StrsAre vs (vs.map fun v => txtOf (0, v)) := shp vs fun v hv => by
    obtain ⟨e, he, z⟩ := List.mem_map.mp (p1.mem_iff.mp hv)
    obtain ⟨x, tk, y, _⟩ := g e he
    exact ⟨x, tk, z.symm.trans y⟩
  have pk : (vs.map fun v => txtOf (0, v)).Perm zs := by
    have z := p1.map fun v => txtOf (0, v)
    rw [List.map_map] at z
    exact z.trans pm
  refine wpAny_bind (wpAny_newList ?_ (by rw [hvl, sizeLine_eq]; omega))
  have hoL : (u.heap.push (seqObj "list" vs.toArray 0)).get? u.heap.objs.size = some (seqObj "list" vs.toArray 0) := Heap.get?_push_size _ rfl
  refine wpAny_bind (wpAny_holding (wpAny_call_entry slot_list_sort ⟨_, hoL, rfl⟩ entry_list_sort
    (list_sort_treeK strKind_oneLt hoL hI.keysOf (fun v₁ v₂ rest e => keyKind_strs (by rw [← e]; exact hI)) (by rw [hvl]; exact h64) fun st hp hs => ?_) (args_list_sort _)))
  obtain ⟨ys, y1, y2, y3⟩ := sorted_out_str hI hp hs
  obtain ⟨c, hc⟩ := sortedHeap_at (vs := vs) (out := (arrOf st).map (·.2)) hoL
  refine ⟨_, rfl, wpAny_pure ⟨_, rfl, q _ u.heap.objs.size _ c ys (fun b v z => ?_) g1 o1 hz hc y1 (y2.trans pk) y3⟩⟩
  have z1 := k1 b v z
  have lt := Heap.lt_size z1
  show (sortedHeap (u.heap.push (seqObj "list" vs.toArray 0)) u.heap.objs.size vs _).get? b = some v
  rw [sortedHeap_old (Nat.ne_of_lt lt) (by rw [size_push']; exact Nat.lt_succ_of_lt lt)]
  exact Heap.get?_push_of_some _ z1
end
/-! over the abstract heap -/
def SetXO (w : World) (a : Addr) (zs : List Str) : HO := .ext fun h => SetX w h a zs
section
variable {X : Cx}
theorem setXO_ok {w : World} {P : Program} {H : Hp} {h : Heap} {a : Addr} {zs : List Str} (R : SetX w h a zs) : ObjOk P w H h a (SetXO w a zs) := by
  have ⟨o, _, _, _, ho, _⟩ := R
  exact ⟨R, ⟨o, ho⟩, fun h1 h2 p k => SetX.move p k⟩
def rSetX (K : PySem.W.Frag) (w : World) : List V → Hp → VK → Prop := fun us H Q => ∃ (l : Addr) (xs : List Str), us = [V.ref l] ∧ SqT K H l (xs.map V.str) ∧ xs.length < 64 ∧
  ∀ a zs, H a = none → gotX xs xs.length zs → Q (.ref a) (upd H a (SetXO w a zs))
theorem cr_setX (hc : X.calm = true) : CallR X (.type "set") (rSetX X.K X.w) := by
  intro pins s σ H vs us Q I r h
  obtain ⟨l, xs, rfl, hl, hf, q⟩ := h
  rw [Vals.ref1 r]
  obtain ⟨its, rv, pl, hz⟩ := I.tuple hl
  have hn : H s.heap.objs.size = none := I.hok.fresh (Nat.le_refl _)
  refine set_callX (P := X.prog) (w := X.w) xs (I.ok.hd hc) (show s.heap.IsTuple l its.toArray from pl) (by simpa using rv.strs) (by unfold scanBound; omega) fun h1 tk zs R g k => ?_
  exact ⟨.ref s.heap.objs.size, upd H s.heap.objs.size (SetXO X.w s.heap.objs.size zs), I.laid (t' := tk) k (Nat.le_refl _) (setXO_ok R), rfl, q _ zs hn g⟩
def rSortX (w : World) : List V → Hp → VK → Prop := fun vs H Q => ∃ (a : Addr) (zs : List Str), vs = [V.ref a] ∧ H a = some (SetXO w a zs) ∧ zs.length < 64 ∧
  ∀ (ys : List Str) (p : Addr), ys.Perm zs → sortedS ys = true → H p = none → Q (.ref p) (upd H p (.lst (ys.map V.str)))
theorem cr_sortX (hc : X.calm = true) : CallR X (.builtin "sorted") (rSortX X.w) := by
  intro pins s σ H vs us Q I r h
  obtain ⟨a, zs, rfl, ha, h64, q⟩ := h
  have R : SetX X.w s.heap a zs := (I.hok a _ ha).1
  rw [Vals.ref1 r]
  refine sorted_X R (I.ok.hd hc) h64 fun u p out c ys k g o hp hg hi pm hs => ?_
  have len : (ys.map V.str).length ≤ sizeLine := by rw [List.length_map, pm.length_eq, sizeLine_eq]; omega
  have hn : H p = none := I.hok.fresh hp
  have J : Inv X pins σ (upd H p (.lst (ys.map V.str))) { s with heap := u.heap, gens := u.gens, drawn := u.drawn, toks := u.toks } :=
    I.call (ch := []) (Un.laid k hp hn) (I.hok.laid k hp ⟨len, out.toList, c, vals_of_strs hi, hg⟩) (by rw [g]; exact I.bare) (fun _ z => nomatch z)
  have e : u = { s with heap := u.heap, gens := u.gens, drawn := u.drawn, toks := u.toks } := by
    obtain ⟨u1, u2, u3, u4, u5⟩ := u
    obtain ⟨s1, s2, s3, s4, s5⟩ := s
    cases o
    rfl
  rw [e]
  exact ⟨.ref p, _, J, rfl, q ys p pm hs hn⟩
theorem dq_strs {K : PySem.W.Frag} {H : Hp} : ∀ {vs : List V} {xs : List Str}, DqAll K H vs (xs.map .str) → vs = xs.map V.str
  | [], [], _ => rfl
  | [], _ :: _, h => by cases h
  | _ :: _, [], h => by cases h
  | v :: vs, x :: xs, h => by
    cases h with
    | cons h1 h2 =>
      cases h1
      rw [dq_strs h2]
      rfl
theorem strs_dq {K : PySem.W.Frag} {H : Hp} : ∀ xs : List Str, DqAll K H (xs.map V.str) (xs.map .str)
  | [] => .nil
  | x :: xs => .cons (.str x) (strs_dq xs)
variable {e : Expr} {pos : Pos} {W : WE}
/-- sorted(set(t)), t a tuple of texts: each once, ascending -/
def lSortSetX (W : WE) : WL := fun ρ g R => W ρ g fun d g1 => ∃ xs : List Str, d = .tuple (xs.map .str) ∧ xs.length < 64 ∧ ∀ ys : List Str, ys.Nodup → (∀ y, y ∈ ys ↔ y ∈ xs) → sortedS ys = true → R (ys.map .str) g1
theorem vl_sortedSetX {p p2 pr : Pos} (hc : X.calm = true) (hg : Gl X "sorted") (hm : X.mg "sorted" = none) (hg2 : Gl X "set") (hm2 : X.mg "set" = none) (he : VE X e W)
    (hv : bootBuiltins "sorted" = some (.builtin "sorted") := by decide +kernel) (hv2 : bootBuiltins "set" = some (.type "set") := by decide +kernel) (hs : starEach [e] X.env = (false, eval e X.env) :: starEach [] X.env := by rfl)
    (hs2 : starEach [.Call (.Name "set" p2) [e] [] pr] X.env = (false, eval (.Call (.Name "set" p2) [e] [] pr) X.env) :: starEach [] X.env := by rfl) :
    VL X (.Call (.Name "sorted" p) [.Call (.Name "set" p2) [e] [] pr] [] pos) (lSortSetX W) :=
  pe_weak (pe_callB (cr_sortX hc) hg hm hv (pa_cons (pe_callTy (cr_setX hc) hg2 hm2 hv2 (pa_cons he pa_nil hs) (by decide) (by decide) hs rfl) pa_nil hs2) (by decide) (by decide) hs2 rfl)
    fun σ H Q ⟨a, H0, O0, O, ρ, g, R, r, w, q⟩ => ⟨a, H0, O0, O, ρ, g, _, r, w, fun d g1 v H1 k1 r1 d1 w1 => by
    obtain ⟨xs, rfl, hlen, w1⟩ := w1
    cases d1 with
    | @tup l vs _ h1 h2 =>
      have e1 := dq_strs h2
      subst e1
      refine ⟨l, xs, rfl, sqt_mono off_out h1, hlen, fun b zs hb g3 => ?_⟩
      have s1 : Sub H1 (upd H1 b (SetXO X.w b zs)) := sub_upd hb
      refine ⟨b, zs, rfl, upd_same, Nat.lt_of_le_of_lt g3.2.1 hlen, fun ys p1 pm hs hp1 => ?_⟩
      have hp0 : H1 p1 = none := by
        by_cases z : p1 = b
        · rw [z]; exact hb
        · rw [upd_ne z] at hp1
          exact hp1
      have r2 := r1.ext s1
      refine q _ g1 p1 (ys.map V.str) _ (k1.trans ((Kp.of s1).trans (Kp.of (sub_upd hp1)))) (r2.hide hp1) (kp_none k1 r1.pen.live hp0) upd_same (strs_dq ys) (w1 ys (pm.nodup_iff.mpr g3.1) (fun y => ?_) hs)
      rw [pm.mem_iff, g3.2.2 y, List.take_length]⟩
end
end Vl
/-! V30: list(zip(s, t)) of two tuples. -/
namespace Vl
open PySem PySem.Spec PyProof.Rows L2
theorem zip_lens : typeLookup (.type "zip") "__len__" = pure none := by rw [typeLookup_type, builtinLookup_eq_fast]; kernel_rfl
theorem zip_hints : typeLookup (.type "zip") "__length_hint__" = pure none := by rw [typeLookup_type, builtinLookup_eq_fast]; kernel_rfl
section
variable {prog : Program} {w : World} {A : Around} {E : Value → Shared → Prop} {s : Shared} {z TI TO T i1 i2 l1 l2 : Addr} {f : Bool} {oT : Obj} {k1 k2 : Nat} {xs ys : Array Value}
/-- the next pair, the last one being held elsewhere: a new tuple -/
theorem zipU_item {x y : Value} {Q : Option Value → Shared → Prop} (D : ZipApart z TI TO i1 i2 l1 l2) (hz : IsZipHeld s.heap z TI TO T f) (hT : s.heap.get? T = some oT) (hTI : IsPair s.heap TI (.ref i1) (.ref i2))
    (h1 : s.heap.IsTupleIter i1 l1 k1) (h2 : s.heap.IsTupleIter i2 l2 k2) (hl1 : s.heap.IsTuple l1 xs) (hl2 : s.heap.IsTuple l2 ys) (hx : xs[k1]? = some x) (hy : ys[k2]? = some y)
    (q : ∀ h, IsZipHeld h z TI TO T true → h.IsTupleIter i1 l1 (k1 + 1) → h.IsTupleIter i2 l2 (k2 + 1) → IsPair h s.heap.objs.size x y → (∀ c o, c ≠ z → c ≠ i1 → c ≠ i2 → s.heap.get? c = some o → h.get? c = some o) →
      Q (some (.ref s.heap.objs.size)) { s with heap := h }) : wpAny (model prog w) A (pyNext (.ref z)) Q E s := by
  have ty : s.TypeIs (.ref z) "zip" := ⟨_, hz, rfl⟩
  unfold pyNext
  refine wpAny_bind (wpAny_attempt (wpAny_callSpecial?_slot (name := Str.ofString "__next__") ty F.slot_zip_next (wpAny_call_entry F.slot_zip_next ty F.entry_zip_next ?_ (F.args_zip_next_1 _))))
  show wpAny _ _ (field (.ref z) 2 >>= _) _ _ _
  refine wpAny_bind (wpAny_field hz rfl (x := .bool false) rfl (show wpAny _ _ (field (.ref z) 3 >>= _) _ _ _ from wpAny_bind (wpAny_field hz rfl (x := .ref TI) rfl (wpAny_bind (wpAny_seqItems hTI rfl ?_)))))
  show wpAny _ _ (Builtin.SmallTypes.ownedTupleIsFree (.ref z) >>= _) _ _ _
  refine wpAny_bind (wpAny_tupleHeld_zip hz hT fun g1 z1 s1 => ?_)
  simp only [Bool.false_eq_true, if_false]
  refine wpAny_bind ?_
  rw [← Array.forIn_toList]
  simp only [List.forIn_cons, List.forIn_nil]
  refine wpAny_bind (wpAny_bind (wpAny_holding (show wpAny _ _ (Builtin.SmallTypes.nextOf (.ref i1) >>= _) _ _ _ from ?_)))
  refine wpAny_bind (RZ.nextOf_tuple_item (s := { s with heap := g1 }) (h1.extBut s1.extBut D.i1z) (hl1.extBut s1.extBut D.l1z) hx fun g2 j1 s2 => wpAny_pure (wpAny_pure ?_))
  refine wpAny_bind (wpAny_bind (wpAny_holding (show wpAny _ _ (Builtin.SmallTypes.nextOf (.ref i2) >>= _) _ _ _ from ?_)))
  refine wpAny_bind (RZ.nextOf_tuple_item (s := { s with heap := g2 }) ((h2.extBut s1.extBut D.i2z).extBut s2.extBut D.i12.symm) ((hl2.extBut s1.extBut D.l2z).extBut s2.extBut D.l2i1) hy fun g3 j2 s3 => wpAny_pure (wpAny_pure (wpAny_pure ?_)))
  show wpAny _ _ (newTuple [x, y] >>= _) _ _ _
  refine wpAny_bind (wpAny_newTuple (wpAny_pure ⟨_, rfl, wpAny_pure ?_⟩))
  have sz : g3.objs.size = s.heap.objs.size := by rw [s3.1, s2.1, s1.1]
  show Q (some (.ref g3.objs.size)) _
  have pr : IsPair (g3.push { cls := .type "tuple", data := .seq #[x, y] }) g3.objs.size x y := Heap.get?_push_size _ rfl
  rw [sz] at pr ⊢
  exact q _ (Heap.get?_push_of_some _ (s3.extBut _ _ D.i2z.symm (s2.extBut _ _ D.i1z.symm z1))) ((j1.extBut s3.extBut D.i12).at fun o e => Heap.get?_push_of_some _ e) (j2.at fun o e => Heap.get?_push_of_some _ e) pr
    fun c o c1 c2 c3 e => Heap.get?_push_of_some _ (s3.extBut _ _ c3 (s2.extBut _ _ c2 (s1.extBut _ _ c1 e)))
theorem zipU_end {Q : Option Value → Shared → Prop} (hh : A.handled = none) (D : ZipApart z TI TO i1 i2 l1 l2) (hz : IsZipHeld s.heap z TI TO T f) (hT : s.heap.get? T = some oT) (hTI : IsPair s.heap TI (.ref i1) (.ref i2))
    (h1 : s.heap.IsTupleIter i1 l1 k1) (h2 : s.heap.IsTupleIter i2 l2 k2) (hl1 : s.heap.IsTuple l1 xs) (hl2 : s.heap.IsTuple l2 ys) (he : xs[k1]? = none ∨ ys[k2]? = none)
    (q : ∀ h, (∀ c o, c ≠ z → c ≠ i1 → c ≠ i2 → s.heap.get? c = some o → h.get? c = some o) → Q none { s with heap := h }) : wpAny (model prog w) A (pyNext (.ref z)) Q E s := by
  have ty : s.TypeIs (.ref z) "zip" := ⟨_, hz, rfl⟩
  have stop : ∀ (h : Heap) (e : Addr), (∀ c o, c ≠ z → c ≠ i1 → c ≠ i2 → s.heap.get? c = some o → h.get? c = some o) → (∃ o, h.get? e = some o ∧ o.cls = .type "StopIteration") →
      wpAny (model prog w) A (isInstance (.ref e) (.type "StopIteration") >>= fun b => if b = true then pure none else throw (.ref e)) Q E { s with heap := h } := fun h e k ho => by
    obtain ⟨o, ho, hc⟩ := ho
    refine wpAny_bind (wpAny_isInstance (T := "StopIteration") (b := true) ⟨o, ho, hc⟩ isSubtype_stop ?_)
    exact wpAny_pure (q _ k)
  unfold pyNext
  refine wpAny_bind (wpAny_attempt (wpAny_callSpecial?_slot (name := Str.ofString "__next__") ty F.slot_zip_next (wpAny_call_entry F.slot_zip_next ty F.entry_zip_next ?_ (F.args_zip_next_1 _))))
  show wpAny _ _ (field (.ref z) 2 >>= _) _ _ _
  refine wpAny_bind (wpAny_field hz rfl (x := .bool false) rfl (show wpAny _ _ (field (.ref z) 3 >>= _) _ _ _ from wpAny_bind (wpAny_field hz rfl (x := .ref TI) rfl (wpAny_bind (wpAny_seqItems hTI rfl ?_)))))
  show wpAny _ _ (Builtin.SmallTypes.ownedTupleIsFree (.ref z) >>= _) _ _ _
  refine wpAny_bind (wpAny_tupleHeld_zip hz hT fun g1 z1 s1 => ?_)
  simp only [Bool.false_eq_true, if_false]
  refine wpAny_bind ?_
  rw [← Array.forIn_toList]
  simp only [List.forIn_cons, List.forIn_nil]
  refine wpAny_bind (wpAny_bind (wpAny_holding (show wpAny _ _ (Builtin.SmallTypes.nextOf (.ref i1) >>= _) _ _ _ from ?_)))
  cases hx : xs[k1]? with
  | none =>
    refine wpAny_bind (RZ.nextOf_tuple_end (s := { s with heap := g1 }) hh (h1.extBut s1.extBut D.i1z) (hl1.extBut s1.extBut D.l1z) hx fun g2 e s2 ho => ?_)
    exact stop g2 e (fun c o c1 c2 _ x => s2 _ _ c2 (s1.extBut _ _ c1 x)) ho
  | some x =>
    have hy : ys[k2]? = none := he.elim (fun h => by rw [hx] at h; cases h) id
    refine wpAny_bind (RZ.nextOf_tuple_item (s := { s with heap := g1 }) (h1.extBut s1.extBut D.i1z) (hl1.extBut s1.extBut D.l1z) hx fun g2 j1 s2 => wpAny_pure (wpAny_pure ?_))
    refine wpAny_bind (wpAny_bind (wpAny_holding (show wpAny _ _ (Builtin.SmallTypes.nextOf (.ref i2) >>= _) _ _ _ from ?_)))
    refine wpAny_bind (RZ.nextOf_tuple_end (s := { s with heap := g2 }) hh ((h2.extBut s1.extBut D.i2z).extBut s2.extBut D.i12.symm) ((hl2.extBut s1.extBut D.l2z).extBut s2.extBut D.l2i1) hy fun g3 e s3 ho => ?_)
    exact stop g3 e (fun c o c1 c2 c3 x => s3 _ _ c3 (s2.extBut _ _ c2 (s1.extBut _ _ c1 x))) ho
end
/-- the zip object and its parts; behind the first pair the last tuple is one that H holds -/
structure ZipSt (H : Hp) (h : Heap) (z TI TO i1 i2 l1 l2 : Addr) (i : Nat) : Prop where
  ob : (i = 0 ∧ IsZip h z TI TO .none ∧ IsPair h TO .none .none) ∨ ∃ (T : Addr) (f : Bool) (xs : List V), IsZipHeld h z TI TO T f ∧ H T = some (HO.tup xs)
  ti : IsPair h TI (.ref i1) (.ref i2)
  one : h.IsTupleIter i1 l1 i
  two : h.IsTupleIter i2 l2 i
  lt : ∀ c ∈ [z, TI, TO, i1, i2], c < h.objs.size
/-- the first pairs of xs and ys -/
def PairsAt (HB H : Hp) (xs ys : List V) (acc : List V) : Prop := ∀ (j : Nat) (v : V), acc[j]? = some v → ∃ p x y, v = V.ref p ∧ xs[j]? = some x ∧ ys[j]? = some y ∧ H p = some (HO.tup [x, y]) ∧ HB p = none
section
variable {X : Cx} {pins : List (Addr × Obj)} {σ : L2.St} {a b S z TI TO i1 i2 : Addr} {xs ys : List V} {res : Value} {R : Result → Shared → Prop} {A : Around}
theorem zip_fill {HB : Hp} (hh : A.handled = none) (D : ZipApart z TI TO i1 i2 a b) (nS : S ∉ [z, TI, TO, i1, i2]) (hlen : min xs.length ys.length ≤ sizeLine) :
    ∀ (k i : Nat) (s : Shared) (H : Hp) (acc : List V), min xs.length ys.length - i = k → i ≤ min xs.length ys.length → Inv X pins σ H s → (∀ c ∈ [z, TI, TO, i1, i2], FpOk X pins H c) → ZipSt H s.heap z TI TO i1 i2 a b i →
      SqT X.K H a xs → SqT X.K H b ys → H S = some (HO.lst acc) → acc.length = i → PairsAt HB H xs ys acc → (∀ c, H c = none → HB c = none) →
      (∀ s' H' acc', (∀ p o, p ≠ S → H p = some o → H' p = some o) → Inv X pins σ H' s' → H' S = some (HO.lst acc') → acc'.length = min xs.length ys.length → PairsAt HB H' xs ys acc' → R (.ok (.ret res)) s') →
      codeAny (model X.prog X.w) A (.builtin "list.extend.loop" ⟨[.ref S, .ref z, res], []⟩) R s := by
  have fp5 : ∀ c, c ∈ [z, TI, TO, i1, i2] ↔ c = z ∨ c = TI ∨ c = TO ∨ c = i1 ∨ c = i2 := fun c => by simp
  intro k
  induction k with
  | zero =>
    intro i s H acc hk hi I hf st ha hb hs hl hp hB qq
    have e : i = min xs.length ys.length := by omega
    refine codeAny_builtin PySem.F.entry_extend_loop ?_
    rw [Around.under_plainId PySem.F.plain_extend_loop _]
    show wpAny _ _ (pyNext (.ref z) >>= _) _ _ _
    obtain ⟨its, rv, p1, _⟩ := I.tuple ha
    obtain ⟨its2, rv2, p2, _⟩ := I.tuple hb
    have l1 := rv.length
    have l2 := rv2.length
    have he : its.toArray[i]? = none ∨ its2.toArray[i]? = none := by
      rcases Nat.le_total xs.length ys.length with c | c
      · exact .inl (by simp; omega)
      · exact .inr (by simp; omega)
    have fin : ∀ h : Heap, (∀ c o, c ∉ [z, TI, TO, i1, i2] → s.heap.get? c = some o → h.get? c = some o) → R (.ok (.ret res)) { s with heap := h } := fun h kk =>
      qq _ H acc (fun _ _ _ x => x) (I.turnedL (t' := s.toks) (ch := [z, TI, TO, i1, i2]) (fun c o hc x => kk c o hc x) hf) hs (by omega) hp
    rcases st.ob with ⟨_, hz, hTO⟩ | ⟨T, f, tx, hz, hT⟩
    · refine wpAny_bind (RZ.pyNext_zipT_end hh D hz st.ti hTO st.one st.two p1 p2 he fun h kk => ?_)
      exact wpAny_pure (fin h fun c o hc x => kk c o (fun e => hc (by simp [e])) (fun e => hc (by simp [e])) (fun e => hc (by simp [e])) (fun e => hc (by simp [e])) x)
    · obtain ⟨_, _, ⟨oT, hoT, _⟩, _⟩ := I.tuple (SqT.of hT)
      refine wpAny_bind (zipU_end hh D hz hoT st.ti st.one st.two p1 p2 he fun h kk => ?_)
      exact wpAny_pure (fin h fun c o hc x => kk c o (fun e => hc (by simp [e])) (fun e => hc (by simp [e])) (fun e => hc (by simp [e])) x)
  | succ k ih =>
    intro i s H acc hk hi I hf st ha hb hs hl hp hB qq
    have lt : i < min xs.length ys.length := by omega
    refine codeAny_builtin PySem.F.entry_extend_loop ?_
    rw [Around.under_plainId PySem.F.plain_extend_loop _]
    show wpAny _ _ (pyNext (.ref z) >>= _) _ _ _
    obtain ⟨its, rv, p1, _⟩ := I.tuple ha
    obtain ⟨its2, rv2, p2, _⟩ := I.tuple hb
    have hx : xs[i]? = some xs[i] := List.getElem?_eq_getElem (by omega)
    have hy : ys[i]? = some ys[i] := List.getElem?_eq_getElem (by omega)
    obtain ⟨u, hu, ru⟩ := rv.get hx
    obtain ⟨u2, hu2, ru2⟩ := rv2.get hy
    have hnew : H s.heap.objs.size = none := I.hok.fresh (Nat.le_refl _)
    have nSn : S ≠ s.heap.objs.size := fun e => by rw [e, hnew] at hs; cases hs
    -- behind the next pair: the tuple is laid, then put into the list
    have go : ∀ (h : Heap) (f : Bool), IsZipHeld h z TI TO s.heap.objs.size f ∨ (∃ (T : Addr) (tx : List V), IsZipHeld h z TI TO T f ∧ H T = some (HO.tup tx)) → h.IsTupleIter i1 a (i + 1) → h.IsTupleIter i2 b (i + 1) → IsPair h s.heap.objs.size u u2 → s.heap.objs.size < h.objs.size →
        (∀ c o, c ∉ [z, TO, i1, i2] → s.heap.get? c = some o → h.get? c = some o) →
        wpAny (model X.prog X.w) A.in1 (updateSeq S (·.push (.ref s.heap.objs.size)) >>= fun _ => again (.builtin "list.extend.loop" ⟨[.ref S, .ref z, res], []⟩))
          (fun fin s' => match fin with | .done f => R (.ok f) s' | .again c' => c'.quiet = true ∧ codeAny (model X.prog X.w) A c' R s') (fun e s' => R (.error e) s') { s with heap := h } := fun h f hz j1 j2 hp2 hsz kk => by
      have new : ObjOk X.prog X.w (upd H s.heap.objs.size (HO.tup [xs[i], ys[i]])) h s.heap.objs.size (HO.tup [xs[i], ys[i]]) := ⟨by show 2 ≤ sizeLine; decide, [u, u2], .cons ru (.cons ru2 .nil), ⟨_, hp2, rfl, _, rfl⟩⟩
      have I1 : Inv X pins σ (upd H s.heap.objs.size (HO.tup [xs[i], ys[i]])) { s with heap := h } :=
        I.turnedNew (t' := s.toks) (ch := [z, TI, TO, i1, i2]) (fun c o hc x => kk c o (fun e => hc (by simp at e ⊢; rcases e with e | e | e | e <;> simp [e])) x) hf (Nat.le_refl _) new
      have up1 : ∀ c o, H c = some o → upd H s.heap.objs.size (HO.tup [xs[i], ys[i]]) c = some o := fun c o x => by
        rw [upd_ne (fun e => by rw [e, hnew] at x; cases x)]
        exact x
      have hs1 := up1 _ _ hs
      obtain ⟨zl, its3, n3, rv3, hob⟩ := (show ObjOk X.prog X.w _ h S (HO.lst acc) from I1.hok S _ hs1)
      have r3 : its3.length = i := by rw [← rv3.length]; exact hl
      refine wpAny_bind (wpAny_updateSeq hob rfl (wpAny_pure ⟨plainId_quiet PySem.F.plain_extend_loop _, ?_⟩) (by simp; omega) (by simp; omega))
      have at2 := Heap.get?_update_self (Obj.mapSeq (·.push (Value.ref s.heap.objs.size))) hob rfl
      have I2 : Inv X pins σ (upd (upd H s.heap.objs.size (HO.tup [xs[i], ys[i]])) S (HO.lst (acc ++ [V.ref s.heap.objs.size]))) { s with heap := h.update S (Obj.mapSeq (·.push (Value.ref s.heap.objs.size))) } := by
        refine I1.write (t' := s.toks) (e := S) (by rw [hs1]; trivial) (.inl rfl) (fun c v hc x => (Heap.get?_update_other _ _ (Ne.symm hc)).trans x) ⟨_, at2⟩ ⟨?_, its3 ++ [Value.ref s.heap.objs.size], n3 + 1, ?_, ?_⟩
        · rw [List.length_append, List.length_singleton]; omega
        · exact rv3.append (.cons rfl .nil)
        · rw [at2]
          simp [Obj.mapSeq, seqObj]
      have up2 : ∀ c o, c ≠ S → H c = some o → upd (upd H s.heap.objs.size (HO.tup [xs[i], ys[i]])) S (HO.lst (acc ++ [V.ref s.heap.objs.size])) c = some o := fun c o hc x => by
        rw [upd_ne hc]
        exact up1 c o x
      have tupKeep : ∀ {c : Addr} {vs : List V}, SqT X.K H c vs → SqT X.K (upd (upd H s.heap.objs.size (HO.tup [xs[i], ys[i]])) S (HO.lst (acc ++ [V.ref s.heap.objs.size]))) c vs := fun {c vs} x => by
        rcases x with (x | ⟨o, x⟩) | x
        · exact .inl (.inl (up2 _ _ (fun e => by rw [e, hs] at x; cases x) x))
        · exact .inl (.inr ⟨o, up2 _ _ (fun e => by rw [e, hs] at x; cases x) x⟩)
        · exact .inr x
      have newAt : upd (upd H s.heap.objs.size (HO.tup [xs[i], ys[i]])) S (HO.lst (acc ++ [V.ref s.heap.objs.size])) s.heap.objs.size = some (HO.tup [xs[i], ys[i]]) := by
        rw [upd_ne (Ne.symm nSn), upd_same]
      refine ih (i + 1) _ _ _ (by omega) lt I2 (fun c hc => ?_) ⟨?_, ?_, ?_, ?_, fun c hc => ?_⟩ (tupKeep ha) (tupKeep hb) upd_same (by rw [List.length_append, List.length_singleton, hl]) ?_ ?_ ?_
      · obtain ⟨x1, x⟩ := hf c hc
        refine ⟨?_, x⟩
        rw [upd_ne (fun e : c = S => nS (by rw [← e]; exact hc)), upd_ne (Nat.ne_of_lt (st.lt c hc))]
        exact x1
      · have nz : S ≠ z := fun e => nS (by simp [e])
        rcases hz with hz | ⟨T, tx, hz, hT⟩
        · exact .inr ⟨_, _, _, (Heap.get?_update_other _ _ nz).trans hz, newAt⟩
        · exact .inr ⟨_, _, _, (Heap.get?_update_other _ _ nz).trans hz, up2 _ _ (fun e => by rw [e, hs] at hT; cases hT) hT⟩
      · exact (Heap.get?_update_other _ _ (fun e => nS (by simp [e]))).trans (kk _ _ (by simp; exact ⟨D.TIz, D.TITO, D.TIi1, D.TIi2⟩) st.ti)
      · exact j1.at fun o x => (Heap.get?_update_other _ _ (fun e => nS (by simp [e]))).trans x
      · exact j2.at fun o x => (Heap.get?_update_other _ _ (fun e => nS (by simp [e]))).trans x
      · have := st.lt c hc
        show c < (h.update S _).objs.size
        rw [Heap.size_after_update]
        exact Nat.lt_trans this hsz
      · intro j v hv
        rw [List.getElem?_append] at hv
        split at hv
        · obtain ⟨p, x, y, e1, e2, e3, e4, e5⟩ := hp j v hv
          exact ⟨p, x, y, e1, e2, e3, up2 _ _ (fun e => by rw [e, hs] at e4; cases e4) e4, e5⟩
        · have hj : j = i := by
            rw [List.getElem?_singleton] at hv
            split at hv
            · omega
            · cases hv
          subst hj
          rw [List.getElem?_singleton, if_pos (by omega)] at hv
          cases hv
          exact ⟨_, _, _, rfl, hx, hy, newAt, hB _ hnew⟩
      · intro c hc
        by_cases e1 : c = S
        · rw [e1, upd_same] at hc
          cases hc
        · rw [upd_ne e1] at hc
          by_cases e2 : c = s.heap.objs.size
          · rw [e2]; exact hB _ hnew
          · rw [upd_ne e2] at hc
            exact hB c hc
      · exact fun s' H' acc' k' I' e1 e2 e3 => qq s' H' acc' (fun p o hp x => k' p o hp (up2 p o hp x)) I' e1 e2 e3
    rcases st.ob with ⟨_, hz, hTO⟩ | ⟨T, f, tx, hz, hT⟩
    · refine wpAny_bind (RZ.pyNext_zipT_item D hz st.ti hTO st.one st.two p1 p2 (x := u) (y := u2) (by simpa using hu) (by simpa using hu2) fun h z1 _ j1 j2 hpr hsz kk => ?_)
      exact go h false (.inl z1) j1 j2 hpr (by rw [hsz]; exact Nat.lt_succ_self _) fun c o hc x => kk c o (fun e => hc (by simp [e])) (fun e => hc (by simp [e])) (fun e => hc (by simp [e])) (fun e => hc (by simp [e])) x
    · obtain ⟨_, _, ⟨oT, hoT, _⟩, _⟩ := I.tuple (SqT.of hT)
      refine wpAny_bind (zipU_item D hz hoT st.ti st.one st.two p1 p2 (x := u) (y := u2) (by simpa using hu) (by simpa using hu2) fun h z1 j1 j2 hpr kk => ?_)
      exact go h true (.inr ⟨T, tx, z1, hT⟩) j1 j2 hpr (Heap.lt_size hpr) fun c o hc x => kk c o (fun e => hc (by simp [e])) (fun e => hc (by simp [e])) (fun e => hc (by simp [e])) x
/-- list(zip(s, t)), s and t tuples -/
def rLZ (K : PySem.W.Frag) (vs : List V) (H : Hp) (Q : VK) : Prop := ∃ (a b : Addr) (xs ys : List V), vs = [V.ref a, V.ref b] ∧ SqT K H a xs ∧ SqT K H b ys ∧ min xs.length ys.length ≤ sizeLine ∧
  ∀ p acc H', H p = none → Sub H H' → H' p = some (HO.lst acc) → acc.length = min xs.length ys.length → PairsAt H H' xs ys acc → Q (.ref p) H'
theorem zip_lister {s : Shared} {H : Hp} {vs : List V} {us : List Value} {Q : VK} (hc : X.calm = true) (I : Inv X pins σ H s) (r : Vals vs us) (h : rLZ X.K vs H Q) :
    wpAny (model X.prog X.w) X.A (call (.type "zip") us) (fun v s1 => wpAny (model X.prog X.w) X.A (call (.type "list") [v]) (EP X pins σ Q) X.xe s1) X.xe s := by
  obtain ⟨a, b, xs, ys, rfl, ha, hb, hlen, q⟩ := h
  cases r with
  | cons r1 rr =>
    cases rr with
    | cons r2 rr =>
      cases rr
      cases r1
      cases r2
      obtain ⟨its, rv, p1, _⟩ := I.tuple ha
      obtain ⟨its2, rv2, p2, _⟩ := I.tuple hb
      obtain ⟨o1, ho1, _⟩ := id p1
      obtain ⟨o2, ho2, _⟩ := id p2
      refine RZ.call_zipT (show s.heap.IsTuple a its.toArray from p1) (show s.heap.IsTuple b its2.toArray from p2) fun g gz gTI gTO g1 g2' gsz gk => ?_
      have D := PySem.W.ktu_apart s.heap.objs.size a b (Heap.lt_size ho1) (Heap.lt_size ho2)
      have I1 : Inv X pins σ H { s with heap := g } := I.kept (t' := s.toks) gk
      have fresh : ∀ c, c ∈ [s.heap.objs.size + 4, s.heap.objs.size + 2, s.heap.objs.size + 3, s.heap.objs.size, s.heap.objs.size + 1] → s.heap.objs.size ≤ c ∧ c < g.objs.size := fun c hcm => by
        have e : c = s.heap.objs.size + 4 ∨ c = s.heap.objs.size + 2 ∨ c = s.heap.objs.size + 3 ∨ c = s.heap.objs.size ∨ c = s.heap.objs.size + 1 := by simpa using hcm
        rw [gsz]
        rcases e with z | z | z | z | z <;> rw [z] <;> exact ⟨by first | exact Nat.le_refl _ | exact Nat.le_add_right _ _, by simp⟩
      have fresh5 : ∀ c, c ∈ [s.heap.objs.size + 4, s.heap.objs.size + 2, s.heap.objs.size + 3, s.heap.objs.size, s.heap.objs.size + 1] → FpOk X pins H c := fun c hcm => I.fpOk (fresh c hcm).1 (I.hok.fresh (fresh c hcm).1)
      refine callType_codes (Q₁ := fun v u => v = .ref g.objs.size ∧ u = { s with heap := g.push { cls := .type "list", data := .seq #[] } }) PySem.F.called_list (PySem.F.typeCall_list_1 _) PySem.F.entry_list_init (code_list_new _ ⟨rfl, rfl⟩) fun v u hu => ?_
      obtain ⟨rfl, rfl⟩ := hu
      have hS : (g.push { cls := .type "list", data := .seq #[] }).get? g.objs.size = some { cls := .type "list", data := .seq #[] } := Heap.get?_push_size _ rfl
      refine ⟨⟨_, hS, rfl⟩, PySem.F.args_list_init_2 _ _, ?_⟩
      have hn : H g.objs.size = none := I1.hok.fresh (Nat.le_refl _)
      have nS : g.objs.size ∉ [s.heap.objs.size + 4, s.heap.objs.size + 2, s.heap.objs.size + 3, s.heap.objs.size, s.heap.objs.size + 1] := fun hm => Nat.lt_irrefl _ (fresh _ hm).2
      show wpAny _ _ (do let old ← Builtin.List.listItems (.ref g.objs.size); Builtin.List.listUpdate (.ref g.objs.size) (fun _ => #[]); letGo old.toList.reverse; Builtin.List.listExtendWith (.ref g.objs.size) (.ref (s.heap.objs.size + 4)) .none) _ _ _
      refine wpAny_bind ?_
      unfold Builtin.List.listItems
      refine wpAny_bind (wpAny_seqItems hS rfl (wpAny_pure (show wpAny _ _ (updateSeq g.objs.size (fun _ => #[]) >>= fun _ => letGo (#[] : Array Value).toList.reverse >>= fun _ => Builtin.List.listExtendWith (.ref g.objs.size) (.ref (s.heap.objs.size + 4)) .none) _ _ _ from ?_)))
      refine wpAny_bind (wpAny_updateSeq hS rfl ?_)
      have hS2 := Heap.get?_update_self (Obj.mapSeq (fun _ => (#[] : Array Value))) hS rfl
      have oth2 : ∀ c o, c ≠ g.objs.size → g.get? c = some o → ((g.push { cls := .type "list", data := .seq #[] }).update g.objs.size (Obj.mapSeq (fun _ => (#[] : Array Value)))).get? c = some o :=
        fun c o hc e => (Heap.get?_update_other _ _ (Ne.symm hc)).trans (Heap.get?_push_of_some _ e)
      generalize ((g.push { cls := .type "list", data := .seq #[] }).update g.objs.size (Obj.mapSeq (fun _ => (#[] : Array Value)))) = g2 at hS2 oth2
      have zN : s.heap.objs.size + 4 ≠ g.objs.size := fun e => nS (by simp [e])
      have hz2 : IsZip g2 (s.heap.objs.size + 4) (s.heap.objs.size + 2) (s.heap.objs.size + 3) .none := oth2 _ _ zN gz
      refine wpAny_bind (wpAny_letGo ?_)
      unfold Builtin.List.listExtendWith
      have ty : ∀ tk, (⟨g2, s.gens, s.drawn, tk, s.os⟩ : Shared).TypeIs (.ref (s.heap.objs.size + 4)) "zip" := fun _ => ⟨_, hz2, rfl⟩
      refine wpAny_bind (wpAny_typeOf (T := "zip") (ty _) ?_)
      have h1 : Builtin.List.listSameRef (.ref g.objs.size) (.ref (s.heap.objs.size + 4)) = false := by simp [Builtin.List.listSameRef, Ne.symm zN]
      have h2 : (Value.type "zip" == Value.type "list") = false := by decide
      have h3 : (Value.type "zip" == Value.type "tuple") = false := by decide
      simp only [h1, h2, h3, Bool.or_false, Bool.false_eq_true, if_false]
      refine wpAny_bind (wpAny_pyIter_zip hz2 (wpAny_bind (wpAny_holding ?_)))
      unfold Builtin.List.listLengthHint
      refine wpAny_bind (wpAny_specialOf (ty _) zip_lens ?_)
      show wpAny _ _ (specialOf (Value.ref (s.heap.objs.size + 4)) (Str.ofString "__length_hint__") >>= _) _ _ _
      refine wpAny_bind (wpAny_specialOf (ty _) zip_hints (wpAny_pure ?_))
      show wpAny _ _ (rule "list.extend.makes-room" >>= fun _ => Builtin.List.listTouch (.ref g.objs.size) >>= fun _ => again (.builtin "list.extend.loop" ⟨[.ref g.objs.size, .ref (s.heap.objs.size + 4), .none], []⟩)) _ _ _
      refine wpAny_bind (wpAny_rule (wpAny_bind (show wpAny _ _ (updateSeq g.objs.size (·.push .none) >>= fun _ => updateSeq g.objs.size (·.pop)) _ _ _ from ?_)))
      refine wpAny_bind (wpAny_updateSeq hS2 rfl ?_)
      have hS3 := Heap.get?_update_self (Obj.mapSeq (·.push Value.none)) hS2 rfl
      refine wpAny_updateSeq (hz := by seq_fits) hS3 rfl ?_
      have hS4 := Heap.get?_update_self (Obj.mapSeq (·.pop)) hS3 rfl
      have oth4 : ∀ c o, c ≠ g.objs.size → g.get? c = some o → ((g2.update g.objs.size (Obj.mapSeq (·.push Value.none))).update g.objs.size (Obj.mapSeq (·.pop))).get? c = some o :=
        fun c o hc e => (Heap.get?_update_other _ _ (Ne.symm hc)).trans ((Heap.get?_update_other _ _ (Ne.symm hc)).trans (oth2 c o hc e))
      generalize ((g2.update g.objs.size (Obj.mapSeq (·.push Value.none))).update g.objs.size (Obj.mapSeq (·.pop))) = g4 at hS4 oth4
      have ne : ∀ c o, g.get? c = some o → c ≠ g.objs.size := fun c o e => Nat.ne_of_lt (Heap.lt_size e)
      have old4 : ∀ c o, g.get? c = some o → g4.get? c = some o := fun c o e => oth4 c o (ne c o e) e
      have I2 : Inv X pins σ (upd H g.objs.size (HO.lst [])) { s with heap := g4 } := I1.laid (t' := s.toks) old4 (Nat.le_refl _) ⟨Nat.zero_le _, [], _, .nil, hS4⟩
      have up : ∀ c o, H c = some o → upd H g.objs.size (HO.lst []) c = some o := fun c o e => by
        rw [upd_ne (fun z => by rw [z, hn] at e; cases e)]
        exact e
      have g4sz : g.objs.size < g4.objs.size := Heap.lt_size hS4
      refine wpAny_pure ⟨plainId_quiet PySem.F.plain_extend_loop _, zip_fill (HB := H) (A := X.A.in1) (by simp [I.ok.hd hc]) D nS hlen (min xs.length ys.length) 0 { s with heap := g4 } _ [] (by omega) (Nat.zero_le _) I2 (fun c hcm => ?_) ⟨.inl ⟨rfl, old4 _ _ gz, old4 _ _ gTO⟩, old4 _ _ gTI, g1.at fun o e => old4 _ o e, g2'.at fun o e => old4 _ o e, fun c hcm => ?_⟩ (sqt_mono up ha) (sqt_mono up hb) upd_same rfl (fun j v hv => by simp at hv) (fun c hc' => ?_) fun s' H' acc kk I' e1 e2 e3 => ?_⟩
      · obtain ⟨x1, x⟩ := fresh5 c hcm
        exact ⟨by rw [upd_ne (fun e : c = g.objs.size => nS (by rw [← e]; exact hcm))]; exact x1, x⟩
      · exact Nat.lt_trans (fresh c hcm).2 g4sz
      · by_cases e1 : c = g.objs.size
        · rw [e1]; exact hn
        · rw [upd_ne e1] at hc'
          exact hc'
      · exact ⟨rfl, .ref g.objs.size, H', I', rfl, q _ acc H' hn (fun c o e => kk c o (fun z => by rw [z, hn] at e; cases e) (up c o e)) e1 e2 e3⟩
variable {e e2 : Expr} {ta : TA} {p p2 pos pr : Pos}
theorem pe_listZip (hc : X.calm = true) (hg : Gl X "list") (hm : X.mg "list" = none) (hg2 : Gl X "zip") (hm2 : X.mg "zip" = none) (ha : PA X [e, e2] ta)
    (hv : bootBuiltins "list" = some (.type "list") := by decide +kernel) (hs : starEach [e, e2] X.env = (false, eval e X.env) :: starEach [e2] X.env := by rfl) (hpl : (backTo pr (starEach [e2] X.env)).any (·.1) = false := by rfl)
    (hs2 : starEach [.Call (.Name "zip" p2) [e, e2] [] pr] X.env = (false, eval (.Call (.Name "zip" p2) [e, e2] [] pr) X.env) :: starEach [] X.env := by rfl) (hpl2 : (backTo pos (starEach [] X.env)).any (·.1) = false := by rfl) :
    PE X (.Call (.Name "list" p) [.Call (.Name "zip" p2) [e, e2] [] pr] [] pos) (fun σ H Q => ta σ H fun vs H1 => rLZ X.K vs H1 Q) := by
  refine ⟨fun pins s σ H Q I h => ?_⟩
  refine wpAny_Call_Name_kw (ld_blt I hg hm hv ?_)
  refine PyProof.Rows.callWith_type1 ?_ hs2 hpl2
  rw [hs2]
  show wpAny _ _ (spliced ((false, eval _ X.env) :: backTo pos (starEach [] X.env))) _ _ _
  refine Calls.spliced_cons ?_
  refine wpAny_Call_Name_kw (ld_blt I hg2 hm2 PyProof.Rows.boot_zip ?_)
  refine PyProof.Rows.callWith_type1 (thn (ha.run pr pins s σ H _ I h) fun us s1 ⟨vs, H1, I1, r1, q1⟩ => ?_) hs hpl
  refine thn (zip_lister hc I1 r1 q1) fun v s2 h2 => ?_
  exact Calls.spliced_nil h2
/-- over data: a new list of the pairs -/
def lListZip (V : WL) : WL := fun ρ g R => V ρ g fun ds g1 => match ds with
  | [.tuple xs, .tuple ys] => min xs.length ys.length ≤ sizeLine ∧ R (List.zipWith (fun x y => .tuple [x, y]) xs ys) g1
  | _ => False
theorem pairs_dq {K : PySem.W.Frag} {HB H : Hp} {B : List Addr} (hB : ∀ p, HB p = none → H p ≠ none → (∃ x y, H p = some (HO.tup [x, y])) → p ∉ B) : ∀ {xs ys : List V} {ds es : List PyData} {acc : List V}, DqAll K (Off B H) xs ds → DqAll K (Off B H) ys es → acc.length = min xs.length ys.length → PairsAt HB H xs ys acc → DqAll K (Off B H) acc (List.zipWith (fun x y => .tuple [x, y]) ds es)
  | [], _, _, _, acc, .nil, _, hl, _ => by
    simp at hl
    rw [hl]
    exact .nil
  | _ :: _, [], _, _, acc, .cons _ _, .nil, hl, _ => by
    simp at hl
    rw [hl]
    exact .nil
  | x :: xs, y :: ys, _, _, [], .cons _ _, .cons _ _, hl, _ => by simp at hl
  | x :: xs, y :: ys, _, _, v :: acc, .cons h1 t1, .cons h2 t2, hl, hp => by
    obtain ⟨p, x', y', e1, e2, e3, e4, e5⟩ := hp 0 v rfl
    cases e1
    cases e2
    cases e3
    refine .cons (.tup (.inl (.inl (off_in (hB p e5 (by rw [e4]; exact fun z => nomatch z) ⟨_, _, e4⟩) e4))) (.cons h1 (.cons h2 .nil))) (pairs_dq hB t1 t2 (by simp at hl; omega) fun j u hu => ?_)
    obtain ⟨p, x', y', e1, e2, e3, e4⟩ := hp (j + 1) u (by simpa using hu)
    exact ⟨p, x', y', e1, by simpa using e2, by simpa using e3, e4⟩
theorem vl_listZip {V : WL} (hc : X.calm = true) (hg : Gl X "list") (hm : X.mg "list" = none) (hg2 : Gl X "zip") (hm2 : X.mg "zip" = none) (ha : VA X [e, e2] V)
    (hv : bootBuiltins "list" = some (.type "list") := by decide +kernel) (hs : starEach [e, e2] X.env = (false, eval e X.env) :: starEach [e2] X.env := by rfl) (hpl : (backTo pr (starEach [e2] X.env)).any (·.1) = false := by rfl)
    (hs2 : starEach [.Call (.Name "zip" p2) [e, e2] [] pr] X.env = (false, eval (.Call (.Name "zip" p2) [e, e2] [] pr) X.env) :: starEach [] X.env := by rfl) (hpl2 : (backTo pos (starEach [] X.env)).any (·.1) = false := by rfl) :
    VL X (.Call (.Name "list" p) [.Call (.Name "zip" p2) [e, e2] [] pr] [] pos) (lListZip V) :=
  pe_weak (pe_listZip hc hg hm hg2 hm2 ha hv hs hpl hs2 hpl2) fun σ H Q ⟨a, H0, O0, O, ρ, g, R, r, w, q⟩ => ⟨a, H0, O0, O, ρ, g, _, r, w, fun ds g1 vs H1 k1 r1 d1 w1 => by
    match ds, d1, w1 with
    | [.tuple xs, .tuple ys], .cons (.tup (a := l1) (xs := us1) h1 h2) (.cons (.tup (a := l2) (xs := us2) h3 h4) .nil), w1 =>
      refine ⟨l1, l2, us1, us2, rfl, sqt_mono off_out h1, sqt_mono off_out h3, by rw [h2.len, h4.len]; exact w1.1, fun p acc H2 hp s2 hx hl pa => ?_⟩
      have hp0 : H p = none := kp_none k1 r1.pen.live hp
      have eH : upd (fun c => if c = p then none else H2 c) p (HO.lst acc) = H2 := by
        funext c
        unfold upd
        by_cases z : c = p
        · rw [if_pos z, z]; exact hx.symm
        · rw [if_neg z]
          exact if_neg z
      have sm : Sub H1 (fun c => if c = p then none else H2 c) := fun c o e => by
        have z : c ≠ p := fun z => by rw [z, hp] at e; cases e
        show (if c = p then none else H2 c) = some o
        rw [if_neg z]
        exact s2 c o e
      have r2 := (r1.ext sm).hide (o := HO.lst acc) (p := p) (by show (if p = p then none else H2 p) = none; rw [if_pos rfl])
      rw [eH] at r2
      have sO : Sub (Off (a :: O) H1) (Off (a :: p :: O) H2) := fun c o e => by
        obtain ⟨n, e⟩ := off_some.mp e
        refine off_in (fun hm => ?_) (s2 c o e)
        rcases List.mem_cons.mp hm with z | hm
        · exact n (z ▸ List.mem_cons_self)
        · rcases List.mem_cons.mp hm with z | hm
          · rw [z, hp] at e; cases e
          · exact n (List.mem_cons_of_mem _ hm)
      refine q _ g1 p acc H2 (k1.trans (Kp.of s2)) r2 hp0 hx (pairs_dq (HB := H1) (fun c hc _ ht hm => ?_) (h2.to sO) (h4.to sO) hl pa) w1.2
      rcases List.mem_cons.mp hm with z | hm
      · exact r1.pen.live (z ▸ hc)
      · rcases List.mem_cons.mp hm with z | hm
        · obtain ⟨x, y, ht⟩ := ht
          rw [z, hx] at ht
          cases ht
        · exact r1.live c hm hc⟩
end
end Vl
/-! V31: == and in where one side is plain and the other may hold {}. -/
namespace Vl
open PySem PySem.Spec PyProof.Rows L2
namespace Dx
open PySem.SeqAt AutoSeq1 MeetsSeq
theorem no_none : isSubtype (.type "NoneType") (.type "dict") = pure false := by rw [isSubtype_type]; kernel_rfl
theorem no_bool : isSubtype (.type "bool") (.type "dict") = pure false := by rw [isSubtype_type]; kernel_rfl
theorem no_int : isSubtype (.type "int") (.type "dict") = pure false := by rw [isSubtype_type]; kernel_rfl
theorem no_str : isSubtype (.type "str") (.type "dict") = pure false := by rw [isSubtype_type]; kernel_rfl
theorem no_list : isSubtype (.type "list") (.type "dict") = pure false := by rw [isSubtype_type]; kernel_rfl
theorem no_tuple : isSubtype (.type "tuple") (.type "dict") = pure false := by rw [isSubtype_type]; kernel_rfl
theorem on_none : isSubtype (.type "dict") (.type "NoneType") = pure false := by rw [isSubtype_type]; kernel_rfl
theorem on_bool : isSubtype (.type "dict") (.type "bool") = pure false := by rw [isSubtype_type]; kernel_rfl
theorem on_int : isSubtype (.type "dict") (.type "int") = pure false := by rw [isSubtype_type]; kernel_rfl
theorem on_str : isSubtype (.type "dict") (.type "str") = pure false := by rw [isSubtype_type]; kernel_rfl
theorem on_list : isSubtype (.type "dict") (.type "list") = pure false := by rw [isSubtype_type]; kernel_rfl
theorem on_tuple : isSubtype (.type "dict") (.type "tuple") = pure false := by rw [isSubtype_type]; kernel_rfl
section
variable {prog : Program} {w : World} {A : Around} {E : Value → Shared → Prop} {s : Shared}
/-- {} == v, v no dict: no word -/
theorem dict_says {a : Addr} {v : Value} {T : String} {Q : Value → Shared → Prop} (ta : s.TypeIs (.ref a) "dict") (tv : s.TypeIs v T) (hT : isSubtype (.type T) (.type "dict") = pure false) (h : Q .notImplemented s) :
    wpAny (model prog w) A (call (.builtin "dict.__eq__") [.ref a, v]) Q E s := by
  refine wpAny_call_entry PySem.F.slot_dict_eq ta PySem.F.entry_dict_eq ?_ (PySem.F.args_dict_eq_2 _ _)
  show wpAny _ _ (Builtin.Dict.dictSlotArgs "__eq__" ⟨[.ref a, v], []⟩ >>= _) _ _ s
  refine wpAny_bind ?_
  unfold Builtin.Dict.dictSlotArgs
  refine wpAny_bind (wpAny_notOrdered_dict ta (show wpAny _ _ (pure (Value.ref a, v)) _ _ s from wpAny_pure ?_))
  refine wpAny_bind (wpAny_isInstance (T := T) tv hT ?_)
  simp only [Bool.not_false, if_true]
  exact wpAny_bind (wpAny_rule (wpAny_pure ⟨_, rfl, h⟩))
end
section
variable {A : Around} {s : Shared} {a l : Addr} {dd : Option Addr} {es : Array DictEntry} {ep : Nat} {sl : Array (Option Value)} {items : Array Value}
theorem int_says (b : Int) (u : Tok) (a : Addr) (dd : Option Addr) (es : Array DictEntry) (ep : Nat) (sl : Array (Option Value)) :
    Meets (Builtin.«int.__eq__» ⟨[.int b u, .ref a], []⟩) (fun _ R s => s.heap.get? a = some { cls := .type "dict", dict := dd, data := .dict es ep, slots := sl } ∧ R (.ok (.ret .notImplemented)) s) :=
  .of_wp fun prog w A R s h => by obtain ⟨hp, g, d, tk, os⟩ := s; obtain ⟨ha, h⟩ := h; have f1 := on_int; wp_walk using wpAny_loadPart' ha, wpAny_load ha; exact ⟨_, rfl, h⟩
theorem bool_says (b : Bool) (a : Addr) (dd : Option Addr) (es : Array DictEntry) (ep : Nat) (sl : Array (Option Value)) :
    Meets (Builtin.«int.__eq__» ⟨[.bool b, .ref a], []⟩) (fun _ R s => s.heap.get? a = some { cls := .type "dict", dict := dd, data := .dict es ep, slots := sl } ∧ R (.ok (.ret .notImplemented)) s) :=
  .of_wp fun prog w A R s h => by obtain ⟨hp, g, d, tk, os⟩ := s; obtain ⟨ha, h⟩ := h; have f1 := on_int; wp_walk using wpAny_loadPart' ha, wpAny_load ha; exact ⟨_, rfl, h⟩
theorem str_says (b : Str) (u : Tok) (a : Addr) (dd : Option Addr) (es : Array DictEntry) (ep : Nat) (sl : Array (Option Value)) :
    Meets (Builtin.«str.__eq__» ⟨[.str b u, .ref a], []⟩) (fun _ R s => s.heap.get? a = some { cls := .type "dict", dict := dd, data := .dict es ep, slots := sl } ∧ R (.ok (.ret .notImplemented)) s) :=
  .of_wp fun prog w A R s h => by obtain ⟨hp, g, d, tk, os⟩ := s; obtain ⟨ha, h⟩ := h; have f1 := on_str; wp_walk using wpAny_loadPart' ha, wpAny_load ha; exact ⟨_, rfl, h⟩
theorem list_says (l a : Addr) (items : Array Value) (n : Nat) (dd dd2 : Option Addr) (es : Array DictEntry) (ep : Nat) (sl sl2 : Array (Option Value)) :
    Meets (Builtin.«list.__eq__» ⟨[.ref l, .ref a], []⟩) (fun _ R s => s.heap.get? l = some { cls := .type "list", dict := dd, data := .seq items n, slots := sl } ∧ s.heap.get? a = some { cls := .type "dict", dict := dd2, data := .dict es ep, slots := sl2 } ∧ R (.ok (.ret .notImplemented)) s) :=
  .of_wp fun prog w A R s h => by obtain ⟨hp, g, d, tk, os⟩ := s; obtain ⟨hl, ha, h⟩ := h; have f1 := on_list; wp_walk using wpAny_loadPart' hl, wpAny_loadPart' ha; exact ⟨_, rfl, h⟩
theorem tuple_says (l a : Addr) (items : Array Value) (n : Nat) (dd dd2 : Option Addr) (es : Array DictEntry) (ep : Nat) (sl sl2 : Array (Option Value)) :
    Meets (Builtin.«tuple.__eq__» ⟨[.ref l, .ref a], []⟩) (fun _ R s => s.heap.get? l = some { cls := .type "tuple", dict := dd, data := .seq items n, slots := sl } ∧ s.heap.get? a = some { cls := .type "dict", dict := dd2, data := .dict es ep, slots := sl2 } ∧ R (.ok (.ret .notImplemented)) s) :=
  .of_wp fun prog w A R s h => by obtain ⟨hp, g, d, tk, os⟩ := s; obtain ⟨hl, ha, h⟩ := h; have f1 := on_tuple; wp_walk using wpAny_loadPart' hl, wpAny_loadPart' ha; exact ⟨_, rfl, h⟩
section
variable {o : Obj}
/-- an object that is a dict -/
structure DcO (h : Heap) (a : Addr) (o : Obj) : Prop where
  get : h.get? a = some o
  ex : ∃ dd es ep sl, o = { cls := .type "dict", dict := dd, data := .dict es ep, slots := sl }
theorem DcO.ty {h : Heap} (D : DcO s.heap a o) : s.TypeIs (.ref a) "dict" := by
  obtain ⟨dd, es, ep, sl, rfl⟩ := D.ex
  exact ⟨_, D.get, rfl⟩
theorem x_none (D : DcO s.heap a o) (hu : A.units < cLine) : RcAt A s .none (.ref a) false := fun prog w E Q h =>
  rc_eq_decline_or (k := false) rfl (D.ty (h := s.heap)) (by decide) on_none F.slot_NoneType_eq F.slot_dict_eq_refl
    (fun _ q => call_gives F.slot_NoneType_eq rfl F.entry_NoneType_eq (F.args_NoneType_eq_2 _ _) (NoneType___eq___none_ref_0 a) q) (fun _ q => dict_says (D.ty (h := s.heap)) rfl no_none q)
    (fun _ q => wpAny_of_eq (rfl : isSame .none (.ref a) = pure false) q) (.inr hu) h
theorem none_x (D : DcO s.heap a o) (hu : A.units < cLine) : RcAt A s (.ref a) .none false := fun prog w E Q h =>
  rc_eq_decline_or (k := false) (D.ty (h := s.heap)) rfl (by decide) no_none F.slot_dict_eq F.slot_NoneType_eq_refl
    (fun _ q => dict_says (D.ty (h := s.heap)) rfl no_none q) (fun _ q => call_gives F.slot_NoneType_eq_refl rfl F.entry_NoneType_eq (F.args_NoneType_eq_2 _ _) (NoneType___eq___none_ref_0 a) q)
    (fun _ q => wpAny_of_eq (rfl : isSame (.ref a) .none = pure false) q) (.inr hu) h
theorem x_bool (b : Bool) (D : DcO s.heap a o) (hu : A.units < cLine) : RcAt A s (.bool b) (.ref a) false := fun prog w E Q h => by
  have ty := D.ty (h := s.heap)
  obtain ⟨ho, dd, es, ep, sl, rfl⟩ := D
  exact rc_eq_decline_or (k := false) rfl ty (by decide) on_bool F.slot_bool_eq F.slot_dict_eq_refl
    (fun _ q => call_meets F.slot_bool_eq rfl F.entry_int_eq (F.args_int_eq_2 _ _) (bool_says b a dd es ep sl) ⟨ho, q⟩) (fun _ q => dict_says ty rfl no_bool q)
    (fun _ q => wpAny_of_eq (rfl : isSame (.bool b) (.ref a) = pure false) q) (.inr hu) h
theorem bool_x (b : Bool) (D : DcO s.heap a o) (hu : A.units < cLine) : RcAt A s (.ref a) (.bool b) false := fun prog w E Q h => by
  have ty := D.ty (h := s.heap)
  obtain ⟨ho, dd, es, ep, sl, rfl⟩ := D
  exact rc_eq_decline_or (k := false) ty rfl (by decide) no_bool F.slot_dict_eq F.slot_bool_eq_refl
    (fun _ q => dict_says ty rfl no_bool q) (fun _ q => call_meets F.slot_bool_eq_refl rfl F.entry_int_eq (F.args_int_eq_2 _ _) (bool_says b a dd es ep sl) ⟨ho, q⟩)
    (fun _ q => wpAny_of_eq (rfl : isSame (.ref a) (.bool b) = pure false) q) (.inr hu) h
theorem x_int (b : Int) (u : Tok) (D : DcO s.heap a o) (hu : A.units < cLine) : RcAt A s (.int b u) (.ref a) false := fun prog w E Q h => by
  have ty := D.ty (h := s.heap)
  obtain ⟨ho, dd, es, ep, sl, rfl⟩ := D
  exact rc_eq_decline_or (k := false) rfl ty (by decide) on_int F.slot_int_eq F.slot_dict_eq_refl
    (fun _ q => call_meets F.slot_int_eq rfl F.entry_int_eq (F.args_int_eq_2 _ _) (int_says b u a dd es ep sl) ⟨ho, q⟩) (fun _ q => dict_says ty rfl no_int q)
    (fun _ q => wpAny_of_eq (rfl : isSame (.int b u) (.ref a) = pure false) q) (.inr hu) h
theorem int_x (b : Int) (u : Tok) (D : DcO s.heap a o) (hu : A.units < cLine) : RcAt A s (.ref a) (.int b u) false := fun prog w E Q h => by
  have ty := D.ty (h := s.heap)
  obtain ⟨ho, dd, es, ep, sl, rfl⟩ := D
  exact rc_eq_decline_or (k := false) ty rfl (by decide) no_int F.slot_dict_eq F.slot_int_eq_refl
    (fun _ q => dict_says ty rfl no_int q) (fun _ q => call_meets F.slot_int_eq_refl rfl F.entry_int_eq (F.args_int_eq_2 _ _) (int_says b u a dd es ep sl) ⟨ho, q⟩)
    (fun _ q => wpAny_of_eq (rfl : isSame (.ref a) (.int b u) = pure false) q) (.inr hu) h
theorem x_str (b : Str) (u : Tok) (D : DcO s.heap a o) (hu : A.units < cLine) : RcAt A s (.str b u) (.ref a) false := fun prog w E Q h => by
  have ty := D.ty (h := s.heap)
  obtain ⟨ho, dd, es, ep, sl, rfl⟩ := D
  exact rc_eq_decline_or (k := false) (typeIs_str s b u) ty (by decide) on_str F.slot_str_eq F.slot_dict_eq_refl
    (fun _ q => call_meets F.slot_str_eq (typeIs_str s b u) F.entry_str_eq (F.args_str_eq_2 _ _) (str_says b u a dd es ep sl) ⟨ho, q⟩) (fun _ q => dict_says ty (typeIs_str s b u) no_str q)
    (fun _ q => wpAny_of_eq (rfl : isSame (.str b u) (.ref a) = pure false) q) (.inr hu) h
theorem str_x (b : Str) (u : Tok) (D : DcO s.heap a o) (hu : A.units < cLine) : RcAt A s (.ref a) (.str b u) false := fun prog w E Q h => by
  have ty := D.ty (h := s.heap)
  obtain ⟨ho, dd, es, ep, sl, rfl⟩ := D
  exact rc_eq_decline_or (k := false) ty (typeIs_str s b u) (by decide) no_str F.slot_dict_eq F.slot_str_eq_refl
    (fun _ q => dict_says ty (typeIs_str s b u) no_str q) (fun _ q => call_meets F.slot_str_eq_refl (typeIs_str s b u) F.entry_str_eq (F.args_str_eq_2 _ _) (str_says b u a dd es ep sl) ⟨ho, q⟩)
    (fun _ q => wpAny_of_eq (rfl : isSame (.ref a) (.str b u) = pure false) q) (.inr hu) h
theorem apart (D : DcO s.heap a o) {ol : Obj} (hl : s.heap.get? l = some ol) (hc : ol.cls ≠ .type "dict") : l ≠ a := fun e => by
  obtain ⟨ho, dd, es, ep, sl, rfl⟩ := D
  rw [e, ho] at hl
  cases hl
  exact hc rfl
theorem x_list (hl : s.heap.IsList l items) (D : DcO s.heap a o) (hu : A.units < cLine) : RcAt A s (.ref l) (.ref a) false := fun prog w E Q h => by
  have ty := D.ty (h := s.heap)
  obtain ⟨⟨cls, dl, dt, sl1⟩, hol, hc, n, hd⟩ := id hl
  simp only at hc hd
  subst hc hd
  have ne := apart D hol (by simp)
  obtain ⟨ho, dd, es, ep, sl, rfl⟩ := D
  exact rc_eq_decline_or (k := false) ⟨_, hol, rfl⟩ ty (by decide) on_list F.slot_list_eq F.slot_dict_eq_refl
    (fun _ q => call_meets F.slot_list_eq ⟨_, hol, rfl⟩ F.entry_list_eq (F.args_list_eq_2 _ _) (list_says l a items n dl dd es ep sl1 sl) ⟨hol, ho, q⟩) (fun _ q => dict_says ty ⟨_, hol, rfl⟩ no_list q)
    (fun _ q => wpAny_isSame_ref_other' ne hol ho (by simp) q) (.inr hu) h
theorem list_x (hl : s.heap.IsList l items) (D : DcO s.heap a o) (hu : A.units < cLine) : RcAt A s (.ref a) (.ref l) false := fun prog w E Q h => by
  have ty := D.ty (h := s.heap)
  obtain ⟨⟨cls, dl, dt, sl1⟩, hol, hc, n, hd⟩ := id hl
  simp only at hc hd
  subst hc hd
  have ne := apart D hol (by simp)
  obtain ⟨ho, dd, es, ep, sl, rfl⟩ := D
  exact rc_eq_decline_or (k := false) ty ⟨_, hol, rfl⟩ (by decide) no_list F.slot_dict_eq F.slot_list_eq_refl
    (fun _ q => dict_says ty ⟨_, hol, rfl⟩ no_list q) (fun _ q => call_meets F.slot_list_eq_refl ⟨_, hol, rfl⟩ F.entry_list_eq (F.args_list_eq_2 _ _) (list_says l a items n dl dd es ep sl1 sl) ⟨hol, ho, q⟩)
    (fun _ q => wpAny_isSame_ref_other' (Ne.symm ne) ho hol (by simp) q) (.inr hu) h
theorem same_other {x y : Addr} {ox oy : Obj} {M : Model} {E : Value → Shared → Prop} {R : Bool → Shared → Prop} (hxy : x ≠ y) (hx : s.heap.get? x = some ox) (hy : s.heap.get? y = some oy) (hnt : ox.cls ≠ .type "tuple")
    (h : R false s) : wpAny M A (isSame (.ref x) (.ref y)) R E s := by
  show wpAny M A (if (x == y) = true then pure true else _) R E s
  rw [if_neg (by simpa using hxy)]
  refine wpAny_bind (wpAny_load hx (wpAny_bind (wpAny_load hy ?_)))
  split
  · rename_i h1 _ _ _; exact absurd h1 hnt
  · exact wpAny_pure h
theorem x_tuple (hl : s.heap.IsTuple l items) (D : DcO s.heap a o) (hu : A.units < cLine) : RcAt A s (.ref l) (.ref a) false := fun prog w E Q h => by
  have ty := D.ty (h := s.heap)
  obtain ⟨⟨cls, dl, dt, sl1⟩, hol, hc, n, hd⟩ := id hl
  simp only at hc hd
  subst hc hd
  have ne := apart D hol (by simp)
  obtain ⟨ho, dd, es, ep, sl, rfl⟩ := D
  exact rc_eq_decline_or (k := false) ⟨_, hol, rfl⟩ ty (by decide) on_tuple F.slot_tuple_eq F.slot_dict_eq_refl
    (fun _ q => call_meets F.slot_tuple_eq ⟨_, hol, rfl⟩ F.entry_tuple_eq (F.args_tuple_eq_2 _ _) (tuple_says l a items n dl dd es ep sl1 sl) ⟨hol, ho, q⟩) (fun _ q => dict_says ty ⟨_, hol, rfl⟩ no_tuple q)
    (fun _ q => wpAny_isSame_ref_other' ne hol ho (by simp) q) (.inr hu) h
theorem tuple_x (hl : s.heap.IsTuple l items) (D : DcO s.heap a o) (hu : A.units < cLine) : RcAt A s (.ref a) (.ref l) false := fun prog w E Q h => by
  have ty := D.ty (h := s.heap)
  obtain ⟨⟨cls, dl, dt, sl1⟩, hol, hc, n, hd⟩ := id hl
  simp only at hc hd
  subst hc hd
  have ne := apart D hol (by simp)
  obtain ⟨ho, dd, es, ep, sl, rfl⟩ := D
  exact rc_eq_decline_or (k := false) ty ⟨_, hol, rfl⟩ (by decide) no_tuple F.slot_dict_eq F.slot_tuple_eq_refl
    (fun _ q => dict_says ty ⟨_, hol, rfl⟩ no_tuple q) (fun _ q => call_meets F.slot_tuple_eq_refl ⟨_, hol, rfl⟩ F.entry_tuple_eq (F.args_tuple_eq_2 _ _) (tuple_says l a items n dl dd es ep sl1 sl) ⟨hol, ho, q⟩)
    (fun _ q => same_other (Ne.symm ne) ho hol (by simp) q) (.inr hu) h
end
end
end Dx
/-! ### one side plain, the other without exceptions -/
def HP (d e : PyData) : Prop := (d.plain = true ∧ noX e = true) ∨ (noX d = true ∧ e.plain = true)
def HPs (ds es : List PyData) : Prop := (PyData.plainAll ds = true ∧ noXs es = true) ∨ (noXs ds = true ∧ PyData.plainAll es = true)
theorem HP.lists {xs ys : List PyData} (h : HP (.list xs) (.list ys)) : HPs xs ys := by
  rcases h with h | h
  · exact .inl ⟨by simpa [PyData.plain] using h.1, by simpa [noX] using h.2⟩
  · exact .inr ⟨by simpa [noX] using h.1, by simpa [PyData.plain] using h.2⟩
theorem HP.tuples {xs ys : List PyData} (h : HP (.tuple xs) (.tuple ys)) : HPs xs ys := by
  rcases h with h | h
  · exact .inl ⟨by simpa [PyData.plain] using h.1, by simpa [noX] using h.2⟩
  · exact .inr ⟨by simpa [noX] using h.1, by simpa [PyData.plain] using h.2⟩
theorem HPs.cons {x y : PyData} {xs ys : List PyData} (h : HPs (x :: xs) (y :: ys)) : HP x y ∧ HPs xs ys := by
  rcases h with ⟨h1, h2⟩ | ⟨h1, h2⟩
  · simp only [PyData.plainAll, noXs, Bool.and_eq_true] at h1 h2
    exact ⟨.inl ⟨h1.1, h2.1⟩, .inl ⟨h1.2, h2.2⟩⟩
  · simp only [PyData.plainAll, noXs, Bool.and_eq_true] at h1 h2
    exact ⟨.inr ⟨h1.1, h2.1⟩, .inr ⟨h1.2, h2.2⟩⟩
theorem HP.noDD {k l : List (PyData × PyData)} (h : HP (.dict k) (.dict l)) : False := by
  rcases h with ⟨h, _⟩ | ⟨_, h⟩ <;> simp [PyData.plain] at h
theorem HP.same {h : Heap} {d e : PyData} {v : Value} {as bs : List Addr} (p : HP d e) (r : Reads h v d as) (r2 : Reads h v e bs) : d = e ∧ d.plain = true := by
  rcases p with ⟨p, _⟩ | ⟨_, p⟩
  · exact ⟨SeqAt.plain_unique d e v as bs p r r2, p⟩
  · have q := SeqAt.plain_unique e d v bs as p r2 r
    exact ⟨q.symm, by rw [← q]; exact p⟩
section
open PySem.SeqAt
theorem dcO_of {h : Heap} {a : Addr} {o : Obj} {es : Array DictEntry} {n : Nat} (h1 : h.get? a = some o) (h2 : o.cls = .type "dict") (h3 : o.data = .dict es n) : Dx.DcO h a o := by
  refine ⟨h1, ?_⟩
  obtain ⟨cls, dd, da, sl⟩ := o
  simp only at h2 h3
  subst h2 h3
  exact ⟨dd, es, n, sl, rfl⟩
theorem EqAt.off {A : Around} {s : Shared} {v u : Value} {k : Bool} (hne : (v == u) = false) (h : RcAt A s v u k) (hv : ∀ b t, v ≠ .float b t) : EqAt A s v u k := fun prog w E Q q => by
  unfold eqBool
  refine wpAny_holding (wpAny_ite_split (fun z => by rw [hne] at z; cases z) fun _ => ?_)
  cases v <;> first | exact wpAny_bind (h prog w E _ (wpAny_truthy_bool q)) | exact absurd rfl (hv _ _)
mutual
theorem eqH : ∀ (d e : PyData) (A : Around) (s : Shared) (a b : Value) (as bs : List Addr), Reads s.heap a d as → Reads s.heap b e bs → HP d e → A.units + min d.depth e.depth < cLine → EqAt A s a b (PyData.eqv d e)
  | .dict kv, e, A, s, _, _, _, _, ra, rb, hp, hu => by
    cases ra with
    | dict h1 h2 h3 h4 h5 =>
      have D := dcO_of h1 h2 h3
      cases rb with
      | none => exact EqAt.off rfl (Dx.none_x D (room_here hu)) (fun _ _ z => nomatch z)
      | bool y => exact EqAt.off rfl (Dx.bool_x y D (room_here hu)) (fun _ _ z => nomatch z)
      | int y u => exact EqAt.off rfl (Dx.int_x y u D (room_here hu)) (fun _ _ z => nomatch z)
      | str y u => exact EqAt.off rfl (Dx.str_x y u D (room_here hu)) (fun _ _ z => nomatch z)
      | list k1 k2 k3 k4 => exact EqAt.of_refs (Ne.symm (Dx.apart D k1 (by rw [k2]; simp))) (Dx.list_x ⟨_, k1, k2, _, k3⟩ D (room_here hu))
      | tuple k1 k2 k3 k4 => exact EqAt.of_refs (Ne.symm (Dx.apart D k1 (by rw [k2]; simp))) (Dx.tuple_x ⟨_, k1, k2, _, k3⟩ D (room_here hu))
      | dict => exact hp.noDD.elim
  | .none, e, A, s, _, _, _, _, ra, rb, hp, hu => by
    cases ra
    cases rb with
    | none => exact EqAt.same _
    | bool y => exact EqAt.none_bool y
    | int y u => exact EqAt.none_int y u
    | str y u => exact EqAt.none_str y u
    | list k1 k2 k3 k4 => exact EqAt.none_list ⟨_, k1, k2, _, k3⟩ (room_here hu)
    | tuple k1 k2 k3 k4 => exact EqAt.none_tuple ⟨_, k1, k2, _, k3⟩ (room_here hu)
    | dict k1 k2 k3 k4 k5 => exact EqAt.off rfl (Dx.x_none (dcO_of k1 k2 k3) (room_here hu)) (fun _ _ z => nomatch z)
  | .bool x, e, A, s, _, _, _, _, ra, rb, hp, hu => by
    cases ra
    cases rb with
    | none => exact EqAt.bool_none x
    | bool y => exact EqAt.bool_bool x y
    | int y u => exact EqAt.bool_int x y u
    | str y u => exact EqAt.bool_str x y u
    | list k1 k2 k3 k4 => exact EqAt.bool_list x ⟨_, k1, k2, _, k3⟩ (room_here hu)
    | tuple k1 k2 k3 k4 => exact EqAt.bool_tuple x ⟨_, k1, k2, _, k3⟩ (room_here hu)
    | dict k1 k2 k3 k4 k5 => exact EqAt.off rfl (Dx.x_bool x (dcO_of k1 k2 k3) (room_here hu)) (fun _ _ z => nomatch z)
  | .int x, e, A, s, _, _, _, _, ra, rb, hp, hu => by
    cases ra with
    | int _ t =>
      cases rb with
      | none => exact EqAt.int_none x t
      | bool y => exact EqAt.int_bool x t y
      | int y u => exact EqAt.int_int x t y u
      | str y u => exact EqAt.int_str x t y u
      | list k1 k2 k3 k4 => exact EqAt.int_list x t ⟨_, k1, k2, _, k3⟩ (room_here hu)
      | tuple k1 k2 k3 k4 => exact EqAt.int_tuple x t ⟨_, k1, k2, _, k3⟩ (room_here hu)
      | dict k1 k2 k3 k4 k5 => exact EqAt.off rfl (Dx.x_int x t (dcO_of k1 k2 k3) (room_here hu)) (fun _ _ z => nomatch z)
  | .str x, e, A, s, _, _, _, _, ra, rb, hp, hu => by
    cases ra with
    | str _ t =>
      cases rb with
      | none => exact EqAt.str_none x t
      | bool y => exact EqAt.str_bool x t y
      | int y u => exact EqAt.str_int x t y u
      | str y u => exact EqAt.str_str x t y u
      | list k1 k2 k3 k4 => exact EqAt.str_list x t ⟨_, k1, k2, _, k3⟩ (room_here hu)
      | tuple k1 k2 k3 k4 => exact EqAt.str_tuple x t ⟨_, k1, k2, _, k3⟩ (room_here hu)
      | dict k1 k2 k3 k4 k5 => exact EqAt.off rfl (Dx.x_str x t (dcO_of k1 k2 k3) (room_here hu)) (fun _ _ z => nomatch z)
  | .list xs, e, A, s, _, _, _, _, ra, rb, hp, hu => by
    have ra' := ra
    have rb' := rb
    cases ra with
    | @list l o vs n _ as1 h1 h2 h3 h4 =>
      have hl : s.heap.IsList l vs := ⟨_, h1, h2, _, h3⟩
      cases rb with
      | none => exact EqAt.list_none hl (room_here hu)
      | bool y => exact EqAt.list_bool y hl (room_here hu)
      | int y u => exact EqAt.list_int y u hl (room_here hu)
      | str y u => exact EqAt.list_str y u hl (room_here hu)
      | tuple k1 k2 k3 k4 => exact EqAt.list_tuple hl ⟨_, k1, k2, _, k3⟩ (room_here hu)
      | dict k1 k2 k3 k4 k5 =>
        have D := dcO_of k1 k2 k3
        exact EqAt.of_refs (Dx.apart D h1 (by rw [h2]; simp)) (Dx.x_list hl D (room_here hu))
      | @list l2 o2 vs2 n2 ys bs1 k1 k2 k3 k4 =>
        have hl2 : s.heap.IsList l2 vs2 := ⟨_, k1, k2, _, k3⟩
        have m1 : vs.size = xs.length := by simpa using ReadsAll.length _ _ _ h4
        have m2 : vs2.size = ys.length := by simpa using ReadsAll.length _ _ _ k4
        show EqAt A s (.ref l) (.ref l2) (PyData.eqvAll xs ys)
        by_cases hll : l = l2
        · subst hll
          obtain ⟨e, pe⟩ := hp.same ra' rb'
          injection e with e
          subst e
          rw [eqvAll_refl_plain xs (by simpa [PyData.plain] using pe)]
          exact EqAt.same _
        · by_cases hsz : vs.size = vs2.size
          · rw [← eqvAll_same_length (by omega : xs.length = ys.length), ← m1]
            refine EqAt.of_refs hll (RcAt.lists hl hl2 hsz (room_here hu) fun j j1 j2 => ?_)
            have q := eqHs xs ys A.in1 s vs.toList vs2.toList _ _ h4 k4 hp.lists (room_in hu) j (by simpa using j1) (by simpa using j2)
            simpa using q
          · rw [eqvAll_other_length (by omega : xs.length ≠ ys.length)]
            exact EqAt.of_refs hll (RcAt.lists_lengths hl hl2 (by simpa using hsz) (room_here hu))
  | .tuple xs, e, A, s, _, _, _, _, ra, rb, hp, hu => by
    have ra' := ra
    have rb' := rb
    cases ra with
    | @tuple l o vs n _ as1 h1 h2 h3 h4 =>
      have hl : s.heap.IsTuple l vs := ⟨_, h1, h2, _, h3⟩
      cases rb with
      | none => exact EqAt.tuple_none hl (room_here hu)
      | bool y => exact EqAt.tuple_bool y hl (room_here hu)
      | int y u => exact EqAt.tuple_int y u hl (room_here hu)
      | str y u => exact EqAt.tuple_str y u hl (room_here hu)
      | list k1 k2 k3 k4 => exact EqAt.tuple_list hl ⟨_, k1, k2, _, k3⟩ (room_here hu)
      | dict k1 k2 k3 k4 k5 =>
        have D := dcO_of k1 k2 k3
        exact EqAt.of_refs (Dx.apart D h1 (by rw [h2]; simp)) (Dx.x_tuple hl D (room_here hu))
      | @tuple l2 o2 vs2 n2 ys bs1 k1 k2 k3 k4 =>
        have hl2 : s.heap.IsTuple l2 vs2 := ⟨_, k1, k2, _, k3⟩
        have m1 : vs.size = xs.length := by simpa using ReadsAll.length _ _ _ h4
        have m2 : vs2.size = ys.length := by simpa using ReadsAll.length _ _ _ k4
        show EqAt A s (.ref l) (.ref l2) (PyData.eqvAll xs ys)
        by_cases hll : l = l2
        · subst hll
          obtain ⟨e, pe⟩ := hp.same ra' rb'
          injection e with e
          subst e
          rw [eqvAll_refl_plain xs (by simpa [PyData.plain] using pe)]
          exact EqAt.same _
        · rw [← eqvAll_eq xs ys, ← m1, ← m2]
          refine EqAt.of_refs hll (RcAt.tuples hl hl2 (room_here hu) fun j j1 j2 => ?_)
          have q := eqHs xs ys A.in1 s vs.toList vs2.toList _ _ h4 k4 hp.tuples (room_in hu) j (by simpa using j1) (by simpa using j2)
          simpa using q
theorem eqHs : ∀ (xs ys : List PyData) (A : Around) (s : Shared) (vs ws : List Value) (as bs : List Addr), ReadsAll s.heap vs xs as → ReadsAll s.heap ws ys bs → HPs xs ys →
    A.units + min (PyData.depthAll xs) (PyData.depthAll ys) < cLine → ∀ j (h1 : j < vs.length) (h2 : j < ws.length), EqAt A s vs[j] ws[j] (pairEq xs ys j)
  | [], _, _, _, _, _, _, _, ra, _, _, _, j, h1, _ => by cases ra; exact absurd h1 (Nat.not_lt_zero _)
  | _ :: _, [], _, _, _, _, _, _, _, rb, _, _, j, _, h2 => by cases rb; exact absurd h2 (Nat.not_lt_zero _)
  | x :: xs, y :: ys, A, s, _, _, _, _, ra, rb, hp, hu, j, h1, h2 => by
    obtain ⟨p1, p2⟩ := hp.cons
    cases ra with
    | cons r rs =>
      cases rb with
      | cons r' rs' =>
        cases j with
        | zero => exact eqH x y A s _ _ _ _ r r' p1 (room_head hu)
        | succ j => exact eqHs xs ys A s _ _ _ _ rs rs' p2 (room_tail hu) j (Nat.lt_of_succ_lt_succ h1) (Nat.lt_of_succ_lt_succ h2)
end
end
section
open PySem.SeqAt
theorem rcH {d e : PyData} {A : Around} {s : Shared} {a b : Value} {as bs : List Addr} (ra : Reads s.heap a d as) (rb : Reads s.heap b e bs) (hp : HP d e) (hu : A.units + min d.depth e.depth < cLine) : RcAt A s a b (PyData.eqv d e) := by
  cases ra with
  | dict h1 h2 h3 h4 h5 =>
    have D := dcO_of h1 h2 h3
    cases rb with
    | none => exact Dx.none_x D (room_here hu)
    | bool y => exact Dx.bool_x y D (room_here hu)
    | int y u => exact Dx.int_x y u D (room_here hu)
    | str y u => exact Dx.str_x y u D (room_here hu)
    | list k1 k2 k3 k4 => exact Dx.list_x ⟨_, k1, k2, _, k3⟩ D (room_here hu)
    | tuple k1 k2 k3 k4 => exact Dx.tuple_x ⟨_, k1, k2, _, k3⟩ D (room_here hu)
    | dict => exact hp.noDD.elim
  | none =>
    cases rb with
    | none => exact RcAt.none_none
    | bool y => exact RcAt.none_bool y
    | int y u => exact RcAt.none_int y u
    | str y u => exact RcAt.none_str y u
    | list k1 k2 k3 k4 => exact RcAt.none_list ⟨_, k1, k2, _, k3⟩ (room_here hu)
    | tuple k1 k2 k3 k4 => exact RcAt.none_tuple ⟨_, k1, k2, _, k3⟩ (room_here hu)
    | dict k1 k2 k3 k4 k5 => exact Dx.x_none (dcO_of k1 k2 k3) (room_here hu)
  | bool x =>
    cases rb with
    | none => exact RcAt.bool_none x
    | bool y => exact RcAt.bool_bool x y
    | int y u => exact RcAt.bool_int x y u
    | str y u => exact RcAt.bool_str x y u
    | list k1 k2 k3 k4 => exact RcAt.bool_list x ⟨_, k1, k2, _, k3⟩ (room_here hu)
    | tuple k1 k2 k3 k4 => exact RcAt.bool_tuple x ⟨_, k1, k2, _, k3⟩ (room_here hu)
    | dict k1 k2 k3 k4 k5 => exact Dx.x_bool x (dcO_of k1 k2 k3) (room_here hu)
  | int x t =>
    cases rb with
    | none => exact RcAt.int_none x t
    | bool y => exact RcAt.int_bool x t y
    | int y u => exact RcAt.int_int x t y u
    | str y u => exact RcAt.int_str x t y u
    | list k1 k2 k3 k4 => exact RcAt.int_list x t ⟨_, k1, k2, _, k3⟩ (room_here hu)
    | tuple k1 k2 k3 k4 => exact RcAt.int_tuple x t ⟨_, k1, k2, _, k3⟩ (room_here hu)
    | dict k1 k2 k3 k4 k5 => exact Dx.x_int x t (dcO_of k1 k2 k3) (room_here hu)
  | str x t =>
    cases rb with
    | none => exact RcAt.str_none x t
    | bool y => exact RcAt.str_bool x t y
    | int y u => exact RcAt.str_int x t y u
    | str y u => exact RcAt.str_str x t y u
    | list k1 k2 k3 k4 => exact RcAt.str_list x t ⟨_, k1, k2, _, k3⟩ (room_here hu)
    | tuple k1 k2 k3 k4 => exact RcAt.str_tuple x t ⟨_, k1, k2, _, k3⟩ (room_here hu)
    | dict k1 k2 k3 k4 k5 => exact Dx.x_str x t (dcO_of k1 k2 k3) (room_here hu)
  | @list l o vs n xs as1 h1 h2 h3 h4 =>
    have hl : s.heap.IsList l vs := ⟨_, h1, h2, _, h3⟩
    cases rb with
    | none => exact RcAt.list_none hl (room_here hu)
    | bool y => exact RcAt.list_bool y hl (room_here hu)
    | int y u => exact RcAt.list_int y u hl (room_here hu)
    | str y u => exact RcAt.list_str y u hl (room_here hu)
    | tuple k1 k2 k3 k4 => exact RcAt.list_tuple hl ⟨_, k1, k2, _, k3⟩ (room_here hu)
    | dict k1 k2 k3 k4 k5 => exact Dx.x_list hl (dcO_of k1 k2 k3) (room_here hu)
    | @list l2 o2 vs2 n2 ys bs1 k1 k2 k3 k4 =>
      have hl2 : s.heap.IsList l2 vs2 := ⟨_, k1, k2, _, k3⟩
      have m1 : vs.size = xs.length := by simpa using ReadsAll.length _ _ _ h4
      have m2 : vs2.size = ys.length := by simpa using ReadsAll.length _ _ _ k4
      show RcAt A s (.ref l) (.ref l2) (PyData.eqvAll xs ys)
      by_cases hsz : vs.size = vs2.size
      · rw [← eqvAll_same_length (by omega : xs.length = ys.length), ← m1]
        refine RcAt.lists hl hl2 hsz (room_here hu) fun j j1 j2 => ?_
        have q := eqHs xs ys A.in1 s vs.toList vs2.toList _ _ h4 k4 hp.lists (room_in hu) j (by simpa using j1) (by simpa using j2)
        simpa using q
      · rw [eqvAll_other_length (by omega : xs.length ≠ ys.length)]
        exact RcAt.lists_lengths hl hl2 (by simpa using hsz) (room_here hu)
  | @tuple l o vs n xs as1 h1 h2 h3 h4 =>
    have hl : s.heap.IsTuple l vs := ⟨_, h1, h2, _, h3⟩
    cases rb with
    | none => exact RcAt.tuple_none hl (room_here hu)
    | bool y => exact RcAt.tuple_bool y hl (room_here hu)
    | int y u => exact RcAt.tuple_int y u hl (room_here hu)
    | str y u => exact RcAt.tuple_str y u hl (room_here hu)
    | list k1 k2 k3 k4 => exact RcAt.tuple_list hl ⟨_, k1, k2, _, k3⟩ (room_here hu)
    | dict k1 k2 k3 k4 k5 => exact Dx.x_tuple hl (dcO_of k1 k2 k3) (room_here hu)
    | @tuple l2 o2 vs2 n2 ys bs1 k1 k2 k3 k4 =>
      have hl2 : s.heap.IsTuple l2 vs2 := ⟨_, k1, k2, _, k3⟩
      have m1 : vs.size = xs.length := by simpa using ReadsAll.length _ _ _ h4
      have m2 : vs2.size = ys.length := by simpa using ReadsAll.length _ _ _ k4
      show RcAt A s (.ref l) (.ref l2) (PyData.eqvAll xs ys)
      rw [← eqvAll_eq xs ys, ← m1, ← m2]
      refine RcAt.tuples hl hl2 (room_here hu) fun j j1 j2 => ?_
      have q := eqHs xs ys A.in1 s vs.toList vs2.toList _ _ h4 k4 hp.tuples (room_in hu) j (by simpa using j1) (by simpa using j2)
      simpa using q
end
theorem HP.nox {d e : PyData} (h : HP d e) : noX d = true ∧ noX e = true := by
  rcases h with h | h
  · exact ⟨noX_plain d h.1, h.2⟩
  · exact ⟨h.1, noX_plain e h.2⟩
/-! ### the rules -/
def rEqH (K : PySem.W.Frag) : R2 := fun x y H Q => ∃ d e, Dq K H x d ∧ Dq K H y e ∧ HP d e ∧ min d.depth e.depth ≤ 60 ∧ Q (.bl (PyData.eqv d e)) H
theorem op_eqH {X : Cx} (hu : X.A.units + 64 < cLine) : OpR X (compareOp .Eq) (rEqH X.K) := by
  intro pins s σ H x y v u Q I rx ry h
  obtain ⟨d, e, hd, he, hp, hz, q⟩ := h
  obtain ⟨as, r1⟩ := Dq.reads I d x v hp.nox.1 hd rx
  obtain ⟨bs, r2⟩ := Dq.reads I e y u hp.nox.2 he ry
  exact rcH r1 r2 hp (by omega) X.prog X.w X.xe (EP X pins σ Q) ⟨.bl _, H, I, rfl, q⟩
def fEqH : F2 := fun d e R => (HP d e ∧ min d.depth e.depth ≤ 60) ∧ R (.bool (PyData.eqv d e))
theorem opS_eqH {K : PySem.W.Frag} : OpS K (rEqH K) fEqH := fun A H x y dx dy R Q hA hx hy w q =>
  ⟨dx, dy, hx.to off_out, hy.to off_out, w.1.1, w.1.2, q _ _ H (Sub.refl _) (.bl _) w.2⟩
def rInH (K : PySem.W.Frag) (neg : Bool) : R2 := fun x y H Q => ∃ d c xs, Dq K H x d ∧ Dq K H y c ∧ noX d = true ∧ itemsD c = some xs ∧ PyData.plainAll xs = true ∧ min (PyData.depthAll xs) d.depth ≤ 60 ∧ Q (.bl (if neg = true then !(xs.any fun y => PyData.eqv y d) else xs.any fun y => PyData.eqv y d)) H
section
open PySem.SeqAt
theorem itemsH {h : Shared} {A : Around} {x : Value} {d : PyData} {xs : List PyData} {vs : Array Value} {as bs : List Addr} (rs : ReadsAll h.heap vs.toList xs as) (rx : Reads h.heap x d bs) (hxs : PyData.plainAll xs = true) (hd : noX d = true)
    (hu : A.units + 1 + min (PyData.depthAll xs) d.depth < cLine) : ∀ y, y ∈ vs → EqAt A.in1 h y x (PyData.eqv (readOf h.heap y) d) := fun y hy => by
  obtain ⟨dy, cs, ry, hcy, hle⟩ := readsAll_mem_plain xs _ _ hxs rs y (by simpa using hy)
  rw [readOf_plain hcy ry]
  have h1 : min dy.depth d.depth ≤ min (PyData.depthAll xs) d.depth := Nat.le_min.mpr ⟨Nat.le_trans (Nat.min_le_left _ _) hle, Nat.min_le_right _ _⟩
  refine eqH dy d A.in1 h y x _ _ ry rx (.inl ⟨hcy, hd⟩) ?_
  show A.units + 1 + min dy.depth d.depth < cLine
  omega
end
theorem op_inH {X : Cx} (hu : X.A.units + 64 < cLine) : OpR X (compareOp .In) (rInH X.K false) := by
  intro pins s σ H x y v u Q I rx ry h
  obtain ⟨d, c, xs, hd, hc, nd, hi, pa, hz, q⟩ := h
  obtain ⟨as, r1⟩ := Dq.reads I d x v nd hd rx
  have nc : noX c = true := by
    cases c <;> cases hi <;> (simp only [noX]; exact noXs_plain _ pa)
  obtain ⟨bs, r2⟩ := Dq.reads I c y u nc hc ry
  have fin : ∀ b, b = (xs.any fun y => PyData.eqv y d) → EP X pins σ Q (.bool b) s := fun b e => ⟨.bl b, H, I, rfl, by rw [e]; exact q⟩
  cases c <;> cases hi
  · cases r2 with
    | list h1 h2 h3 h4 => exact SeqAt.in_listAt _ ⟨_, h1, h2, _, h3⟩ (itemsH h4 r1 pa nd (by omega)) (fin _ (SeqAt.any_plain h4 pa))
  · cases r2 with
    | tuple h1 h2 h3 h4 => exact SeqAt.in_tupleAt _ ⟨_, h1, h2, _, h3⟩ (itemsH h4 r1 pa nd (by omega)) (fin _ (SeqAt.any_plain h4 pa))
theorem op_niH {X : Cx} (hu : X.A.units + 64 < cLine) : OpR X (compareOp .NotIn) (rInH X.K true) := by
  intro pins s σ H x y v u Q I rx ry h
  obtain ⟨d, c, xs, hd, hc, nd, hi, pa, hz, q⟩ := h
  obtain ⟨as, r1⟩ := Dq.reads I d x v nd hd rx
  have nc : noX c = true := by
    cases c <;> cases hi <;> (simp only [noX]; exact noXs_plain _ pa)
  obtain ⟨bs, r2⟩ := Dq.reads I c y u nc hc ry
  have fin : ∀ b, b = (xs.any fun y => PyData.eqv y d) → EP X pins σ Q (.bool (!b)) s := fun b e => ⟨.bl (!b), H, I, rfl, by rw [e]; exact q⟩
  cases c <;> cases hi
  · cases r2 with
    | list h1 h2 h3 h4 => exact SeqAt.notIn_listAt _ ⟨_, h1, h2, _, h3⟩ (itemsH h4 r1 pa nd (by omega)) (fin _ (SeqAt.any_plain h4 pa))
  · cases r2 with
    | tuple h1 h2 h3 h4 => exact SeqAt.notIn_tupleAt _ ⟨_, h1, h2, _, h3⟩ (itemsH h4 r1 pa nd (by omega)) (fin _ (SeqAt.any_plain h4 pa))
def fInH : F2 := fun d c R => ∃ xs, itemsD c = some xs ∧ (PyData.plainAll xs = true ∧ noX d = true ∧ min (PyData.depthAll xs) d.depth ≤ 60) ∧ R (.bool (xs.any fun y => PyData.eqv y d))
def fNiH : F2 := fun d c R => ∃ xs, itemsD c = some xs ∧ (PyData.plainAll xs = true ∧ noX d = true ∧ min (PyData.depthAll xs) d.depth ≤ 60) ∧ R (.bool (!(xs.any fun y => PyData.eqv y d)))
theorem opS_inH {K : PySem.W.Frag} : OpS K (rInH K false) fInH := fun A H x y dx dy R Q hA hx hy ⟨xs, h1, h2, w⟩ q =>
  ⟨dx, dy, xs, hx.to off_out, hy.to off_out, h2.2.1, h1, h2.1, h2.2.2, q _ _ H (Sub.refl _) (.bl _) w⟩
theorem opS_niH {K : PySem.W.Frag} : OpS K (rInH K true) fNiH := fun A H x y dx dy R Q hA hx hy ⟨xs, h1, h2, w⟩ q =>
  ⟨dx, dy, xs, hx.to off_out, hy.to off_out, h2.2.1, h1, h2.1, h2.2.2, q _ _ H (Sub.refl _) (.bl _) w⟩
/-- < of texts -/
def fLtS : F2 := fun x y R => match x, y with
  | .str i, .str j => R (.bool (decide (i.cps.toList < j.cps.toList)))
  | _, _ => False
theorem opS_ltS {K : PySem.W.Frag} : OpS K (fun x y H Q => ∃ i j, x = V.str i ∧ y = V.str j ∧ Q (.bl (decide (i.cps.toList < j.cps.toList))) H) fLtS := fun A H x y dx dy R Q _ hx hy w q => by
  cases dx <;> try exact w.elim
  cases dy <;> try exact w.elim
  cases hx
  cases hy
  exact ⟨_, _, rfl, rfl, q _ _ H (Sub.refl _) (.bl _) w⟩
section
variable {X : Cx} {e a b c : Expr} {es rest : List Expr} {pos : Pos} {W Wa Wb Wc : WE}
theorem v_eqH (hu : X.A.units + 64 < cLine) (ha : VE X a Wa) (hb : VE X b Wb) : VE X (.Compare a [.Eq] [b] pos) (wOp fEqH Wa Wb) := v_cmp (op_eqH hu) opS_eqH ha hb (nomark _)
theorem t_eqH (hu : X.A.units + 64 < cLine) (ha : VE X a Wa) (hb : VE X b Wb) : VT X (.Compare a [.Eq] [b] pos) (wB (wOp fEqH Wa Wb)) := t_cmp (op_eqH hu) opS_eqH ha hb (nomark _)
theorem v_inH (hu : X.A.units + 64 < cLine) (ha : VE X a Wa) (hb : VE X b Wb) (hm : behindInMarks .In b = false := by rfl) : VE X (.Compare a [.In] [b] pos) (wOp fInH Wa Wb) := v_cmp (op_inH hu) opS_inH ha hb hm
theorem v_niH (hu : X.A.units + 64 < cLine) (ha : VE X a Wa) (hb : VE X b Wb) (hm : behindInMarks .NotIn b = false := by rfl) : VE X (.Compare a [.NotIn] [b] pos) (wOp fNiH Wa Wb) := v_cmp (op_niH hu) opS_niH ha hb hm
theorem t_inH (hu : X.A.units + 64 < cLine) (ha : VE X a Wa) (hb : VE X b Wb) (hm : behindInMarks .In b = false := by rfl) : VT X (.Compare a [.In] [b] pos) (wB (wOp fInH Wa Wb)) := t_cmp (op_inH hu) opS_inH ha hb hm
theorem t_niH (hu : X.A.units + 64 < cLine) (ha : VE X a Wa) (hb : VE X b Wb) (hm : behindInMarks .NotIn b = false := by rfl) : VT X (.Compare a [.NotIn] [b] pos) (wB (wOp fNiH Wa Wb)) := t_cmp (op_niH hu) opS_niH ha hb hm
theorem v_ltS (ha : VE X a Wa) (hb : VE X b Wb) : VE X (.Compare a [.Lt] [b] pos) (wOp fLtS Wa Wb) := v_cmp op_lt_str opS_ltS ha hb (nomark _)
theorem t_ltS (ha : VE X a Wa) (hb : VE X b Wb) : VT X (.Compare a [.Lt] [b] pos) (wB (wOp fLtS Wa Wb)) := t_cmp op_lt_str opS_ltS ha hb (nomark _)
/-- a list times a number: a new list -/
def lMulL (Wa Wb : WE) : WL := fun ρ g R => Wa ρ g fun d g1 => Wb ρ g1 fun k g2 => ∃ xs i, d = .list xs ∧ k = .int i ∧ (-(2 ^ 63) ≤ i ∧ i < 2 ^ 63 ∧ xs.length * i.toNat ≤ sizeLine) ∧ R (List.replicate i.toNat xs).flatten g2
theorem vl_mulL (ha : VE X a Wa) (hb : VE X b Wb) : VL X (.BinOp a .Mult b pos) (lMulL Wa Wb) := pe_weak (pe_op op_rep ha hb) fun σ H Q ⟨a, H0, O0, O, ρ, g, R, r, w, q⟩ => ⟨a, H0, O0, O, ρ, g, _, r, w, fun d g1 v H1 k1 r1 d1 w1 => ⟨a, H0, O0, O, ρ, g1, _, r1, w1, fun k g2 u H2 k2 r2 d2 w2 => by
  obtain ⟨xs, i, rfl, rfl, hb, w2⟩ := w2
  have d1' := d1.to (off_kp k2)
  cases d2
  cases d1' with
  | @lst l us _ h1 h2 =>
    refine ⟨l, i, us, rfl, rfl, off_out _ _ h1, hb.1, hb.2.1, by rw [h2.len]; exact hb.2.2, fun p hp => ?_⟩
    have hp1 : H1 p = none := kp_none k2 r2.pen.live hp
    exact q _ g2 p _ _ ((k1.trans k2).trans (Kp.of (sub_upd hp))) (r2.hide hp) (kp_none k1 r1.pen.live hp1) upd_same ((h2.rep i.toNat).to (off_new hp)) w2⟩⟩
end
end Vl
/-! V32: comprehensions with any number of sources. -/
namespace Vl
open PySem PySem.Spec PyProof.Rows L2
/-- a source behind the first -/
structure Src where
  tg : Expr
  iter : Expr
  ifs : List Expr
abbrev Src.cl (s : Src) : Comprehension := ⟨s.tg, s.iter, s.ifs, 0⟩
/-- what it does: vs are the names of its target and of all behind it -/
structure SrcT where
  wi : TI
  g : TG
  tt : TT
  vs : List Nat
def tInn (te : TE) (D : Addr) : List SrcT → L2.St → Hp → (Hp → Prop) → Prop
  | [], σ, H, Nx => te σ H fun y H' => ∃ acc, H' D = some (.lst acc) ∧ acc.length < sizeLine ∧ Nx (upd H' D (.lst (acc ++ [y])))
  | q :: qs, σ, H, Nx => q.wi σ H fun J H' => ∃ W : Nat → Nat → Hp → Prop, (∃ m, W 0 m H') ∧ ∀ j k H1, W j k H1 →
      (J.stop j H1 ∧ Nx H1) ∨ (J.go j H1 ∧ ∃ N1 : Hp → Prop, (∀ H2, N1 H2 → ∃ k', k' < k ∧ W (j + 1) k' H2) ∧ ∀ x H2, J.yld j H1 x H2 → q.g x (wipe σ q.vs) H2 fun σ3 H3 => wipe σ3 q.vs = wipe σ q.vs ∧ q.tt σ3 H3 fun b H4 =>
        if b = true then tInn te D qs σ3 H4 N1 else N1 H4)
def wipeQ (σ : L2.St) : List SrcT → L2.St
  | [] => σ
  | q :: _ => wipe σ q.vs
section
variable {X : Cx}
structure SrcGo (X : Cx) (s : Src) (q : SrcT) : Prop where
  pi : PI X s.tg s.iter q.wi
  pg : PG X s.tg q.g
  pt : PTs X s.ifs q.tt
  fs : ∀ env x, foldedSetIterable s.iter env x = pure x
inductive SrcsGo (X : Cx) : List Nat → List Src → List SrcT → Prop
  | nil {vs : List Nat} : SrcsGo X vs [] []
  | cons {vs : List Nat} {s : Src} {q : SrcT} {ss : List Src} {qs : List SrcT} : SrcGo X s q → (∀ i ∈ q.vs, i ∈ vs) → SrcsGo X q.vs ss qs → SrcsGo X vs (s :: ss) (q :: qs)
theorem wipeQ_keeps {vs : List Nat} {ss : List Src} {qs : List SrcT} (h : SrcsGo X vs ss qs) {σ : L2.St} {j : Nat} {v : V} (e : (wipe σ vs)[j]? = some (some v)) : (wipeQ σ qs)[j]? = some (some v) := by
  obtain ⟨e1, e2⟩ := wipe_some e
  cases h with
  | nil => exact e1
  | cons _ hv _ => exact (wipe_out fun z => e2 (hv j z)).trans e1
theorem wipeQ_length (σ : L2.St) (qs : List SrcT) : (wipeQ σ qs).length = σ.length := by
  cases qs with
  | nil => rfl
  | cons q qs => exact wipe_length σ q.vs
end
section
variable {prog : Program} {w : World} {A : Around} {elt : Expr} {gens : List Comprehension} {scope : Scope} {pos : Pos} {it acc : Value} {env : Env}
/-- a source's turn: R tells what its tests let through, B the rest of the block -/
def turnOf (tg iter : Expr) (ifs : List Expr) (it : Value) (env : Env) (B go : Sem Fin) : Sem Fin := do
  standAt iter.pos
  match ← pyNext it with
  | none => pure (.done .next)
  | some v =>
    letOwnedTupleGo tg it v
    assign tg env v
    let ok ← forIn ifs true fun c r => if r = true then do let ok ← isTrue c env (eval c env); pure (ForInStep.yield ok) else pure (ForInStep.yield r)
    if ok = true then B else go
theorem turn_last {d : Nat} {tg iter : Expr} {ifs : List Expr} (h : gens[d]? = some ⟨tg, iter, ifs, 0⟩) (h1 : gens[d + 1]? = none) :
    compTurn (.ListComp elt gens scope pos) d it acc env = turnOf tg iter ifs it env (do
      (do let _ ← call (.builtin "list.append") [acc, ← eval elt env])
      again (.compLoop (.ListComp elt gens scope pos) d it acc env)) (again (.compLoop (.ListComp elt gens scope pos) d it acc env)) := by
  unfold compTurn turnOf
  simp only [h, h1]
  rfl
theorem turn_more {d : Nat} {tg iter tg1 iter1 : Expr} {ifs ifs1 : List Expr} (h : gens[d]? = some ⟨tg, iter, ifs, 0⟩) (h1 : gens[d + 1]? = some ⟨tg1, iter1, ifs1, 0⟩) :
    compTurn (.ListComp elt gens scope pos) d it acc env = turnOf tg iter ifs it env (do
      let x ← eval iter1 env
      standAt iter1.pos
      let x ← foldedSetIterable iter1 env x
      let _ ← runOwn (.compStart (.ListComp elt gens scope pos) (d + 1) (← holding [x] (pyIter x)) acc env) env
      again (.compLoop (.ListComp elt gens scope pos) d it acc env)) (again (.compLoop (.ListComp elt gens scope pos) d it acc env)) := by
  unfold compTurn turnOf
  simp only [h, h1]
  rfl
theorem start_ok {R : Result → Shared → Prop} {s : Shared} {d : Nat} {tg iter : Expr} {ifs : List Expr} (h : gens[d]? = some ⟨tg, iter, ifs, 0⟩)
    (h0 : codeAny (model prog w) A (.compLoop (.ListComp elt gens scope pos) d it acc env) R s)
    (h1 : wpAny (model prog w) A (pyIter it) (fun i s' => codeAny (model prog w) A (.compLoop (.ListComp elt gens scope pos) d i acc env) R s') (notedBy (model prog w) A env fun x s' => R (.error x) s') s) :
    codeAny (model prog w) A (.compStart (.ListComp elt gens scope pos) d it acc env) R s := by
  refine codeAny_of_tree ?_
  show wpAny _ _ (Sem.onRaise (compStart (.ListComp elt gens scope pos) d it acc env) _) _ _ s
  refine wpAny_notedAt ?_
  have hcl : (clausesOf (.ListComp elt gens scope pos))[d]? = some ⟨tg, iter, ifs, 0⟩ := h
  unfold compStart
  simp only [hcl]
  refine wpAny_bind (wpAny_askSetting (wpAny_ite ?_))
  split
  · exact wpAny_pure ⟨rfl, h0⟩
  · refine wpAny_bind (wpAny_rule (wpAny_bind (wpAny_standAt (wpAny_bind (wpAny_mono h1 (fun i s' hi => wpAny_pure ⟨rfl, hi⟩) fun _ _ x => x)))))
end
section
variable {Y : Cx} {elt : Expr} {gens : List Comprehension} {scope : Scope} {pos : Pos} {te : TE} {D : Addr}
theorem thnX {α : Type} {t : Sem α} {Q Q' : α → Shared → Prop} {M : Model} {A : Around} {E : Value → Shared → Prop} {s : Shared} (hx : Y.xe = fun _ _ => False) (h : wpAny M A t Q Y.xe s) (hQ : ∀ a s, Q a s → Q' a s) : wpAny M A t Q' E s :=
  thnF (hx ▸ h) hQ
/-- what a block does behind a source's tests, then the loop's next turn -/
def BodyOk (Y : Cx) (elt : Expr) (gens : List Comprehension) (scope : Scope) (pos : Pos) (te : TE) (D : Addr) (d : Nat) (qs : List SrcT) (B : Value → Sem Fin) : Prop :=
  ∀ (it : Value) (pins : List (Addr × Obj)) (s : Shared) (σ : L2.St) (H : Hp) (N1 : Hp → Prop) (Z : Fin → Shared → Prop) (E : Value → Shared → Prop), Inv Y pins σ H s → tInn te D qs σ H N1 →
    (∀ s' H', Inv Y pins (wipeQ σ qs) H' s' → N1 H' → Z (.again (.compLoop (.ListComp elt gens scope pos) d it (.ref D) Y.env)) s') → wpAny (model Y.prog Y.w) Y.A (B it) Z E s
/-- the turn of the source at d, with what its block does -/
def HasTurn (Y : Cx) (elt : Expr) (gens : List Comprehension) (scope : Scope) (pos : Pos) (te : TE) (D : Addr) (d : Nat) (s0 : Src) (qs : List SrcT) : Prop :=
  ∃ B : Value → Sem Fin, (∀ it, compTurn (.ListComp elt gens scope pos) d it (.ref D) Y.env = turnOf s0.tg s0.iter s0.ifs it Y.env (B it) (again (.compLoop (.ListComp elt gens scope pos) d it (.ref D) Y.env))) ∧ BodyOk Y elt gens scope pos te D d qs B
/-- a source's loop, when its block is known -/
theorem loop_by (hc : Y.calm = true) (hx : Y.xe = fun _ _ => False) {d : Nat} {s0 : Src} {q0 : SrcT} {ss : List Src} {qs : List SrcT} (k0g : PG Y s0.tg q0.g) (k0t : PTs Y s0.ifs q0.tt) (ks : SrcsGo Y q0.vs ss qs) (hB : HasTurn Y elt gens scope pos te D d s0 qs)
    {pins : List (Addr × Obj)} {s : Shared} {σ : L2.St} {H : Hp} {Nx : Hp → Prop} {it : Addr} {fp : List Addr} {tn : Nat → Heap → Prop} {J : It} {W : Nat → Nat → Hp → Prop} {m : Nat}
    (I : Inv Y pins (wipe σ q0.vs) H s) (T : Turn Y.prog Y.w Y.K s0.tg J fp it tn) (st : tn 0 s.heap) (hf : ∀ b ∈ fp, FpOk Y pins H b) (hw : W 0 m H)
    (turn : ∀ j k H1, W j k H1 → (J.stop j H1 ∧ Nx H1) ∨ (J.go j H1 ∧ ∃ N1 : Hp → Prop, (∀ H2, N1 H2 → ∃ k', k' < k ∧ W (j + 1) k' H2) ∧ ∀ x H2, J.yld j H1 x H2 → q0.g x (wipe σ q0.vs) H2 fun σ3 H3 => wipe σ3 q0.vs = wipe σ q0.vs ∧ q0.tt σ3 H3 fun b H4 =>
        if b = true then tInn te D qs σ3 H4 N1 else N1 H4)) :
    codeAny (model Y.prog Y.w) Y.A (.compLoop (.ListComp elt gens scope pos) d (.ref it) (.ref D) Y.env) (fun r s' => match r with
      | .ok f => f = .next ∧ ∃ H', Inv Y pins (wipe σ q0.vs) H' s' ∧ Nx H'
      | .error _ => False) s := by
  obtain ⟨B, hT, hB⟩ := hB
  have hff : ∀ {H' : Hp}, (∀ b ∈ fp, H' b = none) → ∀ b ∈ fp, FpOk Y pins H' b := fun hn b hb => ⟨hn b hb, (hf b hb).2⟩
  refine codeAny_loop rfl (fun k s' => ∃ j H', Inv Y pins (wipe σ q0.vs) H' s' ∧ tn j s'.heap ∧ (∀ b ∈ fp, H' b = none) ∧ W j k H') (fun k s1 ⟨j, H1, I1, st1, n1, w1⟩ => ?_) m ⟨0, H, I, st, fun b hb => (hf b hb).1, hw⟩
  show wpAny _ Y.A (Sem.onRaise (compTurn (.ListComp elt gens scope pos) d (.ref it) (.ref D) Y.env) _) _ _ s1
  refine wpAny_noted ?_
  rw [hT]
  refine wpAny_bind (wpAny_standAt (wpAny_bind ?_))
  rcases turn j k H1 w1 with ⟨stop, nx⟩ | ⟨go, N1, hN, step⟩
  · refine thnF (T.done Y rfl rfl rfl hc j pins s1 _ H1 (fun _ _ => False) I1 (hff n1) st1 stop) fun r s2 ⟨hr, I2⟩ => ?_
    subst hr
    exact wpAny_pure ⟨rfl, H1, I2, nx⟩
  · refine thnF (T.item Y rfl rfl rfl hc j pins s1 _ H1 (fun _ _ => False) I1 (hff n1) st1 go) fun r s2 ⟨u, hr, h2⟩ => ?_
    subst hr
    refine wpAny_bind (thnF h2 fun _ s3 ⟨x, H3, I3, r3, y3, st3, n3⟩ => ?_)
    have I3' := I3.pinned (hff n3) (T.obj _ _ st3)
    refine wpAny_bind (thnX hx (k0g.run _ s3 _ H3 x u _ I3' r3 (step x H3 y3)) fun _ s4 ⟨σ4, H4, I4, hw4, q4⟩ => ?_)
    refine wpAny_bind (thnX hx (k0t.run _ s4 σ4 H4 _ I4 q4) fun b s5 ⟨H5, I5, q5⟩ => ?_)
    have hl : ∀ qs' : List SrcT, (wipe σ q0.vs).length = (wipeQ σ4 qs').length := fun qs' => by rw [wipeQ_length, ← hw4, wipe_length]
    -- the turn's end
    have fin : ∀ {σ' : L2.St} {s' : Shared} {H' : Hp}, Inv Y (pins ++ pinsAt fp s3.heap) σ' H' s' → (wipe σ q0.vs).length = σ'.length → (∀ (i : Nat) v, (wipe σ q0.vs)[i]? = some (some v) → σ'[i]? = some (some v)) → N1 H' →
        ∃ k', k' < k ∧ ∃ j H', Inv Y pins (wipe σ q0.vs) H' s' ∧ tn j s'.heap ∧ (∀ b ∈ fp, H' b = none) ∧ W j k' H' := fun {σ' s' H'} I' l' k' nx => by
      obtain ⟨k2, hk2, w2⟩ := hN H' nx
      have pin : ∀ b ∈ fp, ∀ o, s3.heap.get? b = some o → s'.heap.get? b = some o ∧ H' b = none := fun b hb o e => by
        have z := I'.pin (b, o) (List.mem_append_right _ (List.mem_append_right _ (mem_pinsAt hb e)))
        exact ⟨z.1, z.2.1⟩
      refine ⟨k2, hk2, j + 1, H', I'.unpinned.weak l' k', T.keep _ _ _ st3 fun b hb o e => (pin b hb o e).1, fun b hb => ?_, w2⟩
      obtain ⟨o, e, _⟩ := T.obj _ _ st3 b hb
      exact (pin b hb o e).2
    cases b with
    | false =>
      rw [if_neg Bool.false_ne_true] at q5 ⊢
      exact wpAny_pure ⟨rfl, fin I5 (by rw [← hw4, wipe_length]) (fun i v e => by rw [← hw4] at e; exact (wipe_some e).1) q5⟩
    | true =>
      rw [if_pos rfl] at q5 ⊢
      exact hB (.ref it) _ s5 σ4 H5 N1 _ _ I5 q5 fun s' H' I' nx => ⟨rfl, fin I' (hl qs) (fun i v e => by rw [← hw4] at e; exact wipeQ_keeps ks e) nx⟩
theorem has_turn (hc : Y.calm = true) (hx : Y.xe = fun _ _ => False) (he : PE Y elt te) : ∀ (ss : List Src) (qs : List SrcT) (s0 : Src) (vs : List Nat) (d : Nat), gens[d]? = some s0.cl → (∀ i, gens[d + 1 + i]? = (ss[i]?).map Src.cl) → SrcsGo Y vs ss qs → HasTurn Y elt gens scope pos te D d s0 qs
  | [], [], s0, vs, d, h0, hs, _ => by
    refine ⟨_, fun it => turn_last h0 (hs 0), fun it pins s σ H N1 Z E I t z => ?_⟩
    refine wpAny_bind (wpAny_bind (thnX hx (he.run _ s σ H _ I t) fun v s1 ⟨y, H1, I1, r1, acc, hD, hz, nx⟩ => ?_))
    exact wpAny_bind (app_ok I1 hD hz r1 fun s2 I2 => wpAny_pure (wpAny_pure (z s2 _ I2 nx)))
  | s1 :: ss, q1 :: qs, s0, vs, d, h0, hs, hk => by
    cases hk with
    | cons k1 hv ks =>
      have h1 : gens[d + 1]? = some s1.cl := hs 0
      have hB := has_turn hc hx he ss qs s1 q1.vs (d + 1) h1 (fun i => by rw [show d + 1 + 1 + i = d + 1 + (i + 1) by omega]; exact hs (i + 1)) ks
      refine ⟨_, fun it => turn_more h0 h1, fun it pins s σ H N1 Z E I t z => ?_⟩
      refine wpAny_bind (thnX hx (k1.pi.run _ s σ H _ I t) fun xv s2 hxv => ?_)
      refine wpAny_bind (wpAny_standAt (wpAny_bind (wpAny_of_eq (k1.fs Y.env xv) (wpAny_bind (wpAny_holding (thnX hx hxv fun itv s3 h3 => ?_))))))
      obtain ⟨it1, fp, tn, J, H3, e, I3, T, st3, f3, W, ⟨m, w⟩, turn⟩ := h3
      subst e
      refine wpAny_bind (wpAny_runOwn ?_ (fun x => nomatch x))
      rw [Around.mark_none]
      have lp := loop_by (σ := σ) (pins := pins) hc hx k1.pg k1.pt ks hB (I3.weak (wipe_length _ _) fun i v e => (wipe_some e).1) T st3 f3 w turn
      refine codeAny_mono (start_ok h1 lp (T.self Y.A 0 _ _ _ st3 lp)) fun r s4 hr => ?_
      cases r with
      | error e => exact hr.elim
      | ok f =>
        obtain ⟨rfl, H4, I4, nx⟩ := hr
        exact wpAny_pure (z s4 H4 I4 nx)
  | [], q :: qs, s0, vs, d, h0, hs, hk => by cases hk
  | s1 :: ss, [], s0, vs, d, h0, hs, hk => by cases hk
end
section
variable {X : Cx}
/-- [elt for tg in iter if .. for .. in .. ..]: D the new list; vs the names of all targets -/
def tLcN (wi : TI) (g : TG) (tt : TT) (qs : List SrcT) (te : TE) (vs : List Nat) : TE := fun σ H Q => wi σ H fun J H1 => ∀ D, H1 D = none → ∃ W : Nat → Nat → Hp → Prop, (∃ m, W 0 m (upd H1 D (.lst []))) ∧ ∀ j k H2, W j k H2 →
  (J.stop j H2 ∧ Q (.ref D) H2) ∨ (J.go j H2 ∧ ∃ N1 : Hp → Prop, (∀ H3, N1 H3 → ∃ k', k' < k ∧ W (j + 1) k' H3) ∧ ∀ x H3, J.yld j H2 x H3 → g x (wipe σ vs) H3 fun σ3 H4 => wipe σ3 vs = wipe σ vs ∧ tt σ3 H4 fun b H5 =>
    if b = true then tInn te D qs σ3 H5 N1 else N1 H5)
theorem pe_lcN {elt tg iter : Expr} {ifs : List Expr} {ss : List Src} {qs : List SrcT} {scope : Scope} {own : List (Str × Nat)} {pos : Pos} {wi : TI} {g : TG} {tt : TT} {te : TE} (hc : X.calm = true) (hN : X.N.Nodup) (hi : PI X tg iter wi) (ok : BlkOk X.N X.env.scope scope own)
    (hb : ∀ (s : Shared) (H : Hp) (C : Addr) (cl : List (Str × Addr)) (fp : List Addr), let Y := X.blk s H scope (compEnvC scope cl C X.env) fp
      PG Y tg g ∧ PTs Y ifs tt ∧ SrcsGo Y (own.map (·.2)) ss qs ∧ PE Y elt te)
    (hs : ∀ x, foldedSetIterable iter X.env x = pure x) :
    PE X (.ListComp elt (⟨tg, iter, ifs, 0⟩ :: ss.map Src.cl) scope pos) (tLcN wi g tt qs te (own.map (·.2))) := by
  refine ⟨fun pins s σ H Q I h => ?_⟩
  rw [eval_ListComp]
  have hcells : ∀ y ∈ scope.names, y.2 = .free → ∃ c, X.env.cells.lookup y.1 = some c := fun y hy e => I.ok.has _ (ok.free y hy e)
  refine wpAny_comprehension_free rfl hs (closure_ok hcells) ok.kind (fun y hy e => by rw [ok.uniq y hy, e]) ?_
  refine thn (hi.run pins s σ H _ I h) fun xv s1 hx => thn hx fun itv s2 ⟨it, fp, tn, J, H2, e, I2, T, st2, f2, q⟩ => ?_
  subst e
  refine wpAny_newObj_type (newEnv_comp ?_) (Nat.zero_le _)
  generalize hD : s2.heap.objs.size = D
  have free2 : H2 D = none := I2.hok.fresh (Nat.le_of_eq hD)
  obtain ⟨W, ⟨m0, w0⟩, turn⟩ := q D free2
  generalize hs3 : ({ s2 with heap := s2.heap.push { cls := .type "list", data := .seq ([] : List Value).toArray } } : Shared) = s3
  have e3 : s3.heap = s2.heap.push { cls := .type "list", data := .seq ([] : List Value).toArray } := by rw [← hs3]
  have keep3 : ∀ b o, s2.heap.get? b = some o → s3.heap.get? b = some o := fun b o e => by rw [e3]; exact Heap.get?_push_of_some _ e
  have I3 : Inv X pins σ (upd H2 D (.lst [])) s3 := by
    subst hs3
    exact I2.laid (t' := s2.toks) keep3 (Nat.le_of_eq hD) ⟨Nat.zero_le _, [], 0, .nil, by rw [← hD]; exact Heap.get?_push_size _ rfl⟩
  have f3 : ∀ b ∈ fp, FpOk X pins (upd H2 D (.lst [])) b ∧ b < s3.heap.objs.size := fun b hb' => by
    obtain ⟨o, e, _⟩ := T.obj _ _ st2 b hb'
    have lt := Heap.lt_size e
    have ne : b ≠ D := Nat.ne_of_lt (hD ▸ lt)
    exact ⟨⟨by rw [upd_ne ne]; exact (f2 b hb').1, (f2 b hb').2⟩, by rw [e3, Heap.size_push]; exact Nat.lt_succ_of_lt lt⟩
  have st3 : tn 0 s3.heap := T.keep _ _ _ st2 fun b _ o e => keep3 b o e
  have I4 := block_start I3 ok hN f3
  obtain ⟨pg, pt, pk, pe⟩ := hb s3 (upd H2 D (.lst [])) s3.heap.objs.size (cellsFrom (s3.heap.objs.size + 1) scope.names (cloFrom X.env.cells scope.names [])) fp
  show codeAny _ _ (.compStart (.ListComp elt (⟨tg, iter, ifs, 0⟩ :: ss.map Src.cl) scope pos) 0 (.ref it) (.ref D) (compEnvC scope (cellsFrom (s3.heap.objs.size + 1) scope.names (cloFrom X.env.cells scope.names [])) s3.heap.objs.size X.env)) _ { s3 with heap := pushCells (s3.heap.push { cls := .type "dict", data := .dict #[] }) scope.names }
  generalize hce : compEnvC scope (cellsFrom (s3.heap.objs.size + 1) scope.names (cloFrom X.env.cells scope.names [])) s3.heap.objs.size X.env = ce at I4 pg pt pk pe ⊢
  have cL : ce.locals = s3.heap.objs.size := by subst hce; rfl
  generalize hs4 : ({ s3 with heap := pushCells (s3.heap.push { cls := .type "dict", data := .dict #[] }) scope.names } : Shared) = s4 at I4 ⊢
  have st4 : tn 0 s4.heap := T.keep _ _ _ st3 fun b _ o e => by rw [← hs4]; exact pushCells_keeps _ _ _ _ (Heap.get?_push_of_some _ e)
  have fY : ∀ b ∈ fp, FpOk (X.blk s3 (upd H2 D (.lst [])) scope ce fp) [] (upd H2 D (.lst [])) b := fun b hb' =>
    ⟨(f3 b hb').1.1, (I4.ok.exf b hb').1, I4.ok.exfs b hb', .inl hb', fun x c e => (I4.ok.exf b hb').2 x c e, fun p hp => by cases hp⟩
  have ht : HasTurn (X.blk s3 (upd H2 D (.lst [])) scope ce fp) elt (⟨tg, iter, ifs, 0⟩ :: ss.map Src.cl) scope pos te D 0 ⟨tg, iter, ifs⟩ qs :=
    has_turn (Y := X.blk s3 (upd H2 D (.lst [])) scope ce fp) hc rfl pe ss qs ⟨tg, iter, ifs⟩ (own.map (·.2)) 0 rfl (fun i => by rw [show 0 + 1 + i = i + 1 by omega, List.getElem?_cons_succ, List.getElem?_map]) pk
  have loop := loop_by (Y := X.blk s3 (upd H2 D (.lst [])) scope ce fp) (q0 := ⟨wi, g, tt, own.map (·.2)⟩) (σ := σ) (Nx := Q (.ref D)) (m := m0) hc rfl pg pt pk ht I4 T st4 fY w0 turn
  have loop2 := codeAny_mono loop (R' := compPost (model X.prog X.w) X.A X.xe none (EP X pins σ Q) (.ref D) s3.heap.objs.size) fun r s5 hr => by
    cases r with
    | error e => exact hr.elim
    | ok f =>
      obtain ⟨rfl, H5, I5, q5⟩ := hr
      have I6 : Inv X pins σ H5 s5 := I3.call' (ch := fp) I5.os I5.base I5.hok I5.bare fun b hb' => by
        obtain ⟨⟨_, a1, a2, a3, a4, a5⟩, _⟩ := f3 b hb'
        exact ⟨a3, a1, a4, a5⟩
      have nC : H5 s3.heap.objs.size = none := by
        have z : H5 ce.locals = none := I5.free
        rwa [cL] at z
      obtain ⟨m, hn, _⟩ := I5.loc
      have hn : s5.heap.Ns ce.locals m := hn
      rw [cL] at hn
      obtain ⟨b0, b1, b2, b3, b4, b5⟩ := I3.fpOk (Nat.le_refl _) nC
      exact ⟨m, hn, fun h5 sb => ⟨.ref D, H5, I6.turned (t' := s5.toks) (fun b o nb e => (sb.2 b nb).trans e) b0 b1 b3 b4 b5, rfl, q5⟩⟩
  exact codeAny_compStart_list loop2 (T.self X.A 0 _ _ _ st4 loop2)
end
/-- a source behind the first, on data -/
structure SrcW where
  WI : WL
  js : List Nat
  G : WG
  T : WT
  vs : List Nat
abbrev InV := Rho → List PyData → Nat → (List PyData → Nat → Prop) → Prop
/-- a loop over some items: no slot has a list of its own meanwhile -/
def lpV (G : WG) (T : WT) (In : InV) : List PyData → Rho → List PyData → Nat → (List PyData → Nat → Prop) → Prop
  | [], _, acc, g, R => R acc g
  | d :: ds, ρ, acc, g, R => G d ρ fun ρ' => ρ'.any isOwn = false ∧ T ρ' g fun b g1 => if b = true then In ρ' acc g1 fun acc' g2 => lpV G T In ds ρ acc' g2 R else lpV G T In ds ρ acc g1 R
def inV (E : WE) : List SrcW → InV
  | [], ρ, acc, g, R => acc.length < sizeLine ∧ E ρ g fun y g2 => R (acc ++ [y]) g2
  | q :: qs, ρ, acc, g, R => q.WI ρ g fun es g2 => lpV q.G q.T (inV E qs) es (wipeV ρ q.vs) acc g2 R
def lLcN (WI : WL) (G : WG) (T : WT) (qs : List SrcW) (E : WE) (vs : List Nat) : WL := fun ρ g R => ρ.any isOwn = false ∧ WI ρ g fun ds g1 => lpV G T (inV E qs) ds (wipeV ρ vs) [] g1 R
def SrcW.t (K : PySem.W.Frag) (q : SrcW) : SrcT := ⟨tI K q.WI, tG K q.js q.G, tT K q.T, q.vs⟩
def Kd (a D : Addr) (H H' : Hp) : Prop := ∀ b o, b ≠ a → b ≠ D → H b = some o → H' b = some o
section
variable {K : PySem.W.Frag} {a D : Addr} {H0 : Hp} {O0 O : List Addr}
theorem Kd.refl {H : Hp} : Kd a D H H := fun _ _ _ _ e => e
theorem Kd.trans {H H' H'' : Hp} (h : Kd a D H H') (k : Kd a D H' H'') : Kd a D H H'' := fun b o na nd e => k b o na nd (h b o na nd e)
theorem Kd.of {H H' : Hp} (h : Kp a H H') : Kd a D H H' := fun b o na _ e => h b o na e
theorem Kd.off {H H' : Hp} (h : Kd a D H H') : Sub (Off (a :: D :: O) H) (Off (a :: D :: O) H') := fun b o e => by
  obtain ⟨n, e⟩ := off_some.mp e
  exact off_in n (h b o (fun z => n (by rw [z]; exact List.mem_cons_self)) (fun z => n (by rw [z]; exact List.mem_cons_of_mem _ List.mem_cons_self)) e)
/-- the slots stay told when only D has grown meanwhile -/
theorem Rl.backD {ρ : Rho} {σ : L2.St} {g g' : Nat} {H H' : Hp} {zs : List V} (r : Rl K a H0 O0 (D :: O) ρ g σ H) (hf : H0 D = none) (hno : ρ.any isOwn = false) (k : Kd a D H H') (p : Pen K a (D :: O) g' H') (hz : H' D = some (.lst zs)) : Rl K a H0 O0 (D :: O) ρ g' σ H' := by
  have base := r.poke (o := .lst zs) List.mem_cons_self hf fun j es h => by
    have := List.any_eq_false.mp hno _ (List.mem_of_getElem? h)
    exact absurd rfl this
  refine base.step (fun b o n e => ?_) p
  by_cases hb : b = D
  · subst hb
    rw [upd_same] at e
    rw [hz, ← e]
  · rw [upd_ne hb] at e
    exact k b o n hb e
theorem own_wipe {ρ : Rho} {vs : List Nat} (h : ρ.any isOwn = false) : (wipeV ρ vs).any isOwn = false := by
  rw [List.any_eq_false] at h ⊢
  intro s hs
  obtain ⟨j, hj⟩ := List.mem_iff_getElem?.mp hs
  cases s with
  | own es => exact absurd rfl (h _ (List.mem_of_getElem? (wipeV_own hj)))
  | _ => exact Bool.false_ne_true
theorem Kd.poke {H H' : Hp} {o : HO} (h : Kd a D H H') : Kd a D H (upd H' D o) := fun b u na nd e => by
  rw [upd_ne nd]
  exact h b u na nd e
theorem inn_ok {E : WE} : ∀ (qs : List SrcW) (σ : L2.St) (H : Hp) (ρ : Rho) (g : Nat) (acc : List PyData) (xs : List V) (R : List PyData → Nat → Prop) (Nx : Hp → Prop), (∀ q ∈ qs, ∀ j ∈ q.js, j ∈ q.vs) →
    Rl K a H0 O0 (D :: O) ρ g σ H → H0 D = none → D ≠ a → ρ.any isOwn = false → H D = some (.lst xs) → DqAll K (Off (a :: D :: O) H) xs acc → inV E qs ρ acc g R →
    (∀ g' acc' xs' H', Kd a D H H' → Pen K a (D :: O) g' H' → H' D = some (.lst xs') → DqAll K (Off (a :: D :: O) H') xs' acc' → R acc' g' → Nx H') → tInn (tE K E) D (qs.map (SrcW.t K)) σ H Nx
  | [], σ, H, ρ, g, acc, xs, R, Nx, _, r, hf, hDa, hno, hD, hd, w, z => by
    obtain ⟨hz, w⟩ := w
    refine ⟨a, H0, O0, D :: O, ρ, g, _, r, w, fun y g1 v H1 k1 r1 d1 w1 => ?_⟩
    have e1 : H1 D = some (.lst xs) := k1 D _ hDa hD
    have s1 : Sub (Off (a :: D :: O) H1) (Off (a :: D :: O) (upd H1 D (.lst (xs ++ [v])))) := off_poke (List.mem_cons_of_mem _ List.mem_cons_self)
    refine ⟨xs, e1, by rw [hd.len]; exact hz, z g1 (acc ++ [y]) (xs ++ [v]) _ (Kd.poke (Kd.of k1)) ?_ upd_same ?_ w1⟩
    · exact (r1.poke (o := .lst (xs ++ [v])) List.mem_cons_self hf fun j es h => absurd rfl (List.any_eq_false.mp hno _ (List.mem_of_getElem? h))).pen
    · exact DqAll.app ((hd.to (off_kp k1)).to s1) (.cons (d1.to s1) .nil)
  | q :: qs, σ, H, ρ, g, acc, xs, R, Nx, hj, r, hf, hDa, hno, hD, hd, w, z => by
    have hj0 := hj q List.mem_cons_self
    refine ⟨a, H0, O0, D :: O, ρ, g, _, r, w, fun es g1 J H1 k1 r1 fd w1 => ?_⟩
    have e1 : H1 D = some (.lst xs) := k1 D _ hDa hD
    have now : (wipeV ρ q.vs).any isOwn = false := own_wipe hno
    refine ⟨fun j k H' => ∃ g' ac ys, k = es.length - j ∧ j ≤ es.length ∧ Kd a D H1 H' ∧ Rl K a H0 O0 (D :: O) (wipeV ρ q.vs) g' (wipe σ q.vs) H' ∧ H' D = some (.lst ys) ∧ DqAll K (Off (a :: D :: O) H') ys ac ∧ lpV q.G q.T (inV E qs) (es.drop j) (wipeV ρ q.vs) ac g' R,
      ⟨es.length, g1, acc, xs, rfl, Nat.zero_le _, Kd.refl, r1.wipe q.vs, e1, hd.to (off_kp k1), w1⟩, ?_⟩
    rintro j k H2 ⟨g2, ac, ys, rfl, hjl, k2, r2, e2, d2, w2⟩
    obtain ⟨t1, t2⟩ := fd j (D :: O) H2 k2.off r2.liveA
    by_cases hlt : j < es.length
    · have ed : es.drop j = es[j] :: es.drop (j + 1) := List.drop_eq_getElem_cons hlt
      rw [ed] at w2
      obtain ⟨go, t3⟩ := t1 es[j] (List.getElem?_eq_getElem hlt)
      refine .inr ⟨go, fun H' => ∃ g' ac ys, Kd a D H1 H' ∧ Rl K a H0 O0 (D :: O) (wipeV ρ q.vs) g' (wipe σ q.vs) H' ∧ H' D = some (.lst ys) ∧ DqAll K (Off (a :: D :: O) H') ys ac ∧ lpV q.G q.T (inV E qs) (es.drop (j + 1)) (wipeV ρ q.vs) ac g' R,
        fun H' ⟨g', ac, ys, c⟩ => ⟨es.length - (j + 1), by omega, g', ac, ys, rfl, hlt, c⟩, fun x H3 hy => ?_⟩
      obtain ⟨s3, dx⟩ := t3 x H3 hy
      refine ⟨a, H0, O0, D :: O, wipeV ρ q.vs, g2, es[j], _, r2.ext s3, dx, w2, fun ρ3 σ3 hw3 r3 w3 => ⟨(hw3 q.vs hj0).trans (wipe_wipe fun _ h => h), ?_⟩⟩
      obtain ⟨ho3, w3⟩ := w3
      refine ⟨a, H0, O0, D :: O, ρ3, g2, _, r3, w3, fun b g4 H4 k4 r4 w4 => ?_⟩
      have e3 : H3 D = some (.lst ys) := s3 _ _ e2
      have e4 : H4 D = some (.lst ys) := k4 D _ hDa e3
      have d4 : DqAll K (Off (a :: D :: O) H4) ys ac := (d2.to (off_mono s3)).to (off_kp k4)
      have k14 : Kd a D H1 H4 := (k2.trans fun b o _ _ e => s3 b o e).trans (Kd.of k4)
      cases b with
      | false =>
        rw [if_neg Bool.false_ne_true] at w4
        refine iteF ?_
        exact ⟨g4, ac, ys, k14, (r2.ext s3).step k4 r4.pen, e4, d4, w4⟩
      | true =>
        rw [if_pos rfl] at w4
        refine iteT ?_
        refine inn_ok qs σ3 H4 ρ3 g4 ac ys _ _ (fun q hq => hj q (List.mem_cons_of_mem _ hq)) r4 hf hDa ho3 e4 d4 w4 fun g5 ac5 ys5 H5 k5 p5 e5 d5 w5 => ?_
        refine ⟨g5, ac5, ys5, k14.trans k5, (r2.ext s3).backD hf now (Kd.trans (Kd.of k4) k5) p5 e5, e5, d5, w5⟩
    · have ed : es.drop j = [] := List.drop_eq_nil_of_le (by omega)
      rw [ed] at w2
      exact .inl ⟨t2 (by omega), z g2 ac ys H2 ((Kd.of k1).trans k2) r2.pen e2 d2 w2⟩
end
theorem tL_lcN {K : PySem.W.Frag} {WI : WL} {js : List Nat} {G : WG} {T : WT} {qs : List SrcW} {E : WE} {vs : List Nat} (hj : ∀ j ∈ js, j ∈ vs) (hq : ∀ q ∈ qs, ∀ j ∈ q.js, j ∈ q.vs) : ∀ σ H Q, tL K (lLcN WI G T qs E vs) σ H Q →
    tLcN (tI K WI) (tG K js G) (tT K T) (qs.map (SrcW.t K)) (tE K E) vs σ H Q :=
  fun σ H Q ⟨a, H0, O0, O, ρ, g, R, r, ⟨hno, w⟩, z⟩ => ⟨a, H0, O0, O, ρ, g, _, r, w, fun ds g1 J H1 k1 r1 fd w1 D hD => by
    have hDa : D ≠ a := fun z => r1.pen.live (z ▸ hD)
    have hf : H0 D = none := r1.freshH hD
    have hH : H D = none := by
      cases e : H D with
      | none => rfl
      | some o =>
        rw [k1 D o hDa e] at hD
        cases hD
    have now : (wipeV ρ vs).any isOwn = false := own_wipe hno
    refine ⟨fun j k H' => ∃ g' ac ys, k = ds.length - j ∧ j ≤ ds.length ∧ Kp a H1 H' ∧ Rl K a H0 O0 (D :: O) (wipeV ρ vs) g' (L2.wipe σ vs) H' ∧ H' D = some (.lst ys) ∧ DqAll K (Off (a :: D :: O) H') ys ac ∧ lpV G T (inV E qs) (ds.drop j) (wipeV ρ vs) ac g' R,
      ⟨ds.length, g1, [], [], rfl, Nat.zero_le _, Kp.of (sub_upd hD), (r1.wipe vs).hide hD, upd_same, .nil, w1⟩, ?_⟩
    rintro j k H2 ⟨g2, ac, ys, rfl, hjl, k2, r2, e2, d2, w2⟩
    have sb : Sub (Off (a :: O) H1) (Off (a :: D :: O) H2) := fun b o e => by
      obtain ⟨n, e⟩ := off_some.mp e
      have na : b ≠ a := fun z => n (by rw [z]; exact List.mem_cons_self)
      refine off_in (fun z => ?_) (k2 b o na e)
      rcases List.mem_cons.mp z with z | z
      · exact na z
      · rcases List.mem_cons.mp z with z | z
        · rw [z, hD] at e
          cases e
        · exact n (List.mem_cons_of_mem _ z)
    obtain ⟨t1, t2⟩ := fd j (D :: O) H2 sb r2.liveA
    by_cases hlt : j < ds.length
    · have ed : ds.drop j = ds[j] :: ds.drop (j + 1) := List.drop_eq_getElem_cons hlt
      rw [ed] at w2
      obtain ⟨go, t3⟩ := t1 ds[j] (List.getElem?_eq_getElem hlt)
      refine .inr ⟨go, fun H' => ∃ g' ac ys, Kp a H1 H' ∧ Rl K a H0 O0 (D :: O) (wipeV ρ vs) g' (L2.wipe σ vs) H' ∧ H' D = some (.lst ys) ∧ DqAll K (Off (a :: D :: O) H') ys ac ∧ lpV G T (inV E qs) (ds.drop (j + 1)) (wipeV ρ vs) ac g' R,
        fun H' ⟨g', ac, ys, c⟩ => ⟨ds.length - (j + 1), by omega, g', ac, ys, rfl, hlt, c⟩, fun x H3 hy => ?_⟩
      obtain ⟨s3, dx⟩ := t3 x H3 hy
      refine ⟨a, H0, O0, D :: O, wipeV ρ vs, g2, ds[j], _, r2.ext s3, dx, w2, fun ρ3 σ3 hw3 r3 w3 => ⟨(hw3 vs hj).trans (wipe_wipe fun _ h => h), ?_⟩⟩
      obtain ⟨ho3, w3⟩ := w3
      refine ⟨a, H0, O0, D :: O, ρ3, g2, _, r3, w3, fun b g4 H4 k4 r4 w4 => ?_⟩
      have e3 : H3 D = some (.lst ys) := s3 _ _ e2
      have e4 : H4 D = some (.lst ys) := k4 D _ hDa e3
      have d4 : DqAll K (Off (a :: D :: O) H4) ys ac := (d2.to (off_mono s3)).to (off_kp k4)
      have k14 : Kp a H1 H4 := (k2.trans (Kp.of s3)).trans k4
      cases b with
      | false =>
        rw [if_neg Bool.false_ne_true] at w4
        refine iteF ?_
        exact ⟨g4, ac, ys, k14, (r2.ext s3).step k4 r4.pen, e4, d4, w4⟩
      | true =>
        rw [if_pos rfl] at w4
        refine iteT ?_
        refine inn_ok qs σ3 H4 ρ3 g4 ac ys _ _ hq r4 hf hDa ho3 e4 d4 w4 fun g5 ac5 ys5 H5 k5 p5 e5 d5 w5 => ?_
        refine ⟨g5, ac5, ys5, fun b o na e => k5 b o na (ne_of_none e hD) (k14 b o na e), (r2.ext s3).backD hf now (Kd.trans (Kd.of k4) k5) p5 e5, e5, d5, w5⟩
    · have ed : ds.drop j = [] := List.drop_eq_nil_of_le (by omega)
      rw [ed] at w2
      refine .inl ⟨t2 (by omega), ?_⟩
      exact z ac g2 D ys H2 (k1.trans k2) (r.stepH (k1.trans k2) hH (by rw [e2]; exact fun z => nomatch z) r2.pen) hH e2 d2 w2⟩
section
variable {X : Cx} {elt tg iter : Expr} {ifs : List Expr} {pos : Pos}
/-- the sources behind the first are right in a block -/
inductive VSrcs (X : Cx) : List Nat → List Src → List SrcW → Prop
  | nil {vs : List Nat} : VSrcs X vs [] []
  | cons {vs : List Nat} {s : Src} {q : SrcW} {ss : List Src} {qs : List SrcW} : VI X s.tg s.iter q.WI → VG X s.tg q.js q.G → VTs X s.ifs q.T → (∀ env x, foldedSetIterable s.iter env x = pure x) → (∀ i ∈ q.vs, i ∈ vs) → VSrcs X q.vs ss qs → VSrcs X vs (s :: ss) (q :: qs)
theorem VSrcs.ok {vs : List Nat} {ss : List Src} {qs : List SrcW} (h : VSrcs X vs ss qs) : SrcsGo X vs ss (qs.map (SrcW.t X.K)) := by
  induction h with
  | nil => exact .nil
  | cons hi hg ht hf hv _ ih => exact .cons ⟨hi, hg, ht, hf⟩ hv ih
theorem vl_lcN {scope : Scope} {own : List (Str × Nat)} {ss : List Src} {qs : List SrcW} {WI : WL} {js : List Nat} {G : WG} {T : WT} {E : WE} (hc : X.calm = true) (hN : X.N.Nodup) (hi : VI X tg iter WI) (ok : BlkOk X.N X.env.scope scope own)
    (hg : ∀ (s : Shared) (H : Hp) (C : Addr) (cl : List (Str × Addr)) (fp : List Addr), VG (X.blk s H scope (compEnvC scope cl C X.env) fp) tg js G) (ht : ∀ (s : Shared) (H : Hp) (C : Addr) (cl : List (Str × Addr)) (fp : List Addr), VTs (X.blk s H scope (compEnvC scope cl C X.env) fp) ifs T)
    (hk : ∀ (s : Shared) (H : Hp) (C : Addr) (cl : List (Str × Addr)) (fp : List Addr), VSrcs (X.blk s H scope (compEnvC scope cl C X.env) fp) (own.map (·.2)) ss qs)
    (he : ∀ (s : Shared) (H : Hp) (C : Addr) (cl : List (Str × Addr)) (fp : List Addr), VE (X.blk s H scope (compEnvC scope cl C X.env) fp) elt E) (hj : ∀ j ∈ js, j ∈ own.map (·.2)) (hq : ∀ q ∈ qs, ∀ j ∈ q.js, j ∈ q.vs)
    (hs : ∀ x, foldedSetIterable iter X.env x = pure x) : VL X (.ListComp elt (⟨tg, iter, ifs, 0⟩ :: ss.map Src.cl) scope pos) (lLcN WI G T qs E (own.map (·.2))) :=
  pe_weak (pe_lcN hc hN hi ok (fun s H C cl fp => ⟨hg s H C cl fp, ht s H C cl fp, (hk s H C cl fp).ok, he s H C cl fp⟩) hs) (tL_lcN hj hq)
theorem vl_lc5 {scope : Scope} {own : List (Str × Nat)} {WI : WL} {js : List Nat} {G : WG} {T : WT} {E : WE}
    {tg1 iter1 : Expr} {ifs1 : List Expr} {WI1 : WL} {js1 vs1 : List Nat} {G1 : WG} {T1 : WT}
    {tg2 iter2 : Expr} {ifs2 : List Expr} {WI2 : WL} {js2 vs2 : List Nat} {G2 : WG} {T2 : WT}
    {tg3 iter3 : Expr} {ifs3 : List Expr} {WI3 : WL} {js3 vs3 : List Nat} {G3 : WG} {T3 : WT}
    {tg4 iter4 : Expr} {ifs4 : List Expr} {WI4 : WL} {js4 vs4 : List Nat} {G4 : WG} {T4 : WT}
    (hc : X.calm = true) (hN : X.N.Nodup) (hi : VI X tg iter WI) (ok : BlkOk X.N X.env.scope scope own)
    (hg : ∀ (s : Shared) (H : Hp) (C : Addr) (cl : List (Str × Addr)) (fp : List Addr), VG (X.blk s H scope (compEnvC scope cl C X.env) fp) tg js G) (ht : ∀ (s : Shared) (H : Hp) (C : Addr) (cl : List (Str × Addr)) (fp : List Addr), VTs (X.blk s H scope (compEnvC scope cl C X.env) fp) ifs T)
    (hi1 : ∀ (s : Shared) (H : Hp) (C : Addr) (cl : List (Str × Addr)) (fp : List Addr), VI (X.blk s H scope (compEnvC scope cl C X.env) fp) tg1 iter1 WI1) (hg1 : ∀ (s : Shared) (H : Hp) (C : Addr) (cl : List (Str × Addr)) (fp : List Addr), VG (X.blk s H scope (compEnvC scope cl C X.env) fp) tg1 js1 G1) (ht1 : ∀ (s : Shared) (H : Hp) (C : Addr) (cl : List (Str × Addr)) (fp : List Addr), VTs (X.blk s H scope (compEnvC scope cl C X.env) fp) ifs1 T1)
    (hi2 : ∀ (s : Shared) (H : Hp) (C : Addr) (cl : List (Str × Addr)) (fp : List Addr), VI (X.blk s H scope (compEnvC scope cl C X.env) fp) tg2 iter2 WI2) (hg2 : ∀ (s : Shared) (H : Hp) (C : Addr) (cl : List (Str × Addr)) (fp : List Addr), VG (X.blk s H scope (compEnvC scope cl C X.env) fp) tg2 js2 G2) (ht2 : ∀ (s : Shared) (H : Hp) (C : Addr) (cl : List (Str × Addr)) (fp : List Addr), VTs (X.blk s H scope (compEnvC scope cl C X.env) fp) ifs2 T2)
    (hi3 : ∀ (s : Shared) (H : Hp) (C : Addr) (cl : List (Str × Addr)) (fp : List Addr), VI (X.blk s H scope (compEnvC scope cl C X.env) fp) tg3 iter3 WI3) (hg3 : ∀ (s : Shared) (H : Hp) (C : Addr) (cl : List (Str × Addr)) (fp : List Addr), VG (X.blk s H scope (compEnvC scope cl C X.env) fp) tg3 js3 G3) (ht3 : ∀ (s : Shared) (H : Hp) (C : Addr) (cl : List (Str × Addr)) (fp : List Addr), VTs (X.blk s H scope (compEnvC scope cl C X.env) fp) ifs3 T3)
    (hi4 : ∀ (s : Shared) (H : Hp) (C : Addr) (cl : List (Str × Addr)) (fp : List Addr), VI (X.blk s H scope (compEnvC scope cl C X.env) fp) tg4 iter4 WI4) (hg4 : ∀ (s : Shared) (H : Hp) (C : Addr) (cl : List (Str × Addr)) (fp : List Addr), VG (X.blk s H scope (compEnvC scope cl C X.env) fp) tg4 js4 G4) (ht4 : ∀ (s : Shared) (H : Hp) (C : Addr) (cl : List (Str × Addr)) (fp : List Addr), VTs (X.blk s H scope (compEnvC scope cl C X.env) fp) ifs4 T4)
    (he : ∀ (s : Shared) (H : Hp) (C : Addr) (cl : List (Str × Addr)) (fp : List Addr), VE (X.blk s H scope (compEnvC scope cl C X.env) fp) elt E)
    (hj : ∀ j ∈ js, j ∈ own.map (·.2) := by decide) (hj1 : ∀ j ∈ js1, j ∈ vs1 := by decide) (hj2 : ∀ j ∈ js2, j ∈ vs2 := by decide) (hj3 : ∀ j ∈ js3, j ∈ vs3 := by decide) (hj4 : ∀ j ∈ js4, j ∈ vs4 := by decide) (hv1 : ∀ i ∈ vs1, i ∈ own.map (·.2) := by decide) (hv2 : ∀ i ∈ vs2, i ∈ vs1 := by decide) (hv3 : ∀ i ∈ vs3, i ∈ vs2 := by decide) (hv4 : ∀ i ∈ vs4, i ∈ vs3 := by decide)
    (hs : ∀ x, foldedSetIterable iter X.env x = pure x := by intro _; rfl) (hs1 : ∀ env x, foldedSetIterable iter1 env x = pure x := by intro _ _; rfl) (hs2 : ∀ env x, foldedSetIterable iter2 env x = pure x := by intro _ _; rfl) (hs3 : ∀ env x, foldedSetIterable iter3 env x = pure x := by intro _ _; rfl) (hs4 : ∀ env x, foldedSetIterable iter4 env x = pure x := by intro _ _; rfl)
    : VL X (.ListComp elt [⟨tg, iter, ifs, 0⟩, ⟨tg1, iter1, ifs1, 0⟩, ⟨tg2, iter2, ifs2, 0⟩, ⟨tg3, iter3, ifs3, 0⟩, ⟨tg4, iter4, ifs4, 0⟩] scope pos) (lLcN WI G T [⟨WI1, js1, G1, T1, vs1⟩, ⟨WI2, js2, G2, T2, vs2⟩, ⟨WI3, js3, G3, T3, vs3⟩, ⟨WI4, js4, G4, T4, vs4⟩] E (own.map (·.2))) :=
  vl_lcN (ss := [⟨tg1, iter1, ifs1⟩, ⟨tg2, iter2, ifs2⟩, ⟨tg3, iter3, ifs3⟩, ⟨tg4, iter4, ifs4⟩]) (qs := [⟨WI1, js1, G1, T1, vs1⟩, ⟨WI2, js2, G2, T2, vs2⟩, ⟨WI3, js3, G3, T3, vs3⟩, ⟨WI4, js4, G4, T4, vs4⟩]) hc hN hi ok hg ht (fun s H C cl fp => .cons (hi1 s H C cl fp) (hg1 s H C cl fp) (ht1 s H C cl fp) hs1 hv1 (.cons (hi2 s H C cl fp) (hg2 s H C cl fp) (ht2 s H C cl fp) hs2 hv2 (.cons (hi3 s H C cl fp) (hg3 s H C cl fp) (ht3 s H C cl fp) hs3 hv3 (.cons (hi4 s H C cl fp) (hg4 s H C cl fp) (ht4 s H C cl fp) hs4 hv4 (.nil))))) he hj (fun q hq => by
    simp only [List.mem_cons, List.not_mem_nil, or_false] at hq
    rcases hq with rfl | rfl | rfl | rfl
    · exact hj1
    · exact hj2
    · exact hj3
    · exact hj4) hs
end
end Vl
/-! W2: places of written items (for simp); cases and sources as data. -/
namespace Vl
open PySem PySem.Spec PyProof.Rows L2
theorem fIx_is {c : PyData} {xs : List PyData} {j : Nat} {d : PyData} {R : PyData → Prop} (hc : itemsD c = some xs) (h : xs[j]? = some d) : fIx c (.int (j : Int)) R = R d :=
  propext ⟨fun ⟨ys, e, h1, h2, h3⟩ => by
    rw [hc] at h1
    cases h1
    rw [atI_nat h] at h2
    cases h2
    exact h3, fun q => ⟨xs, d, hc, atI_nat h, q⟩⟩
section
variable {a b c d e : PyData} {r : List PyData} {R : PyData → Prop}
theorem e_ix0T : fIx (.tuple (a :: r)) (.int 0) R = R a := fIx_is (j := 0) rfl rfl
theorem e_ix1T : fIx (.tuple (a :: b :: r)) (.int 1) R = R b := fIx_is (j := 1) rfl rfl
theorem e_ix2T : fIx (.tuple (a :: b :: c :: r)) (.int 2) R = R c := fIx_is (j := 2) rfl rfl
theorem e_ix3T : fIx (.tuple (a :: b :: c :: d :: r)) (.int 3) R = R d := fIx_is (j := 3) rfl rfl
theorem e_ix4T : fIx (.tuple (a :: b :: c :: d :: e :: r)) (.int 4) R = R e := fIx_is (j := 4) rfl rfl
theorem e_ix0L : fIx (.list (a :: r)) (.int 0) R = R a := fIx_is (j := 0) rfl rfl
theorem e_ix1L : fIx (.list (a :: b :: r)) (.int 1) R = R b := fIx_is (j := 1) rfl rfl
theorem e_ix2L : fIx (.list (a :: b :: c :: r)) (.int 2) R = R c := fIx_is (j := 2) rfl rfl
end
/-- a pair (kind, value) of a test; a case; a source -/
def prD (p : Int × Int) : PyData := .tuple [.int p.1, .int p.2]
def caseD (n v k : Int) (ps : List (Int × Int)) (j : Bool) : PyData := .tuple [.int n, .int v, .int k, .tuple (ps.map prD), .bool j]
structure CaseOk (n v k : Int) (ps : List (Int × Int)) : Prop where
  n0 : 1 ≤ n
  n1 : n ≤ 3
  v0 : 1 ≤ v
  v1 : v ≤ 3
  k0 : 1 ≤ k
  k1 : k ≤ 2
  hp : ∀ p ∈ ps, (0 ≤ p.1 ∧ p.1 < k) ∧ 0 ≤ p.2 ∧ p.2 < v
  len : ps.length ≤ 6
/-- what a child state is: none, or (kind, parent) -/
def chD (c : Option (Int × Int)) : PyData := match c with
  | none => .tuple []
  | some q => prD q
def srcD (xs : List Int) (c : Option (Int × Int)) : PyData := .tuple [.tuple (xs.map .int), chD c]
structure SrcOk (n v k : Int) (xs : List Int) (c : Option (Int × Int)) : Prop where
  len : (xs.length : Int) = n
  hx : ∀ x ∈ xs, -1 ≤ x ∧ x < v
  hc : ∀ q, c = some q → (0 ≤ q.1 ∧ q.1 < k) ∧ 0 ≤ q.2 ∧ q.2 < n
def vpB (ps : List (Int × Int)) (x : Int) : Bool := ps.any fun p => p.2 == x
def ppB (ps : List (Int × Int)) (q : Int × Int) : Bool := ps.any fun p => p.1 == q.1 && p.2 == q.2
theorem eqv_int {i j : Int} : PyData.eqv (.int i) (.int j) = (i == j) := by simp only [PyData.eqv]
theorem eqv_pr {p q : Int × Int} : PyData.eqv (prD p) (prD q) = (p.1 == q.1 && p.2 == q.2) := by
  simp only [prD, PyData.eqv, PyData.eqvAll, Bool.and_true]
theorem plainAll_pr : ∀ ps : List (Int × Int), PyData.plainAll (ps.map prD) = true
  | [] => by simp only [List.map_nil, PyData.plainAll]
  | p :: ps => by simp only [List.map_cons, PyData.plainAll, prD, PyData.plain, Bool.true_and, Bool.and_self]; exact plainAll_pr ps
theorem depth_pr {p : Int × Int} : (prD p).depth = 1 := by
  simp only [prD, PyData.depth, PyData.depthAll]
  decide
theorem depthAll_pr : ∀ ps : List (Int × Int), PyData.depthAll (ps.map prD) ≤ 1
  | [] => by simp [PyData.depthAll]
  | p :: ps => by
    have := depthAll_pr ps
    simp only [List.map_cons, PyData.depthAll, depth_pr]
    omega
theorem any_pr (ps : List (Int × Int)) (q : Int × Int) : ((ps.map prD).any fun y => PyData.eqv y (prD q)) = ppB ps q := by
  rw [List.any_map]
  unfold ppB
  congr 1
  funext p
  exact eqv_pr
theorem plain_pr {p : Int × Int} : (prD p).plain = true := by simp only [prD, PyData.plain, PyData.plainAll, Bool.and_self]
theorem fIn_pr {ps : List (Int × Int)} {x y : Int} {R : PyData → Prop} (h : R (.bool (ppB ps (x, y)))) : fIn (.tuple [.int x, .int y]) (.tuple (ps.map prD)) R :=
  ⟨_, rfl, ⟨plainAll_pr ps, plain_pr (p := (x, y)), by show min _ (PyData.depth (prD (x, y))) ≤ 60; rw [depth_pr]; omega⟩, by
    rw [show PyData.tuple [.int x, .int y] = prD (x, y) from rfl, any_pr]
    exact h⟩
theorem eqv_nil {xs : List PyData} : PyData.eqv (.list xs) (.list []) = xs.isEmpty := by
  cases xs with
  | nil => simp only [PyData.eqv, PyData.eqvAll, List.isEmpty_nil]
  | cons x xs => simp [PyData.eqv, PyData.eqvAll]
theorem fNe_nil {ps : List (Int × Int)} {R : PyData → Prop} (h : R (.bool (!ps.isEmpty))) : fNe (.list (ps.map prD)) (.list []) R := by
  refine ⟨⟨?_, rfl, ?_⟩, ?_⟩
  · simp only [PyData.plain]
    exact plainAll_pr ps
  · have := depthAll_pr ps
    simp only [PyData.depth, PyData.depthAll]
    omega
  · rw [eqv_nil, List.isEmpty_map]
    exact h
theorem noX_pr {p : Int × Int} : noX (prD p) = true := by simp only [prD, noX, noXs, Bool.and_self]
theorem noX_ch {c : Option (Int × Int)} : noX (chD c) = true := by
  cases c with
  | none => simp only [chD, noX, noXs]
  | some q => exact noX_pr
end Vl
/-! W3: kinds of data, constructor by constructor (for simp). -/
namespace Vl
open PySem PySem.Spec PyProof.Rows L2
section
variable {b : Bool} {i : Int} {x : Str} {xs : List PyData} {kv : List (PyData × PyData)}
theorem k_isInt_none : PyData.isInt .none = false := rfl
theorem k_isInt_bool : PyData.isInt (.bool b) = true := rfl
theorem k_isInt_int : PyData.isInt (.int i) = true := rfl
theorem k_isInt_str : PyData.isInt (.str x) = false := rfl
theorem k_isInt_list : PyData.isInt (.list xs) = false := rfl
theorem k_isInt_tuple : PyData.isInt (.tuple xs) = false := rfl
theorem k_isInt_dict : PyData.isInt (.dict kv) = false := rfl
theorem k_isBool_none : PyData.isBool .none = false := rfl
theorem k_isBool_bool : PyData.isBool (.bool b) = true := rfl
theorem k_isBool_int : PyData.isBool (.int i) = false := rfl
theorem k_isBool_str : PyData.isBool (.str x) = false := rfl
theorem k_isBool_list : PyData.isBool (.list xs) = false := rfl
theorem k_isBool_tuple : PyData.isBool (.tuple xs) = false := rfl
theorem k_isBool_dict : PyData.isBool (.dict kv) = false := rfl
theorem k_isTuple_none : PyData.isTuple .none = false := rfl
theorem k_isTuple_bool : PyData.isTuple (.bool b) = false := rfl
theorem k_isTuple_int : PyData.isTuple (.int i) = false := rfl
theorem k_isTuple_str : PyData.isTuple (.str x) = false := rfl
theorem k_isTuple_list : PyData.isTuple (.list xs) = false := rfl
theorem k_isTuple_tuple : PyData.isTuple (.tuple xs) = true := rfl
theorem k_isTuple_dict : PyData.isTuple (.dict kv) = false := rfl
theorem k_isList_none : PyData.isList .none = false := rfl
theorem k_isList_bool : PyData.isList (.bool b) = false := rfl
theorem k_isList_int : PyData.isList (.int i) = false := rfl
theorem k_isList_str : PyData.isList (.str x) = false := rfl
theorem k_isList_list : PyData.isList (.list xs) = true := rfl
theorem k_isList_tuple : PyData.isList (.tuple xs) = false := rfl
theorem k_isList_dict : PyData.isList (.dict kv) = false := rfl
theorem k_isStr_none : PyData.isStr .none = false := rfl
theorem k_isStr_bool : PyData.isStr (.bool b) = false := rfl
theorem k_isStr_int : PyData.isStr (.int i) = false := rfl
theorem k_isStr_str : PyData.isStr (.str x) = true := rfl
theorem k_isStr_list : PyData.isStr (.list xs) = false := rfl
theorem k_isStr_tuple : PyData.isStr (.tuple xs) = false := rfl
theorem k_isStr_dict : PyData.isStr (.dict kv) = false := rfl
end
end Vl
/-! W4: data of bounded depth, width and numbers: it can be shown. -/
namespace Vl
open PySem PySem.Spec PyProof.Rows L2
/-- t: how often it was bent (0 or 1); n: the depth -/
inductive Bd (t : Nat) : Nat → PyData → Prop
  | non (n : Nat) : Bd t n .none
  | bl (n : Nat) (b : Bool) : Bd t n (.bool b)
  | int (n : Nat) (i : Int) : i.natAbs < 10 ^ (30 + 5 * t) → Bd t n (.int i)
  | str (n : Nat) (x : Str) : (reprText x).length ≤ 10 → Bd t n (.str x)
  | emp (n : Nat) : Bd t (n + 1) (.dict [])
  | lst {n : Nat} {xs : List PyData} : (∀ x ∈ xs, Bd t n x) → xs.length ≤ 8 + t → Bd t (n + 1) (.list xs)
  | tup {n : Nat} {xs : List PyData} : (∀ x ∈ xs, Bd t n x) → xs.length ≤ 8 + t → Bd t (n + 1) (.tuple xs)
theorem Bd.up {t n : Nat} {d : PyData} (h : Bd t n d) : Bd t (n + 1) d := by
  induction h with
  | non n => exact .non _
  | bl n b => exact .bl _ b
  | int n i h => exact .int _ i h
  | str n x h => exact .str _ x h
  | emp n => exact .emp _
  | lst _ hl ih => exact .lst ih hl
  | tup _ hl ih => exact .tup ih hl
theorem Bd.le {t n m : Nat} {d : PyData} (h : Bd t n d) (l : n ≤ m) : Bd t m d := by
  induction l with
  | refl => exact h
  | step _ ih => exact ih.up
theorem Bd.one {n : Nat} {d : PyData} (h : Bd 0 n d) : Bd 1 n d := by
  induction h with
  | non n => exact .non _
  | bl n b => exact .bl _ b
  | int n i h => exact .int _ i (Nat.lt_of_lt_of_le h (by decide))
  | str n x h => exact .str _ x h
  | emp n => exact .emp _
  | lst _ hl ih => exact .lst ih (by omega)
  | tup _ hl ih => exact .tup ih (by omega)
theorem Bd.noX {t n : Nat} {d : PyData} (h : Bd t n d) : noX d = true := by
  induction h with
  | emp n => simp only [Vl.noX]
  | lst _ _ ih => simp only [Vl.noX]; exact noXs_all ih
  | tup _ _ ih => simp only [Vl.noX]; exact noXs_all ih
  | _ => simp only [Vl.noX]
theorem showAll {xs : List PyData} (h : ∀ x ∈ xs, x.showable = true) : PyData.showableAll xs = true := by
  induction xs with
  | nil => simp only [PyData.showableAll]
  | cons x xs ih =>
    simp only [PyData.showableAll, Bool.and_eq_true]
    exact ⟨h x List.mem_cons_self, ih fun y hy => h y (List.mem_cons_of_mem _ hy)⟩
theorem Bd.showable {t n : Nat} {d : PyData} (h : Bd t n d) (ht : t ≤ 1) : d.showable = true := by
  induction h with
  | int n i h =>
    simp only [PyData.showable, decide_eq_true_eq]
    have h2 : i.natAbs < 10 ^ 35 := Nat.lt_of_lt_of_le h (Nat.pow_le_pow_right (by decide) (by omega))
    by_cases z : i.natAbs = 0
    · rw [z]; decide
    · have := (Nat.log2_lt z).mpr (Nat.lt_of_lt_of_le h2 (show 10 ^ 35 ≤ 2 ^ 200 by decide))
      omega
  | lst _ _ ih => simp only [PyData.showable]; exact showAll ih
  | tup _ _ ih => simp only [PyData.showable]; exact showAll ih
  | _ => simp only [PyData.showable, PyData.showableKv]
theorem depthAll_le {xs : List PyData} {n : Nat} (h : ∀ x ∈ xs, x.depth ≤ n) : PyData.depthAll xs ≤ n := by
  induction xs with
  | nil => simp [PyData.depthAll]
  | cons x xs ih =>
    simp only [PyData.depthAll]
    have h1 := h x List.mem_cons_self
    have h2 := ih fun y hy => h y (List.mem_cons_of_mem _ hy)
    omega
theorem Bd.depth {t n : Nat} {d : PyData} (h : Bd t n d) : d.depth ≤ n := by
  induction h with
  | lst _ _ ih =>
    simp only [PyData.depth]
    have := depthAll_le ih
    omega
  | tup _ _ ih =>
    simp only [PyData.depth]
    have := depthAll_le ih
    omega
  | _ => simp [PyData.depth, PyData.depthKv]
def wide : Nat → Nat
  | 0 => 60
  | n + 1 => 4 + 9 * (wide n + 2)
theorem wide_pos : ∀ n, 60 ≤ wide n
  | 0 => Nat.le_refl _
  | n + 1 => by
    have := wide_pos n
    show 60 ≤ 4 + 9 * (wide n + 2)
    omega
theorem piled_le {xs : List PyData} {b : Nat} (h : ∀ x ∈ xs, x.shown.length ≤ b) : piled (PyData.shownAll xs) ≤ xs.length * (b + 2) := by
  induction xs with
  | nil => simp [PyData.shownAll, piled]
  | cons x xs ih =>
    have h1 := h x List.mem_cons_self
    have h2 := ih fun y hy => h y (List.mem_cons_of_mem _ hy)
    simp only [PyData.shownAll, piled_cons, List.length_cons]
    rw [Nat.add_mul]
    omega
theorem listText_le : ∀ ts : List Str, (listText ts).length ≤ piled ts + 2
  | [] => by decide
  | t :: r => by
    have h := textFrom_length_pos r 1 (("[" : Str) ++ (if (0 : Nat) > 0 then ", " else "" : String) ++ t) (Nat.succ_pos 0)
    have e : ((("[" : Str) ++ (if (0 : Nat) > 0 then ", " else "" : String) ++ t)).length = 1 + t.length := by rw [strLen_append, strLen_append]; rfl
    have x : (listText (t :: r)).length = (textFrom 1 (("[" : Str) ++ (if (0 : Nat) > 0 then ", " else "" : String) ++ t) r).length + 1 := by
      show (textFrom 0 "[" (t :: r) ++ "]").length = _
      rw [strLen_append]; rfl
    rw [x, h, e, piled_cons]
    omega
theorem tupleText_le (ts : List Str) : (tupleText ts).length ≤ piled ts + 3 := by
  unfold tupleText
  rw [strLen_append, strLen_append]
  have e3 : (((if ts.length == 1 then ",)" else ")" : String) : Str)).length ≤ 2 := by split <;> decide
  have e1 : ((("(" : String) : Str)).length = 1 := rfl
  cases ts with
  | nil =>
    have : (Str.join ", " ([] : List Str)).length = 0 := rfl
    omega
  | cons t r =>
    have := join_length_add (t :: r) (by simp)
    omega
theorem Bd.shown {t n : Nat} {d : PyData} (h : Bd t n d) (ht : t ≤ 1) : d.shown.length ≤ wide n := by
  induction h with
  | non n => exact Nat.le_trans (by decide) (wide_pos n)
  | bl n b => cases b <;> exact Nat.le_trans (by decide) (wide_pos n)
  | int n i h =>
    have h2 : i.natAbs < 10 ^ 35 := Nat.lt_of_lt_of_le h (Nat.pow_le_pow_right (by decide) (by omega))
    have h3 := int_text_length_le10 (k := 35) (by decide) h2
    have h4 := wide_pos n
    simp only [PyData.shown]
    show (Str.ofString (toString i)).length ≤ _
    rw [PySem.ofString_length]
    omega
  | str n x h =>
    simp only [PyData.shown]
    have h4 := wide_pos n
    omega
  | emp n => exact Nat.le_trans (by decide) (wide_pos _)
  | @lst n xs _ hl ih =>
    simp only [PyData.shown]
    have a := listText_le (PyData.shownAll xs)
    have b := piled_le ih
    have c : xs.length * (wide n + 2) ≤ 9 * (wide n + 2) := Nat.mul_le_mul_right _ (by omega)
    show _ ≤ 4 + 9 * (wide n + 2)
    omega
  | @tup n xs _ hl ih =>
    simp only [PyData.shown]
    have a := tupleText_le (PyData.shownAll xs)
    have b := piled_le ih
    have c : xs.length * (wide n + 2) ≤ 9 * (wide n + 2) := Nat.mul_le_mul_right _ (by omega)
    show _ ≤ 4 + 9 * (wide n + 2)
    omega
theorem Bd.ok {t n : Nat} {d : PyData} (h : Bd t n d) (ht : t ≤ 1) (hn : n ≤ 5) : showOk d :=
  ⟨h.showable ht, Nat.le_trans h.depth (by omega), Nat.le_trans ((h.le hn).shown ht) (by decide)⟩
end Vl
/-! W7: statement by statement, what comes behind being kept shut. -/
namespace Vl
open PySem PySem.Spec PyProof.Rows L2
theorem seq_gen {W tl : WS} {V : EndsV} {ρ : Rho} {g : Nat} (h : ∀ t : WS, t = tl → W { V with nx := t V } ρ g) : sSeq W tl V ρ g := h tl rfl
theorem lseq_gen {W tl : WSL} {V : EndsV} {R : List PyData → Nat → Prop} {ρ : Rho} {g : Nat} (h : ∀ t : WSL, t = tl → W { V with nx := t V R } R ρ g) : lSeq W tl V R ρ g := h tl rfl
def oneS (b : Bool) (x : Str) : List Str := if b = true then [x] else []
theorem oneS_len (b : Bool) (x : Str) : (oneS b x).length ≤ 1 := by cases b <;> simp [oneS]
theorem seq_own {i : Nat} {W : WL} {tl : WS} {V : EndsV} {ρ : Rho} {g : Nat} (h : W ρ g fun ds g1 => tl V (ρ.set i (.own ds)) g1) : sSeq (sOwn i W) tl V ρ g := h
/-- if T: found.append(x), then what comes behind -/
theorem app_if1 {T : WT} {V : EndsV} {ρ : Rho} {g i : Nat} {ds : List PyData} {x : Str} {b : Bool} (hT : ∀ R : Bool → Nat → Prop, R b g → T ρ g R) (hi : ρ[i]? = some (.own ds)) (hl : ds.length < sizeLine) (h : V.nx (ρ.set i (.own (ds ++ (oneS b x).map .str))) g) :
    sIf T (sApp i (wC (.str x))) sNext V ρ g := by
  refine hT _ ?_
  cases b with
  | true => exact ⟨ds, hi, hl, h⟩
  | false =>
    rw [if_neg Bool.false_ne_true]
    have e : ρ.set i (.own (ds ++ (oneS false x).map .str)) = ρ := by
      show ρ.set i (.own (ds ++ [])) = ρ
      rw [List.append_nil]
      exact same_set hi
    rw [e] at h
    exact h
theorem app_if {T : WT} {tl : WS} {V : EndsV} {ρ : Rho} {g i : Nat} {ds : List PyData} {x : Str} {b : Bool} (hT : ∀ R : Bool → Nat → Prop, R b g → T ρ g R) (hi : ρ[i]? = some (.own ds)) (hl : ds.length < sizeLine) (h : tl V (ρ.set i (.own (ds ++ (oneS b x).map .str))) g) :
    sSeq (sIf T (sApp i (wC (.str x))) sNext) tl V ρ g := app_if1 (V := { V with nx := tl V }) hT hi hl h
theorem if_b {T : WT} {W1 W2 : WS} {V : EndsV} {ρ : Rho} {g : Nat} (b : Bool) (hT : ∀ R : Bool → Nat → Prop, R b g → T ρ g R) (h1 : b = true → W1 V ρ g) (h2 : b = false → W2 V ρ g) : sIf T W1 W2 V ρ g := by
  refine hT _ ?_
  cases b with
  | true => exact h1 rfl
  | false => exact h2 rfl
/-- a list of data against [] -/
theorem eq_nilP {xs : List PyData} (hp : PyData.plainAll xs = true) (hd : PyData.depthAll xs ≤ 50) {R : PyData → Prop} (h : R (.bool xs.isEmpty)) : fEq (.list xs) (.list []) R := by
  refine ⟨⟨by simpa [PyData.plain] using hp, rfl, by simp [PyData.depth, PyData.depthAll]⟩, ?_⟩
  rw [show PyData.eqv (.list xs) (.list []) = xs.isEmpty by cases xs <;> simp [PyData.eqv, PyData.eqvAll]]
  exact h
theorem ne_nilP {xs : List PyData} (hp : PyData.plainAll xs = true) (hd : PyData.depthAll xs ≤ 50) {R : PyData → Prop} (h : R (.bool (!xs.isEmpty))) : fNe (.list xs) (.list []) R := by
  refine ⟨⟨by simpa [PyData.plain] using hp, rfl, by simp [PyData.depth, PyData.depthAll]⟩, ?_⟩
  rw [show PyData.eqv (.list xs) (.list []) = xs.isEmpty by cases xs <;> simp [PyData.eqv, PyData.eqvAll]]
  exact h
theorem eqH_nil {xs : List PyData} (hp : noXs xs = true) {R : PyData → Prop} (h : R (.bool xs.isEmpty)) : fEqH (.list xs) (.list []) R := by
  refine ⟨⟨.inr ⟨by simpa [noX] using hp, rfl⟩, by simp [PyData.depth, PyData.depthAll]⟩, ?_⟩
  rw [show PyData.eqv (.list xs) (.list []) = xs.isEmpty by cases xs <;> simp [PyData.eqv, PyData.eqvAll]]
  exact h
theorem plainAll_map {α : Type} {f : α → PyData} (hf : ∀ a, (f a).plain = true) : ∀ xs : List α, PyData.plainAll (xs.map f) = true
  | [] => rfl
  | a :: xs => by
    simp only [List.map_cons, PyData.plainAll, hf a, plainAll_map hf xs, Bool.and_self]
theorem depthAll_map {α : Type} {f : α → PyData} {m : Nat} (hf : ∀ a, (f a).depth ≤ m) : ∀ xs : List α, PyData.depthAll (xs.map f) ≤ m
  | [] => by simp [PyData.depthAll]
  | a :: xs => by
    have h1 := hf a
    have h2 := depthAll_map hf xs
    simp only [List.map_cons, PyData.depthAll]
    omega
theorem isEmpty_filter {α : Type} (p : α → Bool) (l : List α) : (l.filter p).isEmpty = !(l.any p) := by
  induction l with
  | nil => rfl
  | cons a l ih =>
    rw [List.filter_cons, List.any_cons]
    cases p a
    · simpa using ih
    · simp
theorem noXs_mem {xs : List PyData} (h : noXs xs = true) : ∀ x ∈ xs, noX x = true := by
  induction xs with
  | nil => intro x hx; cases hx
  | cons a xs ih =>
    simp only [noXs, Bool.and_eq_true] at h
    intro x hx
    rcases List.mem_cons.mp hx with rfl | hx
    · exact h.1
    · exact ih h.2 x hx
theorem noX_tup {xs : List PyData} : noX (.tuple xs) = noXs xs := by simp only [noX]
/-- a comprehension over the items themselves -/
theorem lc_raw {keep : PyData → Bool} {f : PyData → PyData} {G : WG} {T : WT} {E : WE} {ρ : Rho} {g : Nat} {R : List PyData → Nat → Prop} (xs acc : List PyData)
    (hs : ∀ x ∈ xs, ∀ (N : List PyData → Nat → Prop) (acc : List PyData), N (if keep x = true then acc ++ [f x] else acc) g → G x ρ fun ρ' => T ρ' g fun b g1 => if b = true then E ρ' g1 fun y g2 => N (acc ++ [y]) g2 else N acc g1)
    (h : R (acc ++ (xs.filter keep).map f) g) : lcV G T E xs ρ acc g R := by
  have q := lc_pure (enc := fun d : PyData => d) (keep := keep) (f := f) (G := G) (T := T) (E := E) (ρ := ρ) (g := g) (R := R) xs acc hs h
  rwa [List.map_id'] at q
theorem filter_tt {α : Type} (l : List α) : l.filter (fun _ => true) = l := List.filter_eq_self.mpr fun _ _ => rfl
theorem cutD_le (l : List PyData) (a b : Option Int) : (Vl.cutD l a b).length ≤ l.length := by
  unfold Vl.cutD
  rw [List.length_take, List.length_drop]
  omega
theorem cutD_mem {l : List PyData} {a b : Option Int} {d : PyData} (h : d ∈ Vl.cutD l a b) : d ∈ l := by
  unfold Vl.cutD at h
  exact List.mem_of_mem_drop (List.mem_of_mem_take h)
end Vl
/-! W8: a loop that returns False at the first item that does not pass. -/
namespace Vl
open PySem PySem.Spec PyProof.Rows L2
theorem lp_all {G : WG} {B : WS} {V : EndsV} {g : Nat} (p : PyData → Bool) (I : Rho → Prop) : ∀ (ds : List PyData),
    (∀ d ∈ ds, ∀ (ρ : Rho) (N : Rho → Nat → Prop), I ρ → (p d = true → ∀ ρ', I ρ' → N ρ' g) → (p d = false → V.rt (.bool false) g) → G d ρ fun ρ' => B { nx := N, rt := V.rt, bk := V.nx, ct := N } ρ' g) →
    (ds.all p = true → ∀ ρ, I ρ → V.nx ρ g) → (ds.all p = false → V.rt (.bool false) g) → ∀ ρ, I ρ → loopV G B V ds ρ g
  | [], _, h1, _, ρ, i => h1 rfl ρ i
  | d :: ds, hs, h1, h2, ρ, i => by
    rw [lp_cons]
    refine hs d List.mem_cons_self ρ _ i (fun hp ρ' i' => ?_) (fun hp => h2 (by rw [List.all_cons, hp, Bool.false_and]))
    refine lp_all p I ds (fun d hd => hs d (List.mem_cons_of_mem _ hd)) (fun e => h1 (by rw [List.all_cons, hp, e]; rfl)) (fun e => h2 (by rw [List.all_cons, e, Bool.and_false])) ρ' i'
end Vl
namespace Law
open PySem PySem.Spec PyProof.Rows L2 Vl
section
variable {P : Program} {w : World} {K : PySem.W.Frag} {mg : Str → Option Value} {base : Heap}
def spSame (n : Nat) : VSp := fun as g R => ∃ d, as = [.val d, .val d] ∧ Sm n d ∧ R (.bool true) g
def spPrev : Nat → VSp
  | 0 => fun _ _ _ => False
  | n + 1 => spSame n
theorem same_step (B : Bi mg) (D : Df K mg "_law_same" s__law_same ["found", "due"]) {n : Nat} (C__law_same : Ck P w K mg base "_law_same" ["found", "due"] n (spPrev n)) : Ck P w K mg base "_law_same" ["found", "due"] (n + 1) (spSame n) := by
  refine ck_v D sc__law_same (fun as g R h => ?_) (fun f cdv A outer s H E hr => (vss_cons (vs_if (t_w (w_or (t_isN (vv 1)) (w_or1 (t_isN (vv 0))))) (vss_one (vs_ret (v_and (v_isN (vv 1)) (v_one (v_isN (vv 0)))))) vss_nil) (vss_cons (vs_if (t_w (w_or (t_val (v_isBool (by rfl) B.b_isinstance (by rfl) B.b_bool (vv 1))) (w_or1 (t_val (v_isBool (by rfl) B.b_isinstance (by rfl) B.b_bool (vv 0)))))) (vss_one (vs_ret (v_and (v_isBool (by rfl) B.b_isinstance (by rfl) B.b_bool (vv 1)) (v_and (v_isBool (by rfl) B.b_isinstance (by rfl) B.b_bool (vv 0)) (v_one (v_eq hr.units (vv 0) (vv 1))))))) vss_nil) (vss_cons (vs_if (t_val (v_isa2 kit_IntStr (by rfl) B.b_isinstance (by rfl) B.b_int (by decide +kernel) (by rfl) B.b_str (by decide +kernel) (vv 1))) (vss_cons (vs_if (t_ne hr.units (v_isInt (by rfl) B.b_isinstance (by rfl) B.b_int (vv 0)) (v_isInt (by rfl) B.b_isinstance (by rfl) B.b_int (vv 1))) (vss_one (vs_ret v_bl)) vss_nil) (vss_one (vs_ret (v_and (v_isa2 kit_IntStr (by rfl) B.b_isinstance (by rfl) B.b_int (by decide +kernel) (by rfl) B.b_str (by decide +kernel) (vv 0)) (v_one (v_eq hr.units (vv 0) (vv 1))))))) vss_nil) (vss_cons (vs_if (t_w (w_or (t_ne hr.units (v_isTuple (by rfl) B.b_isinstance (by rfl) B.b_tuple (vv 1)) (v_isTuple (by rfl) B.b_isinstance (by rfl) B.b_tuple (vv 0))) (w_or1 (t_ne hr.units (v_isList (by rfl) B.b_isinstance (by rfl) B.b_list (vv 1)) (v_isList (by rfl) B.b_isinstance (by rfl) B.b_list (vv 0)))))) (vss_one (vs_ret v_bl)) vss_nil) (vss_cons (vs_if (t_ne hr.units (v_len (by rfl) B.b_len (va_cons (vv 0) va_nil)) (v_len (by rfl) B.b_len (va_cons (vv 1) va_nil))) (vss_one (vs_ret v_bl)) vss_nil) (vss_one (vs_ret (v_ni hr.units v_bl (v_l (vl_lc rfl sc__law_same.nd (vi_zip (by rfl) B.b_zip (va_cons (vv 0) (va_cons (vv 1) va_nil))) (blkOk_by (own := [("one", 2), ("other", 3)]) (by show blkC ["found", "due", "one", "other"] (defScope s__law_same) _ _ = true; decide +kernel)) (fun _ _ _ _ _ => (vg_tupn (vgs_cons (vg_n 2 sc__law_same.nd) (vgs_cons (vg_n 3 sc__law_same.nd) vgs_nil)))) (fun _ _ _ _ _ => vts_nil) (fun _ _ _ _ _ => (v_callC C__law_same hr (by rfl) (vp_cons (vv 2) (vp_cons (vv 3) vp_nil))))))))))))))) (fun as g R h => ?_)
  · obtain ⟨d, rfl, _⟩ := h
    rfl
  · obtain ⟨d, rfl, hd, hR⟩ := h
    cases hd with
    | non =>
      simp only [sSeq, sIf, sSet, sOwn, sRet, sRetN, sNext, sDis, sSetIx, sApp, sAsg, sPar, sPar2O, sPar3, wB, wOp, wVar, wC, wNil, wCons, pNil, pCons, pPen, wTup, lLst, wL, wCall, wChain, Vl.wAnd, Vl.wOr, Vl.wNot, wAndV, wOrV, wNotV, wIf, wNeg, wIsN, wIsa, wFn, wSl, oNo, oPt, lList, wRevL, wIxO, wEqE, gN, gsNil, gsCons, gT, iL, iT, iR1, iR2, iZp, iEn, wYes, wipeV, endV, startV, e_fII, e_addI, e_addT, e_addL, e_intI, e_intB, e_mulT, e_mulL, e_lenL, e_lenT, e_tupL, e_tupT, e_eqI, e_neI, e_eqB, e_neB, e_eqS, e_neS, List.length_cons, List.length_nil, List.replicate, List.cons_append, List.nil_append, List.getElem?_cons_zero, List.getElem?_cons_succ, List.set_cons_zero, List.set_cons_succ, Nat.reduceAdd, Nat.reduceSub, List.replicate_succ, List.replicate_zero, true_and, if_true, if_false, Bool.false_eq_true, reduceIte, Int.toNat_natCast, wFn, startV_one, PyData.isInt, PyData.isBool, PyData.isTuple, PyData.isList, PyData.isStr, isIntStr, isTupList, Bool.not_true, Bool.not_false]
      exact ⟨g, Nat.le_refl _, hR⟩
    | bl _ b =>
      simp only [sSeq, sIf, sSet, sOwn, sRet, sRetN, sNext, sDis, sSetIx, sApp, sAsg, sPar, sPar2O, sPar3, wB, wOp, wVar, wC, wNil, wCons, pNil, pCons, pPen, wTup, lLst, wL, wCall, wChain, Vl.wAnd, Vl.wOr, Vl.wNot, wAndV, wOrV, wNotV, wIf, wNeg, wIsN, wIsa, wFn, wSl, oNo, oPt, lList, wRevL, wIxO, wEqE, gN, gsNil, gsCons, gT, iL, iT, iR1, iR2, iZp, iEn, wYes, wipeV, endV, startV, e_fII, e_addI, e_addT, e_addL, e_intI, e_intB, e_mulT, e_mulL, e_lenL, e_lenT, e_tupL, e_tupT, e_eqI, e_neI, e_eqB, e_neB, e_eqS, e_neS, List.length_cons, List.length_nil, List.replicate, List.cons_append, List.nil_append, List.getElem?_cons_zero, List.getElem?_cons_succ, List.set_cons_zero, List.set_cons_succ, Nat.reduceAdd, Nat.reduceSub, List.replicate_succ, List.replicate_zero, true_and, if_true, if_false, Bool.false_eq_true, reduceIte, Int.toNat_natCast, wFn, startV_one, PyData.isInt, PyData.isBool, PyData.isTuple, PyData.isList, PyData.isStr, isIntStr, isTupList, Bool.not_true, Bool.not_false, noX, beq_self_eq_true]
      exact ⟨g, Nat.le_refl _, hR⟩
    | int _ i =>
      simp only [sSeq, sIf, sSet, sOwn, sRet, sRetN, sNext, sDis, sSetIx, sApp, sAsg, sPar, sPar2O, sPar3, wB, wOp, wVar, wC, wNil, wCons, pNil, pCons, pPen, wTup, lLst, wL, wCall, wChain, Vl.wAnd, Vl.wOr, Vl.wNot, wAndV, wOrV, wNotV, wIf, wNeg, wIsN, wIsa, wFn, wSl, oNo, oPt, lList, wRevL, wIxO, wEqE, gN, gsNil, gsCons, gT, iL, iT, iR1, iR2, iZp, iEn, wYes, wipeV, endV, startV, e_fII, e_addI, e_addT, e_addL, e_intI, e_intB, e_mulT, e_mulL, e_lenL, e_lenT, e_tupL, e_tupT, e_eqI, e_neI, e_eqB, e_neB, e_eqS, e_neS, List.length_cons, List.length_nil, List.replicate, List.cons_append, List.nil_append, List.getElem?_cons_zero, List.getElem?_cons_succ, List.set_cons_zero, List.set_cons_succ, Nat.reduceAdd, Nat.reduceSub, List.replicate_succ, List.replicate_zero, true_and, if_true, if_false, Bool.false_eq_true, reduceIte, Int.toNat_natCast, wFn, startV_one, PyData.isInt, PyData.isBool, PyData.isTuple, PyData.isList, PyData.isStr, isIntStr, isTupList, Bool.not_true, Bool.not_false, noX, beq_self_eq_true]
      exact ⟨g, Nat.le_refl _, hR⟩
    | str _ x =>
      simp only [sSeq, sIf, sSet, sOwn, sRet, sRetN, sNext, sDis, sSetIx, sApp, sAsg, sPar, sPar2O, sPar3, wB, wOp, wVar, wC, wNil, wCons, pNil, pCons, pPen, wTup, lLst, wL, wCall, wChain, Vl.wAnd, Vl.wOr, Vl.wNot, wAndV, wOrV, wNotV, wIf, wNeg, wIsN, wIsa, wFn, wSl, oNo, oPt, lList, wRevL, wIxO, wEqE, gN, gsNil, gsCons, gT, iL, iT, iR1, iR2, iZp, iEn, wYes, wipeV, endV, startV, e_fII, e_addI, e_addT, e_addL, e_intI, e_intB, e_mulT, e_mulL, e_lenL, e_lenT, e_tupL, e_tupT, e_eqI, e_neI, e_eqB, e_neB, e_eqS, e_neS, List.length_cons, List.length_nil, List.replicate, List.cons_append, List.nil_append, List.getElem?_cons_zero, List.getElem?_cons_succ, List.set_cons_zero, List.set_cons_succ, Nat.reduceAdd, Nat.reduceSub, List.replicate_succ, List.replicate_zero, true_and, if_true, if_false, Bool.false_eq_true, reduceIte, Int.toNat_natCast, wFn, startV_one, PyData.isInt, PyData.isBool, PyData.isTuple, PyData.isList, PyData.isStr, isIntStr, isTupList, Bool.not_true, Bool.not_false, noX, beq_self_eq_true]
      exact ⟨g, Nat.le_refl _, hR⟩
    | @lst m xs hx hl =>
      have hn : noX (.list xs) = true := (Sm.lst hx hl).noX
      simp only [sSeq, sIf, sSet, sOwn, sRet, sRetN, sNext, sDis, sSetIx, sApp, sAsg, sPar, sPar2O, sPar3, wB, wOp, wVar, wC, wNil, wCons, pNil, pCons, pPen, wTup, lLst, wL, wCall, wChain, Vl.wAnd, Vl.wOr, Vl.wNot, wAndV, wOrV, wNotV, wIf, wNeg, wIsN, wIsa, wFn, wSl, oNo, oPt, lList, wRevL, wIxO, wEqE, gN, gsNil, gsCons, gT, iL, iT, iR1, iR2, iZp, iEn, wYes, wipeV, endV, startV, e_fII, e_addI, e_addT, e_addL, e_intI, e_intB, e_mulT, e_mulL, e_lenL, e_lenT, e_tupL, e_tupT, e_eqI, e_neI, e_eqB, e_neB, e_eqS, e_neS, List.length_cons, List.length_nil, List.replicate, List.cons_append, List.nil_append, List.getElem?_cons_zero, List.getElem?_cons_succ, List.set_cons_zero, List.set_cons_succ, Nat.reduceAdd, Nat.reduceSub, List.replicate_succ, List.replicate_zero, true_and, if_true, if_false, Bool.false_eq_true, reduceIte, Int.toNat_natCast, wFn, startV_one, PyData.isInt, PyData.isBool, PyData.isTuple, PyData.isList, PyData.isStr, isIntStr, isTupList, Bool.not_true, Bool.not_false, lLc, beq_self_eq_true, hn, zip_same, List.length_map]
      refine ⟨by show xs.length ≤ 16777216; omega, lc_pure (keep := fun _ => true) (f := fun _ => .bool true) xs [] (fun x hxm N acc hN => ?_) ?_⟩
      · simp only [sSeq, sIf, sSet, sOwn, sRet, sRetN, sNext, sDis, sSetIx, sApp, sAsg, sPar, sPar2O, sPar3, wB, wOp, wVar, wC, wNil, wCons, pNil, pCons, pPen, wTup, lLst, wL, wCall, wChain, Vl.wAnd, Vl.wOr, Vl.wNot, wAndV, wOrV, wNotV, wIf, wNeg, wIsN, wIsa, wFn, wSl, oNo, oPt, lList, wRevL, wIxO, wEqE, gN, gsNil, gsCons, gT, iL, iT, iR1, iR2, iZp, iEn, wYes, wipeV, endV, startV, e_fII, e_addI, e_addT, e_addL, e_intI, e_intB, e_mulT, e_mulL, e_lenL, e_lenT, e_tupL, e_tupT, e_eqI, e_neI, e_eqB, e_neB, e_eqS, e_neS, List.length_cons, List.length_nil, List.replicate, List.cons_append, List.nil_append, List.getElem?_cons_zero, List.getElem?_cons_succ, List.set_cons_zero, List.set_cons_succ, Nat.reduceAdd, Nat.reduceSub, List.replicate_succ, List.replicate_zero, true_and, if_true, if_false, Bool.false_eq_true, reduceIte, Int.toNat_natCast, wFn, startV_one, PyData.isInt, PyData.isBool, PyData.isTuple, PyData.isList, PyData.isStr, isIntStr, isTupList, Bool.not_true, Bool.not_false, List.map_cons, List.map_nil]
        exact ⟨x, rfl, hx x hxm, hN⟩
      · refine ⟨_, rfl, ⟨?_, rfl, ?_⟩, g, Nat.le_refl _, ?_⟩
        · rw [List.nil_append]
          exact plainAll_bools (f := fun _ => true) _
        · rw [List.nil_append, depthAll_bools (f := fun _ => true)]
          decide
        · have z : (([] ++ (xs.filter fun _ => true).map fun _ => PyData.bool true).any fun y => PyData.eqv y (.bool false)) = false := by
            rw [List.any_eq_false]
            intro y hy
            rw [List.nil_append] at hy
            obtain ⟨_, _, rfl⟩ := List.mem_map.mp hy
            simp only [PyData.eqv]
            decide
          rw [z]
          exact hR
    | @tup m xs hx hl =>
      have hn : noX (.tuple xs) = true := (Sm.tup hx hl).noX
      simp only [sSeq, sIf, sSet, sOwn, sRet, sRetN, sNext, sDis, sSetIx, sApp, sAsg, sPar, sPar2O, sPar3, wB, wOp, wVar, wC, wNil, wCons, pNil, pCons, pPen, wTup, lLst, wL, wCall, wChain, Vl.wAnd, Vl.wOr, Vl.wNot, wAndV, wOrV, wNotV, wIf, wNeg, wIsN, wIsa, wFn, wSl, oNo, oPt, lList, wRevL, wIxO, wEqE, gN, gsNil, gsCons, gT, iL, iT, iR1, iR2, iZp, iEn, wYes, wipeV, endV, startV, e_fII, e_addI, e_addT, e_addL, e_intI, e_intB, e_mulT, e_mulL, e_lenL, e_lenT, e_tupL, e_tupT, e_eqI, e_neI, e_eqB, e_neB, e_eqS, e_neS, List.length_cons, List.length_nil, List.replicate, List.cons_append, List.nil_append, List.getElem?_cons_zero, List.getElem?_cons_succ, List.set_cons_zero, List.set_cons_succ, Nat.reduceAdd, Nat.reduceSub, List.replicate_succ, List.replicate_zero, true_and, if_true, if_false, Bool.false_eq_true, reduceIte, Int.toNat_natCast, wFn, startV_one, PyData.isInt, PyData.isBool, PyData.isTuple, PyData.isList, PyData.isStr, isIntStr, isTupList, Bool.not_true, Bool.not_false, lLc, beq_self_eq_true, hn, zip_same, List.length_map]
      refine ⟨by show xs.length ≤ 16777216; omega, lc_pure (keep := fun _ => true) (f := fun _ => .bool true) xs [] (fun x hxm N acc hN => ?_) ?_⟩
      · simp only [sSeq, sIf, sSet, sOwn, sRet, sRetN, sNext, sDis, sSetIx, sApp, sAsg, sPar, sPar2O, sPar3, wB, wOp, wVar, wC, wNil, wCons, pNil, pCons, pPen, wTup, lLst, wL, wCall, wChain, Vl.wAnd, Vl.wOr, Vl.wNot, wAndV, wOrV, wNotV, wIf, wNeg, wIsN, wIsa, wFn, wSl, oNo, oPt, lList, wRevL, wIxO, wEqE, gN, gsNil, gsCons, gT, iL, iT, iR1, iR2, iZp, iEn, wYes, wipeV, endV, startV, e_fII, e_addI, e_addT, e_addL, e_intI, e_intB, e_mulT, e_mulL, e_lenL, e_lenT, e_tupL, e_tupT, e_eqI, e_neI, e_eqB, e_neB, e_eqS, e_neS, List.length_cons, List.length_nil, List.replicate, List.cons_append, List.nil_append, List.getElem?_cons_zero, List.getElem?_cons_succ, List.set_cons_zero, List.set_cons_succ, Nat.reduceAdd, Nat.reduceSub, List.replicate_succ, List.replicate_zero, true_and, if_true, if_false, Bool.false_eq_true, reduceIte, Int.toNat_natCast, wFn, startV_one, PyData.isInt, PyData.isBool, PyData.isTuple, PyData.isList, PyData.isStr, isIntStr, isTupList, Bool.not_true, Bool.not_false, List.map_cons, List.map_nil]
        exact ⟨x, rfl, hx x hxm, hN⟩
      · refine ⟨_, rfl, ⟨?_, rfl, ?_⟩, g, Nat.le_refl _, ?_⟩
        · rw [List.nil_append]
          exact plainAll_bools (f := fun _ => true) _
        · rw [List.nil_append, depthAll_bools (f := fun _ => true)]
          decide
        · have z : (([] ++ (xs.filter fun _ => true).map fun _ => PyData.bool true).any fun y => PyData.eqv y (.bool false)) = false := by
            rw [List.any_eq_false]
            intro y hy
            rw [List.nil_append] at hy
            obtain ⟨_, _, rfl⟩ := List.mem_map.mp hy
            simp only [PyData.eqv]
            decide
          rw [z]
          exact hR
theorem ok_same (B : Bi mg) (D : Df K mg "_law_same" s__law_same ["found", "due"]) : ∀ n, Ck P w K mg base "_law_same" ["found", "due"] (n + 1) (spSame n)
  | 0 => same_step B D (ck_no D)
  | n + 1 => same_step B D (ok_same B D n)
def spOneOf : VSp := fun as g R => ∃ xs : List PyData, as = [.pen, .val (.list xs)] ∧ (0 < xs.length ∧ xs.length < 1000000000) ∧ g < LIM ∧ ∀ d ∈ xs, R d (g + 1)
theorem ok_one_of (B : Bi mg) (C__law_take : Ck P w K mg base "_law_take" ["pen", "amount"] 2 spTake) (D : Df K mg "_law_one_of" s__law_one_of ["pen", "some"]) : Ck P w K mg base "_law_one_of" ["pen", "some"] 3 spOneOf := by
  refine ck_v D sc__law_one_of (fun as g R h => ?_) (fun f cdv A outer s H E hr => (vss_one (vs_ret (v_ix (vv 1) (v_callC C__law_take (hr.mono (by decide)) (by rfl) (vp_pen 0 (vp_cons (v_len (by rfl) B.b_len (va_cons (vv 1) va_nil)) vp_nil))))))) (fun as g R h => ?_)
  · obtain ⟨xs, rfl, _⟩ := h
    rfl
  · obtain ⟨xs, rfl, ⟨h0, h1⟩, hg, hR⟩ := h
    simp only [sSeq, sIf, sSet, sOwn, sRet, sRetN, sNext, sDis, sSetIx, sApp, sAsg, sPar, sPar2O, sPar3, wB, wOp, wVar, wC, wNil, wCons, pNil, pCons, pPen, wTup, lLst, wL, wCall, wChain, Vl.wAnd, Vl.wOr, Vl.wNot, wAndV, wOrV, wNotV, wIf, wNeg, wIsN, wIsa, wFn, wSl, oNo, oPt, lList, wRevL, wIxO, wEqE, gN, gsNil, gsCons, gT, iL, iT, iR1, iR2, iZp, iEn, wYes, wipeV, endV, startV, e_fII, e_addI, e_addT, e_addL, e_intI, e_intB, e_mulT, e_mulL, e_lenL, e_lenT, e_tupL, e_tupT, e_eqI, e_neI, e_eqB, e_neB, e_eqS, e_neS, List.length_cons, List.length_nil, List.replicate, List.cons_append, List.nil_append, List.getElem?_cons_zero, List.getElem?_cons_succ, List.set_cons_zero, List.set_cons_succ, Nat.reduceAdd, Nat.reduceSub, List.replicate_succ, List.replicate_zero, true_and, if_true, if_false, Bool.false_eq_true, reduceIte, Int.toNat_natCast, wFn, startV_one]
    refine ⟨xs.length, rfl, ⟨by omega, by omega⟩, hg, fun r r0 r1 => ?_⟩
    exact fIx_mem r0 r1 fun d hd => ⟨g + 1, Nat.le_refl _, hR d hd⟩
def odds : List PyData := [.none, .bool true, .bool false, .int 0, .int 1, .int (-1), .str "", .str "a", .tuple [], .list [], .dict [], .tuple [.int 0], .tuple [.int 0, .int 0], .list [.tuple []], .tuple [.tuple []], .int 99, .int (10 ^ Int.toNat 20)]
def spOdd : VSp := fun as g R => as = [.pen] ∧ g < LIM ∧ ∀ d ∈ odds, R d (g + 1)
theorem ok_odd (B : Bi mg) (C__law_one_of : Ck P w K mg base "_law_one_of" ["pen", "some"] 3 spOneOf) (D : Df K mg "_law_odd" s__law_odd ["pen"]) : Ck P w K mg base "_law_odd" ["pen"] 4 spOdd := by
  refine ck_v D sc__law_odd (fun as g R h => ?_) (fun f cdv A outer s H E hr => (vss_one (vs_ret (v_callC C__law_one_of (hr.mono (by decide)) (by rfl) (vp_pen 0 (vp_cons (v_lst (va_cons v_non (va_cons v_bl (va_cons v_bl (va_cons v_int (va_cons v_int (va_cons (v_neg v_int) (va_cons v_str (va_cons v_str (va_cons (v_tup va_nil) (va_cons (v_lst va_nil) (va_cons v_emp (va_cons (v_tup (va_cons v_int va_nil)) (va_cons (v_tup (va_cons v_int (va_cons v_int va_nil))) (va_cons (v_lst (va_cons (v_tup va_nil) va_nil)) (va_cons (v_tup (va_cons (v_tup va_nil) va_nil)) (va_cons v_int (va_cons (v_pow v_int v_int) va_nil)))))))))))))))))) vp_nil)))))) (fun as g R h => ?_)
  · obtain ⟨rfl, _⟩ := h
    rfl
  · obtain ⟨rfl, hg, hR⟩ := h
    simp only [sSeq, sIf, sSet, sOwn, sRet, sRetN, sNext, sDis, sSetIx, sApp, sAsg, sPar, sPar2O, sPar3, wB, wOp, wVar, wC, wNil, wCons, pNil, pCons, pPen, wTup, lLst, wL, wCall, wChain, Vl.wAnd, Vl.wOr, Vl.wNot, wAndV, wOrV, wNotV, wIf, wNeg, wIsN, wIsa, wFn, wSl, oNo, oPt, lList, wRevL, wIxO, wEqE, gN, gsNil, gsCons, gT, iL, iT, iR1, iR2, iZp, iEn, wYes, wipeV, endV, startV, e_fII, e_addI, e_addT, e_addL, e_intI, e_intB, e_mulT, e_mulL, e_lenL, e_lenT, e_tupL, e_tupT, e_eqI, e_neI, e_eqB, e_neB, e_eqS, e_neS, List.length_cons, List.length_nil, List.replicate, List.cons_append, List.nil_append, List.getElem?_cons_zero, List.getElem?_cons_succ, List.set_cons_zero, List.set_cons_succ, Nat.reduceAdd, Nat.reduceSub, List.replicate_succ, List.replicate_zero, true_and, if_true, if_false, Bool.false_eq_true, reduceIte, Int.toNat_natCast, wFn, startV_one]
    refine ⟨by decide, by decide, by decide, by decide, by decide, by decide, by decide, by decide, pow_ok (a := 10) (n := 20) (by decide) (by decide), by decide, _, rfl, ⟨by decide, by decide⟩, hg, fun d hd => ⟨g + 1, Nat.le_refl _, hR d hd⟩⟩
def inI (d : PyData) (lo hi : Int) : Bool := match d with
  | .int i => decide (lo ≤ i) && decide (i ≤ hi)
  | _ => false
def spInt : VSp := fun as g R => ∃ (d : PyData) (lo hi : Int), as = [.val d, .val (.int lo), .val (.int hi)] ∧ noX d = true ∧ R (.bool (inI d lo hi)) g
def isT (d : PyData) (n : Int) : Bool := match d with
  | .tuple xs => (xs.length : Int) == n
  | _ => false
def spIsT : VSp := fun as g R => ∃ (d : PyData) (n : Int), as = [.val d, .val (.int n)] ∧ noX d = true ∧ R (.bool (isT d n)) g
theorem ok_is_integer_within (B : Bi mg)  (D : Df K mg "is_integer_within" s_is_integer_within ["value", "low", "high"]) : Ck P w K mg base "is_integer_within" ["value", "low", "high"] 1 spInt := by
  refine ck_v D sc_is_integer_within (fun as g R h => ?_) (fun f cdv A outer s H E hr => (vss_cons (vs_if (t_w (w_or (t_not (t_val (v_isInt (by rfl) B.b_isinstance (by rfl) B.b_int (vv 0)))) (w_or1 (t_val (v_isBool (by rfl) B.b_isinstance (by rfl) B.b_bool (vv 0)))))) (vss_one (vs_ret v_bl)) vss_nil) (vss_one (vs_ret (v_lele (vv 1) (vv 0) (vv 2)))))) (fun as g R h => ?_)
  · obtain ⟨d, lo, hi, rfl, hx, hR⟩ := h
    rfl
  · obtain ⟨d, lo, hi, rfl, hx, hR⟩ := h
    cases d <;> simp only [sSeq, sIf, sSet, sOwn, sRet, sRetN, sNext, sDis, sSetIx, sApp, sAsg, sPar, sPar2O, sPar3, wB, wOp, wVar, wC, wNil, wCons, pNil, pCons, pPen, wTup, lLst, wL, wCall, wChain, Vl.wAnd, Vl.wOr, Vl.wNot, wAndV, wOrV, wNotV, wIf, wNeg, wIsN, wIsa, wFn, wSl, oNo, oPt, lList, wRevL, wIxO, wEqE, gN, gsNil, gsCons, gT, iL, iT, iR1, iR2, iZp, iEn, wYes, wipeV, endV, startV, e_fII, e_addI, e_addT, e_addL, e_intI, e_intB, e_mulT, e_mulL, e_lenL, e_lenT, e_tupL, e_tupT, e_eqI, e_neI, e_eqB, e_neB, e_eqS, e_neS, List.length_cons, List.length_nil, List.replicate, List.cons_append, List.nil_append, List.getElem?_cons_zero, List.getElem?_cons_succ, List.set_cons_zero, List.set_cons_succ, Nat.reduceAdd, Nat.reduceSub, List.replicate_succ, List.replicate_zero, true_and, if_true, if_false, Bool.false_eq_true, reduceIte, Int.toNat_natCast, wFn, startV_one, PyData.isInt, PyData.isBool, PyData.isTuple, PyData.isList, PyData.isStr, isIntStr, isTupList, Bool.not_true, Bool.not_false] <;> simp only [hx, true_and] <;> first
      | exact ⟨g, Nat.le_refl _, hR⟩
      | (rename_i i
         change R (.bool (decide (lo ≤ i) && decide (i ≤ hi))) g at hR
         cases hc : decide (lo ≤ i) <;> rw [hc] at hR <;> exact ⟨g, Nat.le_refl _, hR⟩)

theorem ok__law_is_integer (B : Bi mg)  (D : Df K mg "_law_is_integer" s__law_is_integer ["value", "low", "high"]) : Ck P w K mg base "_law_is_integer" ["value", "low", "high"] 1 spInt := by
  refine ck_v D sc__law_is_integer (fun as g R h => ?_) (fun f cdv A outer s H E hr => (vss_one (vs_ret (v_and (v_isInt (by rfl) B.b_isinstance (by rfl) B.b_int (vv 0)) (v_and (v_not (v_isBool (by rfl) B.b_isinstance (by rfl) B.b_bool (vv 0))) (v_one (v_lele (vv 1) (vv 0) (vv 2)))))))) (fun as g R h => ?_)
  · obtain ⟨d, lo, hi, rfl, hx, hR⟩ := h
    rfl
  · obtain ⟨d, lo, hi, rfl, hx, hR⟩ := h
    cases d <;> simp only [sSeq, sIf, sSet, sOwn, sRet, sRetN, sNext, sDis, sSetIx, sApp, sAsg, sPar, sPar2O, sPar3, wB, wOp, wVar, wC, wNil, wCons, pNil, pCons, pPen, wTup, lLst, wL, wCall, wChain, Vl.wAnd, Vl.wOr, Vl.wNot, wAndV, wOrV, wNotV, wIf, wNeg, wIsN, wIsa, wFn, wSl, oNo, oPt, lList, wRevL, wIxO, wEqE, gN, gsNil, gsCons, gT, iL, iT, iR1, iR2, iZp, iEn, wYes, wipeV, endV, startV, e_fII, e_addI, e_addT, e_addL, e_intI, e_intB, e_mulT, e_mulL, e_lenL, e_lenT, e_tupL, e_tupT, e_eqI, e_neI, e_eqB, e_neB, e_eqS, e_neS, List.length_cons, List.length_nil, List.replicate, List.cons_append, List.nil_append, List.getElem?_cons_zero, List.getElem?_cons_succ, List.set_cons_zero, List.set_cons_succ, Nat.reduceAdd, Nat.reduceSub, List.replicate_succ, List.replicate_zero, true_and, if_true, if_false, Bool.false_eq_true, reduceIte, Int.toNat_natCast, wFn, startV_one, PyData.isInt, PyData.isBool, PyData.isTuple, PyData.isList, PyData.isStr, isIntStr, isTupList, Bool.not_true, Bool.not_false] <;> simp only [hx, true_and] <;> first
      | exact ⟨g, Nat.le_refl _, hR⟩
      | (rename_i i
         change R (.bool (decide (lo ≤ i) && decide (i ≤ hi))) g at hR
         cases hc : decide (lo ≤ i) <;> rw [hc] at hR <;> exact ⟨g, Nat.le_refl _, hR⟩)

theorem ok_is_tuple_of (B : Bi mg)  (D : Df K mg "is_tuple_of" s_is_tuple_of ["value", "length"]) : Ck P w K mg base "is_tuple_of" ["value", "length"] 1 spIsT := by
  refine ck_v D sc_is_tuple_of (fun as g R h => ?_) (fun f cdv A outer s H E hr => (vss_one (vs_ret (v_and (v_isTuple (by rfl) B.b_isinstance (by rfl) B.b_tuple (vv 0)) (v_one (v_eq hr.units (v_len (by rfl) B.b_len (va_cons (vv 0) va_nil)) (vv 1))))))) (fun as g R h => ?_)
  · obtain ⟨d, n, rfl, hx, hR⟩ := h
    rfl
  · obtain ⟨d, n, rfl, hx, hR⟩ := h
    cases d <;> simp only [sSeq, sIf, sSet, sOwn, sRet, sRetN, sNext, sDis, sSetIx, sApp, sAsg, sPar, sPar2O, sPar3, wB, wOp, wVar, wC, wNil, wCons, pNil, pCons, pPen, wTup, lLst, wL, wCall, wChain, Vl.wAnd, Vl.wOr, Vl.wNot, wAndV, wOrV, wNotV, wIf, wNeg, wIsN, wIsa, wFn, wSl, oNo, oPt, lList, wRevL, wIxO, wEqE, gN, gsNil, gsCons, gT, iL, iT, iR1, iR2, iZp, iEn, wYes, wipeV, endV, startV, e_fII, e_addI, e_addT, e_addL, e_intI, e_intB, e_mulT, e_mulL, e_lenL, e_lenT, e_tupL, e_tupT, e_eqI, e_neI, e_eqB, e_neB, e_eqS, e_neS, List.length_cons, List.length_nil, List.replicate, List.cons_append, List.nil_append, List.getElem?_cons_zero, List.getElem?_cons_succ, List.set_cons_zero, List.set_cons_succ, Nat.reduceAdd, Nat.reduceSub, List.replicate_succ, List.replicate_zero, true_and, if_true, if_false, Bool.false_eq_true, reduceIte, Int.toNat_natCast, wFn, startV_one, PyData.isInt, PyData.isBool, PyData.isTuple, PyData.isList, PyData.isStr, isIntStr, isTupList, Bool.not_true, Bool.not_false] <;> simp only [hx, true_and] <;> exact ⟨g, Nat.le_refl _, hR⟩

/-! plans -/
inductive Snd where
  | all | either | now
  deriving DecidableEq
def Snd.s : Snd → Str
  | .all => "all"
  | .either => "either"
  | .now => "now"
inductive Anw where
  | never | cut | kept
  deriving DecidableEq
def Anw.s : Anw → Str
  | .never => "never"
  | .cut => "cut"
  | .kept => "kept"
structure Pl where
  lanes : Int
  late : Int
  ch : Snd
  pa : Snd
  tv : Bool
  tc : Bool
  la : Bool
  an : Anw
def plD (p : Pl) : PyData := .tuple [.int p.lanes, .int p.late, .str p.ch.s, .str p.pa.s, .bool p.tv, .bool p.tc, .bool p.la, .str p.an.s]
structure PlOk (p : Pl) : Prop where
  l : p.lanes = 1 ∨ p.lanes = 2
  t : p.late = 1 ∨ p.late = 2
theorem _root_.Vl.lp_nil {G : WG} {B : WS} {V : EndsV} {ρ : Rho} {g : Nat} : loopV G B V [] ρ g = V.nx ρ g := rfl
theorem b_pc : (Str.ofString "parent" == Str.ofString "child") = false := by decide
theorem b_cp : (Str.ofString "child" == Str.ofString "parent") = false := by decide
section
variable {a b c d e f h i : PyData} {r : List PyData} {R : PyData → Prop}
theorem e_ix5T : fIx (.tuple (a :: b :: c :: d :: e :: f :: r)) (.int 5) R = R f := fIx_is (j := 5) rfl rfl
theorem e_ix6T : fIx (.tuple (a :: b :: c :: d :: e :: f :: h :: r)) (.int 6) R = R h := fIx_is (j := 6) rfl rfl
theorem e_ix7T : fIx (.tuple (a :: b :: c :: d :: e :: f :: h :: i :: r)) (.int 7) R = R i := fIx_is (j := 7) rfl rfl
end
def Snd.isAll : Snd → Bool
  | .all => true
  | _ => false
def Snd.isEi : Snd → Bool
  | .either => true
  | _ => false
def spDpl : VSp := fun as g R => ∃ late : Int, as = [.pen, .val (.int late)] ∧ (late = 1 ∨ late = 2) ∧ g + 7 ≤ LIM ∧ ∀ pl : Pl, PlOk pl → pl.late = late → R (plD pl) (g + 7)
theorem snd_of {d : PyData} (h : d ∈ [PyData.str "all", .str "all", .str "either", .str "now"]) : ∃ s : Snd, d = .str s.s := by
  simp only [List.mem_cons, List.not_mem_nil, or_false] at h
  rcases h with rfl | rfl | rfl | rfl
  · exact ⟨.all, rfl⟩
  · exact ⟨.all, rfl⟩
  · exact ⟨.either, rfl⟩
  · exact ⟨.now, rfl⟩
theorem anw_of {d : PyData} (h : d ∈ [PyData.str "never", .str "never", .str "cut", .str "kept"]) : ∃ s : Anw, d = .str s.s := by
  simp only [List.mem_cons, List.not_mem_nil, or_false] at h
  rcases h with rfl | rfl | rfl | rfl
  · exact ⟨.never, rfl⟩
  · exact ⟨.never, rfl⟩
  · exact ⟨.cut, rfl⟩
  · exact ⟨.kept, rfl⟩
theorem ok__law_draw_plan (B : Bi mg) (C__law_take : Ck P w K mg base "_law_take" ["pen", "amount"] 2 spTake) (C__law_one_of : Ck P w K mg base "_law_one_of" ["pen", "some"] 3 spOneOf) (D : Df K mg "_law_draw_plan" s__law_draw_plan ["pen", "late"]) : Ck P w K mg base "_law_draw_plan" ["pen", "late"] 4 spDpl := by
  refine ck_v D sc__law_draw_plan (fun as g R h => ?_) (fun f cdv A outer s H E hr => (vss_cons (vs_set 2 sc__law_draw_plan.nd (v_lst (va_cons v_str (va_cons v_str (va_cons v_str (va_cons v_str va_nil)))))) (vss_cons (vs_set 3 sc__law_draw_plan.nd (v_toTuple (by rfl) B.b_tuple (va_cons (v_l (vl_lc rfl sc__law_draw_plan.nd (vi_range1 (by rfl) B.b_range (va_cons v_int va_nil)) (blkOk_by (own := [("flag", 4)]) (by show blkC ["pen", "late", "sends", "flags", "flag", "anew", "some"] (defScope s__law_draw_plan) _ _ = true; decide +kernel)) (fun _ _ _ _ _ => (vg_n 4 sc__law_draw_plan.nd)) (fun _ _ _ _ _ => vts_nil) (fun _ _ _ _ _ => (v_eq hr.units (v_callC C__law_take (hr.mono (by decide)) (by rfl) (vp_pen 0 (vp_cons v_int vp_nil))) v_int)))) va_nil))) (vss_cons (vs_set 5 sc__law_draw_plan.nd (v_callC C__law_one_of (hr.mono (by decide)) (by rfl) (vp_pen 0 (vp_cons (v_lst (va_cons v_str (va_cons v_str (va_cons v_str (va_cons v_str va_nil))))) vp_nil)))) (vss_cons (vs_set 6 sc__law_draw_plan.nd (v_tup (va_cons (v_callC C__law_one_of (hr.mono (by decide)) (by rfl) (vp_pen 0 (vp_cons (vv 2) vp_nil))) (va_cons (v_callC C__law_one_of (hr.mono (by decide)) (by rfl) (vp_pen 0 (vp_cons (vv 2) vp_nil))) va_nil)))) (vss_one (vs_ret (v_add (v_add (v_add (v_tup (va_cons (v_add v_int (v_callC C__law_take (hr.mono (by decide)) (by rfl) (vp_pen 0 (vp_cons v_int vp_nil)))) (va_cons (vv 1) va_nil))) (vv 6)) (vv 3)) (v_tup (va_cons (vv 5) va_nil)))))))))) (fun as g R h => ?_)
  · obtain ⟨late, rfl, hl, hg, hR⟩ := h
    rfl
  · obtain ⟨late, rfl, hl, hg, hR⟩ := h
    have hg' : g + 7 ≤ 4000000000 := hg
    simp only [sSeq, sIf, sSet, sOwn, sRet, sRetN, sNext, sDis, sSetIx, sApp, sAsg, sPar, sPar2O, sPar3, wB, wOp, wVar, wC, wNil, wCons, pNil, pCons, pPen, wTup, lLst, wL, wCall, wChain, Vl.wAnd, Vl.wOr, Vl.wNot, wAndV, wOrV, wNotV, wIf, wNeg, wIsN, wIsa, wFn, wSl, oNo, oPt, lList, wRevL, wIxO, wEqE, gN, gsNil, gsCons, gT, iL, iT, iR1, iR2, iZp, iEn, wYes, wipeV, endV, startV, e_fII, e_addI, e_addT, e_addL, e_intI, e_intB, e_mulT, e_mulL, e_lenL, e_lenT, e_tupL, e_tupT, e_eqI, e_neI, e_eqB, e_neB, e_eqS, e_neS, e_ix0T, e_ix1T, e_ix2T, e_ix3T, e_ix4T, e_ix0L, e_ix1L, e_ix2L, List.length_cons, List.length_nil, List.replicate, List.cons_append, List.nil_append, List.getElem?_cons_zero, List.getElem?_cons_succ, List.set_cons_zero, List.set_cons_succ, Nat.reduceAdd, Nat.reduceSub, List.replicate_succ, List.replicate_zero, true_and, if_true, if_false, Bool.false_eq_true, reduceIte, Int.toNat_natCast, fGt, fLtI, fLe, fGe, wFn, startV_one, isIntStr, isTupList, Bool.not_true, Bool.not_false, k_isInt_none, k_isInt_bool, k_isInt_int, k_isInt_str, k_isInt_list, k_isInt_tuple, k_isInt_dict, k_isBool_none, k_isBool_bool, k_isBool_int, k_isBool_str, k_isBool_list, k_isBool_tuple, k_isBool_dict, k_isTuple_none, k_isTuple_bool, k_isTuple_int, k_isTuple_str, k_isTuple_list, k_isTuple_tuple, k_isTuple_dict, k_isList_none, k_isList_bool, k_isList_int, k_isList_str, k_isList_list, k_isList_tuple, k_isList_dict, k_isStr_none, k_isStr_bool, k_isStr_int, k_isStr_str, k_isStr_list, k_isStr_tuple, k_isStr_dict, lRg1, lRg2, lLc2, iEm, lSeq, lOf, lRet, lRetO, lDis, lIf, lFn, sApp, lLc]
    refine ⟨by decide, ⟨by decide, by decide⟩, by decide, ?_⟩
    refine lc_inv (P := fun _ => True) (fun m acc g' => (∃ bs : List Bool, acc = bs.map .bool ∧ bs.length + m = 3) ∧ g' + m ≤ g + 3) ?_ ?_ _ _ _ (fun _ _ => trivial) ⟨⟨[], rfl, by decide⟩, by show g + 3 ≤ _; omega⟩
    · rintro acc g2 ⟨⟨bs, rfl, hl2⟩, hg2⟩
      rcases bs with _ | ⟨b1, _ | ⟨b2, _ | ⟨b3, _ | ⟨b4, bs⟩⟩⟩⟩ <;> simp at hl2
      simp only [sSeq, sIf, sSet, sOwn, sRet, sRetN, sNext, sDis, sSetIx, sApp, sAsg, sPar, sPar2O, sPar3, wB, wOp, wVar, wC, wNil, wCons, pNil, pCons, pPen, wTup, lLst, wL, wCall, wChain, Vl.wAnd, Vl.wOr, Vl.wNot, wAndV, wOrV, wNotV, wIf, wNeg, wIsN, wIsa, wFn, wSl, oNo, oPt, lList, wRevL, wIxO, wEqE, gN, gsNil, gsCons, gT, iL, iT, iR1, iR2, iZp, iEn, wYes, wipeV, endV, startV, e_fII, e_addI, e_addT, e_addL, e_intI, e_intB, e_mulT, e_mulL, e_lenL, e_lenT, e_tupL, e_tupT, e_eqI, e_neI, e_eqB, e_neB, e_eqS, e_neS, e_ix0T, e_ix1T, e_ix2T, e_ix3T, e_ix4T, e_ix0L, e_ix1L, e_ix2L, List.length_cons, List.length_nil, List.replicate, List.cons_append, List.nil_append, List.getElem?_cons_zero, List.getElem?_cons_succ, List.set_cons_zero, List.set_cons_succ, Nat.reduceAdd, Nat.reduceSub, List.replicate_succ, List.replicate_zero, true_and, if_true, if_false, Bool.false_eq_true, reduceIte, Int.toNat_natCast, fGt, fLtI, fLe, fGe, wFn, startV_one, isIntStr, isTupList, Bool.not_true, Bool.not_false, k_isInt_none, k_isInt_bool, k_isInt_int, k_isInt_str, k_isInt_list, k_isInt_tuple, k_isInt_dict, k_isBool_none, k_isBool_bool, k_isBool_int, k_isBool_str, k_isBool_list, k_isBool_tuple, k_isBool_dict, k_isTuple_none, k_isTuple_bool, k_isTuple_int, k_isTuple_str, k_isTuple_list, k_isTuple_tuple, k_isTuple_dict, k_isList_none, k_isList_bool, k_isList_int, k_isList_str, k_isList_list, k_isList_tuple, k_isList_dict, k_isStr_none, k_isStr_bool, k_isStr_int, k_isStr_str, k_isStr_list, k_isStr_tuple, k_isStr_dict, lRg1, lRg2, lLc2, iEm, lSeq, lOf, lRet, lRetO, lDis, lIf, lFn, sApp, lLc, List.map_cons, List.map_nil]
      refine ⟨by decide, _, rfl, ⟨by show 0 < 4; decide, by show 4 < 1000000000; decide⟩, by show g2 < 4000000000; omega, fun d hd => ?_⟩
      obtain ⟨an, rfl⟩ := anw_of hd
      refine ⟨_, rfl, ⟨by show 0 < 4; decide, by show 4 < 1000000000; decide⟩, by show g2 + 1 < 4000000000; omega, fun d hd => ?_⟩
      obtain ⟨ch, rfl⟩ := snd_of hd
      refine ⟨_, rfl, ⟨by show 0 < 4; decide, by show 4 < 1000000000; decide⟩, by show g2 + 1 + 1 < 4000000000; omega, fun d hd => ?_⟩
      obtain ⟨pa, rfl⟩ := snd_of hd
      refine ⟨by decide, 2, rfl, ⟨by decide, by decide⟩, by show g2 + 1 + 1 + 1 < 4000000000; omega, fun r r0 r1 => ?_⟩
      simp only [sSeq, sIf, sSet, sOwn, sRet, sRetN, sNext, sDis, sSetIx, sApp, sAsg, sPar, sPar2O, sPar3, wB, wOp, wVar, wC, wNil, wCons, pNil, pCons, pPen, wTup, lLst, wL, wCall, wChain, Vl.wAnd, Vl.wOr, Vl.wNot, wAndV, wOrV, wNotV, wIf, wNeg, wIsN, wIsa, wFn, wSl, oNo, oPt, lList, wRevL, wIxO, wEqE, gN, gsNil, gsCons, gT, iL, iT, iR1, iR2, iZp, iEn, wYes, wipeV, endV, startV, e_fII, e_addI, e_addT, e_addL, e_intI, e_intB, e_mulT, e_mulL, e_lenL, e_lenT, e_tupL, e_tupT, e_eqI, e_neI, e_eqB, e_neB, e_eqS, e_neS, e_ix0T, e_ix1T, e_ix2T, e_ix3T, e_ix4T, e_ix0L, e_ix1L, e_ix2L, List.length_cons, List.length_nil, List.replicate, List.cons_append, List.nil_append, List.getElem?_cons_zero, List.getElem?_cons_succ, List.set_cons_zero, List.set_cons_succ, Nat.reduceAdd, Nat.reduceSub, List.replicate_succ, List.replicate_zero, true_and, if_true, if_false, Bool.false_eq_true, reduceIte, Int.toNat_natCast, fGt, fLtI, fLe, fGe, wFn, startV_one, isIntStr, isTupList, Bool.not_true, Bool.not_false, k_isInt_none, k_isInt_bool, k_isInt_int, k_isInt_str, k_isInt_list, k_isInt_tuple, k_isInt_dict, k_isBool_none, k_isBool_bool, k_isBool_int, k_isBool_str, k_isBool_list, k_isBool_tuple, k_isBool_dict, k_isTuple_none, k_isTuple_bool, k_isTuple_int, k_isTuple_str, k_isTuple_list, k_isTuple_tuple, k_isTuple_dict, k_isList_none, k_isList_bool, k_isList_int, k_isList_str, k_isList_list, k_isList_tuple, k_isList_dict, k_isStr_none, k_isStr_bool, k_isStr_int, k_isStr_str, k_isStr_list, k_isStr_tuple, k_isStr_dict, lRg1, lRg2, lLc2, iEm, lSeq, lOf, lRet, lRetO, lDis, lIf, lFn, sApp, lLc]
      refine ⟨by decide, by decide, by decide, by decide, by decide, g + 7, by omega, hR ⟨1 + r, late, ch, pa, b1, b2, b3, an⟩ ⟨?_, hl⟩ rfl⟩
      show 1 + r = 1 ∨ 1 + r = 2
      omega
    · rintro d m acc g2 N2 _ ⟨⟨bs, rfl, hl2⟩, hg2⟩ hN2
      simp only [sSeq, sIf, sSet, sOwn, sRet, sRetN, sNext, sDis, sSetIx, sApp, sAsg, sPar, sPar2O, sPar3, wB, wOp, wVar, wC, wNil, wCons, pNil, pCons, pPen, wTup, lLst, wL, wCall, wChain, Vl.wAnd, Vl.wOr, Vl.wNot, wAndV, wOrV, wNotV, wIf, wNeg, wIsN, wIsa, wFn, wSl, oNo, oPt, lList, wRevL, wIxO, wEqE, gN, gsNil, gsCons, gT, iL, iT, iR1, iR2, iZp, iEn, wYes, wipeV, endV, startV, e_fII, e_addI, e_addT, e_addL, e_intI, e_intB, e_mulT, e_mulL, e_lenL, e_lenT, e_tupL, e_tupT, e_eqI, e_neI, e_eqB, e_neB, e_eqS, e_neS, e_ix0T, e_ix1T, e_ix2T, e_ix3T, e_ix4T, e_ix0L, e_ix1L, e_ix2L, List.length_cons, List.length_nil, List.replicate, List.cons_append, List.nil_append, List.getElem?_cons_zero, List.getElem?_cons_succ, List.set_cons_zero, List.set_cons_succ, Nat.reduceAdd, Nat.reduceSub, List.replicate_succ, List.replicate_zero, true_and, if_true, if_false, Bool.false_eq_true, reduceIte, Int.toNat_natCast, fGt, fLtI, fLe, fGe, wFn, startV_one, isIntStr, isTupList, Bool.not_true, Bool.not_false, k_isInt_none, k_isInt_bool, k_isInt_int, k_isInt_str, k_isInt_list, k_isInt_tuple, k_isInt_dict, k_isBool_none, k_isBool_bool, k_isBool_int, k_isBool_str, k_isBool_list, k_isBool_tuple, k_isBool_dict, k_isTuple_none, k_isTuple_bool, k_isTuple_int, k_isTuple_str, k_isTuple_list, k_isTuple_tuple, k_isTuple_dict, k_isList_none, k_isList_bool, k_isList_int, k_isList_str, k_isList_list, k_isList_tuple, k_isList_dict, k_isStr_none, k_isStr_bool, k_isStr_int, k_isStr_str, k_isStr_list, k_isStr_tuple, k_isStr_dict, lRg1, lRg2, lLc2, iEm, lSeq, lOf, lRet, lRetO, lDis, lIf, lFn, sApp, lLc, List.map_cons, List.map_nil]
      refine ⟨2, rfl, ⟨by decide, by decide⟩, by show g2 < 4000000000; omega, fun r r0 r1 => ?_⟩
      simp only [sSeq, sIf, sSet, sOwn, sRet, sRetN, sNext, sDis, sSetIx, sApp, sAsg, sPar, sPar2O, sPar3, wB, wOp, wVar, wC, wNil, wCons, pNil, pCons, pPen, wTup, lLst, wL, wCall, wChain, Vl.wAnd, Vl.wOr, Vl.wNot, wAndV, wOrV, wNotV, wIf, wNeg, wIsN, wIsa, wFn, wSl, oNo, oPt, lList, wRevL, wIxO, wEqE, gN, gsNil, gsCons, gT, iL, iT, iR1, iR2, iZp, iEn, wYes, wipeV, endV, startV, e_fII, e_addI, e_addT, e_addL, e_intI, e_intB, e_mulT, e_mulL, e_lenL, e_lenT, e_tupL, e_tupT, e_eqI, e_neI, e_eqB, e_neB, e_eqS, e_neS, e_ix0T, e_ix1T, e_ix2T, e_ix3T, e_ix4T, e_ix0L, e_ix1L, e_ix2L, List.length_cons, List.length_nil, List.replicate, List.cons_append, List.nil_append, List.getElem?_cons_zero, List.getElem?_cons_succ, List.set_cons_zero, List.set_cons_succ, Nat.reduceAdd, Nat.reduceSub, List.replicate_succ, List.replicate_zero, true_and, if_true, if_false, Bool.false_eq_true, reduceIte, Int.toNat_natCast, fGt, fLtI, fLe, fGe, wFn, startV_one, isIntStr, isTupList, Bool.not_true, Bool.not_false, k_isInt_none, k_isInt_bool, k_isInt_int, k_isInt_str, k_isInt_list, k_isInt_tuple, k_isInt_dict, k_isBool_none, k_isBool_bool, k_isBool_int, k_isBool_str, k_isBool_list, k_isBool_tuple, k_isBool_dict, k_isTuple_none, k_isTuple_bool, k_isTuple_int, k_isTuple_str, k_isTuple_list, k_isTuple_tuple, k_isTuple_dict, k_isList_none, k_isList_bool, k_isList_int, k_isList_str, k_isList_list, k_isList_tuple, k_isList_dict, k_isStr_none, k_isStr_bool, k_isStr_int, k_isStr_str, k_isStr_list, k_isStr_tuple, k_isStr_dict, lRg1, lRg2, lLc2, iEm, lSeq, lOf, lRet, lRetO, lDis, lIf, lFn, sApp, lLc]
      exact hN2 _ _ ⟨⟨bs ++ [r == 0], by rw [List.map_append]; rfl, by rw [List.length_append, List.length_singleton]; omega⟩, by omega⟩


end
end Law
namespace Law
open PySem PySem.Spec PyProof.Rows L2 Vl
section
variable {P : Program} {w : World} {K : PySem.W.Frag} {mg : Str → Option Value} {base : Heap}
theorem odd_bd : ∀ d ∈ odds, Bd 1 2 d := by
  intro d hd
  simp only [odds, List.mem_cons, List.not_mem_nil, or_false] at hd
  have z : Bd 1 0 (.int 0) := .int _ _ (by decide)
  rcases hd with rfl | rfl | rfl | rfl | rfl | rfl | rfl | rfl | rfl | rfl | rfl | rfl | rfl | rfl | rfl | rfl | rfl
  · exact .non _
  · exact .bl _ _
  · exact .bl _ _
  · exact .int _ _ (by decide)
  · exact .int _ _ (by decide)
  · exact .int _ _ (by decide)
  · exact .str _ _ (by decide +kernel)
  · exact .str _ _ (by decide +kernel)
  · exact .tup (n := 1) (fun _ h => (nomatch h)) (by decide)
  · exact .lst (n := 1) (fun _ h => (nomatch h)) (by decide)
  · exact .emp 1
  · exact .tup (n := 1) (fun x hx => by rw [List.mem_singleton.mp hx]; exact z.up) (by decide)
  · exact .tup (n := 1) (fun x hx => by rcases List.mem_cons.mp hx with rfl | hx; exact z.up; rw [List.mem_singleton.mp hx]; exact z.up) (by decide)
  · exact .lst (n := 1) (fun x hx => by rw [List.mem_singleton.mp hx]; exact .tup (n := 0) (fun _ h => (nomatch h)) (by decide)) (by decide)
  · exact .tup (n := 1) (fun x hx => by rw [List.mem_singleton.mp hx]; exact .tup (n := 0) (fun _ h => (nomatch h)) (by decide)) (by decide)
  · exact .int _ _ (by decide)
  · exact .int _ _ (by decide)
theorem cut_sub (xs : List PyData) (lo hi : Option Int) : (∀ x ∈ Vl.cutD xs lo hi, x ∈ xs) ∧ (Vl.cutD xs lo hi).length ≤ xs.length := by
  unfold Vl.cutD
  exact ⟨fun x h => List.mem_of_mem_drop (List.mem_of_mem_take h), by rw [List.length_take, List.length_drop]; omega⟩
theorem cut_len1 (xs : List PyData) (q : Nat) : (Vl.cutD xs none (some (q : Int))).length ≤ q := by
  unfold Vl.cutD
  rw [HT.sIx_nat, List.length_take]
  have : HT.sIx xs.length 0 none = 0 := rfl
  omega
theorem cut_len2 (xs : List PyData) (q : Nat) (h : q < xs.length) : (Vl.cutD xs (some ((q : Int) + 1)) none).length + q + 1 ≤ xs.length := by
  unfold Vl.cutD
  rw [show ((q : Int) + 1) = ((q + 1 : Nat) : Int) from rfl, HT.sIx_nat, List.length_take, List.length_drop]
  omega
theorem cut_len3 (xs : List PyData) (q : Nat) : (Vl.cutD xs (some (q : Int)) (some ((q : Int) + 1))).length ≤ 1 := by
  unfold Vl.cutD
  rw [show ((q : Int) + 1) = ((q + 1 : Nat) : Int) from rfl, HT.sIx_nat, HT.sIx_nat, List.length_take]
  omega
/-- ints and tuples of such -/
inductive Nd : Nat → PyData → Prop
  | int (n : Nat) (i : Int) : i.natAbs < 10 ^ 30 → Nd n (.int i)
  | non (n : Nat) : Nd n .none
  | bl (n : Nat) (b : Bool) : Nd n (.bool b)
  | str (n : Nat) (x : Str) : (reprText x).length ≤ 10 → Nd n (.str x)
  | tup {n : Nat} {xs : List PyData} : (∀ x ∈ xs, Nd n x) → xs.length ≤ 8 → Nd (n + 1) (.tuple xs)
theorem Nd.bd {n : Nat} {d : PyData} (h : Nd n d) : Bd 0 n d := by
  induction h with
  | int n i h => exact .int n i h
  | non n => exact .non n
  | bl n b => exact .bl n b
  | str n x h => exact .str n x h
  | tup _ hl ih => exact .tup ih hl
/-- takes of bent, by the depth of what it bends -/
def spBent (n : Nat) : VSp := fun as g R => ∃ d, as = [.pen, .val d] ∧ Nd n d ∧ g + 6 * (n + 1) ≤ LIM ∧ ∀ e, Bd 1 (n + 2) e → R e (g + 6 * (n + 1))
def spBentP : Nat → VSp
  | 0 => fun _ _ _ => False
  | n + 1 => spBent n
theorem bent_step (B : Bi mg) (C__law_take : Ck P w K mg base "_law_take" ["pen", "amount"] 2 spTake) (C__law_one_of : Ck P w K mg base "_law_one_of" ["pen", "some"] 3 spOneOf) (C__law_odd : Ck P w K mg base "_law_odd" ["pen"] 4 spOdd)
    (D : Df K mg "_law_bent" s__law_bent ["pen", "value"]) {n j : Nat} (hj' : 4 ≤ j) (C__law_bent : Ck P w K mg base "_law_bent" ["pen", "value"] j (spBentP n)) : Ck P w K mg base "_law_bent" ["pen", "value"] (j + 1) (spBent n) := by
  have hj : ∀ {i : Nat}, i ≤ 4 → i ≤ j := fun h => Nat.le_trans h hj'
  refine ck_v D sc__law_bent (fun as g R h => ?_) (fun f cdv A outer s H E hr => (vss_cons (vs_if (t_w (w_and (t_val (v_isInt (by rfl) B.b_isinstance (by rfl) B.b_int (vv 1))) (w_and1 (t_gt (v_callC C__law_take (hr.mono (hj (by decide))) (by rfl) (vp_pen 0 (vp_cons v_int vp_nil))) v_int)))) (vss_one (vs_ret (v_callC C__law_one_of (hr.mono (hj (by decide))) (by rfl) (vp_pen 0 (vp_cons (v_lst (va_cons (v_addN (vv 1) v_int) (va_cons (v_subN (vv 1) v_int) (va_cons (v_if (t_leltN v_int (vv 1) v_int) (v_eq hr.units (vv 1) v_int) (v_neg (vv 1))) (va_cons (v_mulN (vv 1) v_int) va_nil))))) vp_nil))))) vss_nil) (vss_cons (vs_if (t_w (w_or (t_not (t_val (v_isa2 kit_TupList (by rfl) B.b_isinstance (by rfl) B.b_tuple (by decide +kernel) (by rfl) B.b_list (by decide +kernel) (vv 1)))) (w_or (t_eq hr.units (v_len (by rfl) B.b_len (va_cons (vv 1) va_nil)) v_int) (w_or1 (t_eq hr.units (v_callC C__law_take (hr.mono (hj (by decide))) (by rfl) (vp_pen 0 (vp_cons v_int vp_nil))) v_int))))) (vss_one (vs_ret (v_callC C__law_odd (hr.mono (hj (by decide))) (by rfl) (vp_pen 0 vp_nil)))) vss_nil) (vss_cons (vs_par3O 2 3 4 rfl sc__law_bent.nd (vl_list (by rfl) B.b_list (vv 1)) (v_callC C__law_take (hr.mono (hj (by decide))) (by rfl) (vp_pen 0 (vp_cons v_int vp_nil))) (v_callC C__law_take (hr.mono (hj (by decide))) (by rfl) (vp_pen 0 (vp_cons (v_len (by rfl) B.b_len (va_cons (vv 1) va_nil)) vp_nil)))) (vss_cons (vs_if (t_lt (vv 3) v_int) (vss_cons (vs_setIx 2 (v_callC C__law_bent hr (by rfl) (vp_pen 0 (vp_cons (v_ixO 2 (vv 4)) vp_nil))) (vv 4)) (vss_dis 2 vss_nil)) (vss_dis 2 (vss_one (vs_set 2 sc__law_bent.nd (v_ix (v_lst (va_cons (v_add (v_slice (vv 2) vo_none (vo_some (vv 4))) (v_slice (vv 2) (vo_some (v_add (vv 4) v_int)) vo_none)) (va_cons (v_add (vv 2) (v_slice (vv 2) (vo_some (vv 4)) (vo_some (v_add (vv 4) v_int)))) (va_cons (v_revL (vv 2)) va_nil)))) (v_sub (vv 3) v_int)))))) (vss_one (vs_ret (v_if (t_eq hr.units (v_isTuple (by rfl) B.b_isinstance (by rfl) B.b_tuple (vv 1)) (v_gt (v_callC C__law_take (hr.mono (hj (by decide))) (by rfl) (vp_pen 0 (vp_cons v_int vp_nil))) v_int)) (v_toTuple (by rfl) B.b_tuple (va_cons (vv 2) va_nil)) (vv 2))))))))) (fun as g R h => ?_)
  · obtain ⟨d, rfl, _⟩ := h
    rfl
  · obtain ⟨d, rfl, hd, hg, hR⟩ := h
    have hg' : g + 6 * (n + 1) ≤ 4000000000 := hg
    have odd_end : ∀ g1, g1 + 1 ≤ g + 6 * (n + 1) → ∀ d ∈ odds, ∃ g2, g1 + 1 ≤ g2 ∧ R d g2 := fun g1 h d hd => ⟨_, h, hR d ((odd_bd d hd).le (by omega))⟩
    cases hd with
    | int _ i hi =>
      have hi2 : i.natAbs < 10 ^ 30 := hi
      simp only [sSeq, sIf, sSet, sOwn, sRet, sRetN, sNext, sDis, sSetIx, sApp, sAsg, sPar, sPar2O, sPar3, wB, wOp, wVar, wC, wNil, wCons, pNil, pCons, pPen, wTup, lLst, wL, wCall, wChain, Vl.wAnd, Vl.wOr, Vl.wNot, wAndV, wOrV, wNotV, wIf, wNeg, wIsN, wIsa, wFn, wSl, oNo, oPt, lList, wRevL, wIxO, wEqE, gN, gsNil, gsCons, gT, iL, iT, iR1, iR2, iZp, iEn, wYes, wipeV, endV, startV, e_fII, e_addI, e_addT, e_addL, e_intI, e_intB, e_mulT, e_mulL, e_lenL, e_lenT, e_tupL, e_tupT, e_eqI, e_neI, e_eqB, e_neB, e_eqS, e_neS, e_ix0T, e_ix1T, e_ix2T, e_ix3T, e_ix4T, e_ix0L, e_ix1L, e_ix2L, List.length_cons, List.length_nil, List.replicate, List.cons_append, List.nil_append, List.getElem?_cons_zero, List.getElem?_cons_succ, List.set_cons_zero, List.set_cons_succ, Nat.reduceAdd, Nat.reduceSub, List.replicate_succ, List.replicate_zero, true_and, if_true, if_false, Bool.false_eq_true, reduceIte, Int.toNat_natCast, fGt, fLtI, fLe, fGe, wFn, startV_one, isIntStr, isTupList, Bool.not_true, Bool.not_false, k_isInt_none, k_isInt_bool, k_isInt_int, k_isInt_str, k_isInt_list, k_isInt_tuple, k_isInt_dict, k_isBool_none, k_isBool_bool, k_isBool_int, k_isBool_str, k_isBool_list, k_isBool_tuple, k_isBool_dict, k_isTuple_none, k_isTuple_bool, k_isTuple_int, k_isTuple_str, k_isTuple_list, k_isTuple_tuple, k_isTuple_dict, k_isList_none, k_isList_bool, k_isList_int, k_isList_str, k_isList_list, k_isList_tuple, k_isList_dict, k_isStr_none, k_isStr_bool, k_isStr_int, k_isStr_str, k_isStr_list, k_isStr_tuple, k_isStr_dict, fAddN, fSubN, fMulN, fLeN, fLtN, fBI, fIB, noX]
      refine ⟨4, rfl, ⟨by decide, by decide⟩, by show g < 4000000000; omega, fun r r0 r1 => ?_⟩
      simp only [sSeq, sIf, sSet, sOwn, sRet, sRetN, sNext, sDis, sSetIx, sApp, sAsg, sPar, sPar2O, sPar3, wB, wOp, wVar, wC, wNil, wCons, pNil, pCons, pPen, wTup, lLst, wL, wCall, wChain, Vl.wAnd, Vl.wOr, Vl.wNot, wAndV, wOrV, wNotV, wIf, wNeg, wIsN, wIsa, wFn, wSl, oNo, oPt, lList, wRevL, wIxO, wEqE, gN, gsNil, gsCons, gT, iL, iT, iR1, iR2, iZp, iEn, wYes, wipeV, endV, startV, e_fII, e_addI, e_addT, e_addL, e_intI, e_intB, e_mulT, e_mulL, e_lenL, e_lenT, e_tupL, e_tupT, e_eqI, e_neI, e_eqB, e_neB, e_eqS, e_neS, e_ix0T, e_ix1T, e_ix2T, e_ix3T, e_ix4T, e_ix0L, e_ix1L, e_ix2L, List.length_cons, List.length_nil, List.replicate, List.cons_append, List.nil_append, List.getElem?_cons_zero, List.getElem?_cons_succ, List.set_cons_zero, List.set_cons_succ, Nat.reduceAdd, Nat.reduceSub, List.replicate_succ, List.replicate_zero, true_and, if_true, if_false, Bool.false_eq_true, reduceIte, Int.toNat_natCast, fGt, fLtI, fLe, fGe, wFn, startV_one, isIntStr, isTupList, Bool.not_true, Bool.not_false, k_isInt_none, k_isInt_bool, k_isInt_int, k_isInt_str, k_isInt_list, k_isInt_tuple, k_isInt_dict, k_isBool_none, k_isBool_bool, k_isBool_int, k_isBool_str, k_isBool_list, k_isBool_tuple, k_isBool_dict, k_isTuple_none, k_isTuple_bool, k_isTuple_int, k_isTuple_str, k_isTuple_list, k_isTuple_tuple, k_isTuple_dict, k_isList_none, k_isList_bool, k_isList_int, k_isList_str, k_isList_list, k_isList_tuple, k_isList_dict, k_isStr_none, k_isStr_bool, k_isStr_int, k_isStr_str, k_isStr_list, k_isStr_tuple, k_isStr_dict, fAddN, fSubN, fMulN, fLeN, fLtN, fBI, fIB]
      by_cases h0 : 0 < r
      · rw [if_pos (decide_eq_true h0)]
        have fin : ∀ e : PyData, Bd 1 (n + 2) e → spOneOf [.pen, .val (.list [.int (i + 1), .int (i - 1), e, .int (i * 1000)])] (g + 1) fun d g' => ∃ g2, g' ≤ g2 ∧ R d g2 := fun e he => by
          refine ⟨_, rfl, ⟨by show 0 < 4; decide, by show 4 < 1000000000; decide⟩, by show g + 1 < 4000000000; omega, fun d hd => ⟨_, by omega, hR d ?_⟩⟩
          simp only [List.mem_cons, List.not_mem_nil, or_false] at hd
          have big : (10 : Nat) ^ 30 = 1000000000000000000000000000000 := by decide
          have big2 : (10 : Nat) ^ (30 + 5 * 1) = 100000000000000000000000000000000000 := by decide
          rcases hd with rfl | rfl | rfl | rfl
          · exact .int _ _ (by omega)
          · exact .int _ _ (by omega)
          · exact he
          · exact .int _ _ (by omega)
        have neg : Bd 1 (n + 2) (.int (-i)) := .int _ _ (by rw [Int.natAbs_neg]; exact Nat.lt_of_lt_of_le hi2 (by decide))
        by_cases ha : 0 ≤ i
        · by_cases hb : i < 2
          · simp only [decide_eq_true ha, decide_eq_true hb, reduceIte]
            exact ⟨mulR (by decide) (by decide), by decide, fin _ (.bl _ _)⟩
          · simp only [decide_eq_true ha, decide_eq_false hb, Bool.false_eq_true, reduceIte]
            exact ⟨mulR (by decide) (by decide), by decide, fin _ neg⟩
        · simp only [decide_eq_false ha]
          exact ⟨mulR (by decide) (by decide), by decide, fin _ neg⟩
      · rw [if_neg (by rw [decide_eq_false h0]; exact Bool.false_ne_true)]
        exact ⟨rfl, by show g + 1 < 4000000000; omega, odd_end (g + 1) (by omega)⟩
    | non _ =>
      simp only [sSeq, sIf, sSet, sOwn, sRet, sRetN, sNext, sDis, sSetIx, sApp, sAsg, sPar, sPar2O, sPar3, wB, wOp, wVar, wC, wNil, wCons, pNil, pCons, pPen, wTup, lLst, wL, wCall, wChain, Vl.wAnd, Vl.wOr, Vl.wNot, wAndV, wOrV, wNotV, wIf, wNeg, wIsN, wIsa, wFn, wSl, oNo, oPt, lList, wRevL, wIxO, wEqE, gN, gsNil, gsCons, gT, iL, iT, iR1, iR2, iZp, iEn, wYes, wipeV, endV, startV, e_fII, e_addI, e_addT, e_addL, e_intI, e_intB, e_mulT, e_mulL, e_lenL, e_lenT, e_tupL, e_tupT, e_eqI, e_neI, e_eqB, e_neB, e_eqS, e_neS, e_ix0T, e_ix1T, e_ix2T, e_ix3T, e_ix4T, e_ix0L, e_ix1L, e_ix2L, List.length_cons, List.length_nil, List.replicate, List.cons_append, List.nil_append, List.getElem?_cons_zero, List.getElem?_cons_succ, List.set_cons_zero, List.set_cons_succ, Nat.reduceAdd, Nat.reduceSub, List.replicate_succ, List.replicate_zero, true_and, if_true, if_false, Bool.false_eq_true, reduceIte, Int.toNat_natCast, fGt, fLtI, fLe, fGe, wFn, startV_one, isIntStr, isTupList, Bool.not_true, Bool.not_false, k_isInt_none, k_isInt_bool, k_isInt_int, k_isInt_str, k_isInt_list, k_isInt_tuple, k_isInt_dict, k_isBool_none, k_isBool_bool, k_isBool_int, k_isBool_str, k_isBool_list, k_isBool_tuple, k_isBool_dict, k_isTuple_none, k_isTuple_bool, k_isTuple_int, k_isTuple_str, k_isTuple_list, k_isTuple_tuple, k_isTuple_dict, k_isList_none, k_isList_bool, k_isList_int, k_isList_str, k_isList_list, k_isList_tuple, k_isList_dict, k_isStr_none, k_isStr_bool, k_isStr_int, k_isStr_str, k_isStr_list, k_isStr_tuple, k_isStr_dict, fAddN, fSubN, fMulN, fLeN, fLtN, fBI, fIB, noX]
      exact ⟨rfl, by show g < 4000000000; omega, odd_end g (by omega)⟩
    | str _ x hx =>
      simp only [sSeq, sIf, sSet, sOwn, sRet, sRetN, sNext, sDis, sSetIx, sApp, sAsg, sPar, sPar2O, sPar3, wB, wOp, wVar, wC, wNil, wCons, pNil, pCons, pPen, wTup, lLst, wL, wCall, wChain, Vl.wAnd, Vl.wOr, Vl.wNot, wAndV, wOrV, wNotV, wIf, wNeg, wIsN, wIsa, wFn, wSl, oNo, oPt, lList, wRevL, wIxO, wEqE, gN, gsNil, gsCons, gT, iL, iT, iR1, iR2, iZp, iEn, wYes, wipeV, endV, startV, e_fII, e_addI, e_addT, e_addL, e_intI, e_intB, e_mulT, e_mulL, e_lenL, e_lenT, e_tupL, e_tupT, e_eqI, e_neI, e_eqB, e_neB, e_eqS, e_neS, e_ix0T, e_ix1T, e_ix2T, e_ix3T, e_ix4T, e_ix0L, e_ix1L, e_ix2L, List.length_cons, List.length_nil, List.replicate, List.cons_append, List.nil_append, List.getElem?_cons_zero, List.getElem?_cons_succ, List.set_cons_zero, List.set_cons_succ, Nat.reduceAdd, Nat.reduceSub, List.replicate_succ, List.replicate_zero, true_and, if_true, if_false, Bool.false_eq_true, reduceIte, Int.toNat_natCast, fGt, fLtI, fLe, fGe, wFn, startV_one, isIntStr, isTupList, Bool.not_true, Bool.not_false, k_isInt_none, k_isInt_bool, k_isInt_int, k_isInt_str, k_isInt_list, k_isInt_tuple, k_isInt_dict, k_isBool_none, k_isBool_bool, k_isBool_int, k_isBool_str, k_isBool_list, k_isBool_tuple, k_isBool_dict, k_isTuple_none, k_isTuple_bool, k_isTuple_int, k_isTuple_str, k_isTuple_list, k_isTuple_tuple, k_isTuple_dict, k_isList_none, k_isList_bool, k_isList_int, k_isList_str, k_isList_list, k_isList_tuple, k_isList_dict, k_isStr_none, k_isStr_bool, k_isStr_int, k_isStr_str, k_isStr_list, k_isStr_tuple, k_isStr_dict, fAddN, fSubN, fMulN, fLeN, fLtN, fBI, fIB, noX]
      exact ⟨rfl, by show g < 4000000000; omega, odd_end g (by omega)⟩
    | bl _ b =>
      simp only [sSeq, sIf, sSet, sOwn, sRet, sRetN, sNext, sDis, sSetIx, sApp, sAsg, sPar, sPar2O, sPar3, wB, wOp, wVar, wC, wNil, wCons, pNil, pCons, pPen, wTup, lLst, wL, wCall, wChain, Vl.wAnd, Vl.wOr, Vl.wNot, wAndV, wOrV, wNotV, wIf, wNeg, wIsN, wIsa, wFn, wSl, oNo, oPt, lList, wRevL, wIxO, wEqE, gN, gsNil, gsCons, gT, iL, iT, iR1, iR2, iZp, iEn, wYes, wipeV, endV, startV, e_fII, e_addI, e_addT, e_addL, e_intI, e_intB, e_mulT, e_mulL, e_lenL, e_lenT, e_tupL, e_tupT, e_eqI, e_neI, e_eqB, e_neB, e_eqS, e_neS, e_ix0T, e_ix1T, e_ix2T, e_ix3T, e_ix4T, e_ix0L, e_ix1L, e_ix2L, List.length_cons, List.length_nil, List.replicate, List.cons_append, List.nil_append, List.getElem?_cons_zero, List.getElem?_cons_succ, List.set_cons_zero, List.set_cons_succ, Nat.reduceAdd, Nat.reduceSub, List.replicate_succ, List.replicate_zero, true_and, if_true, if_false, Bool.false_eq_true, reduceIte, Int.toNat_natCast, fGt, fLtI, fLe, fGe, wFn, startV_one, isIntStr, isTupList, Bool.not_true, Bool.not_false, k_isInt_none, k_isInt_bool, k_isInt_int, k_isInt_str, k_isInt_list, k_isInt_tuple, k_isInt_dict, k_isBool_none, k_isBool_bool, k_isBool_int, k_isBool_str, k_isBool_list, k_isBool_tuple, k_isBool_dict, k_isTuple_none, k_isTuple_bool, k_isTuple_int, k_isTuple_str, k_isTuple_list, k_isTuple_tuple, k_isTuple_dict, k_isList_none, k_isList_bool, k_isList_int, k_isList_str, k_isList_list, k_isList_tuple, k_isList_dict, k_isStr_none, k_isStr_bool, k_isStr_int, k_isStr_str, k_isStr_list, k_isStr_tuple, k_isStr_dict, fAddN, fSubN, fMulN, fLeN, fLtN, fBI, fIB, noX]
      refine ⟨4, rfl, ⟨by decide, by decide⟩, by show g < 4000000000; omega, fun r r0 r1 => ?_⟩
      simp only [sSeq, sIf, sSet, sOwn, sRet, sRetN, sNext, sDis, sSetIx, sApp, sAsg, sPar, sPar2O, sPar3, wB, wOp, wVar, wC, wNil, wCons, pNil, pCons, pPen, wTup, lLst, wL, wCall, wChain, Vl.wAnd, Vl.wOr, Vl.wNot, wAndV, wOrV, wNotV, wIf, wNeg, wIsN, wIsa, wFn, wSl, oNo, oPt, lList, wRevL, wIxO, wEqE, gN, gsNil, gsCons, gT, iL, iT, iR1, iR2, iZp, iEn, wYes, wipeV, endV, startV, e_fII, e_addI, e_addT, e_addL, e_intI, e_intB, e_mulT, e_mulL, e_lenL, e_lenT, e_tupL, e_tupT, e_eqI, e_neI, e_eqB, e_neB, e_eqS, e_neS, e_ix0T, e_ix1T, e_ix2T, e_ix3T, e_ix4T, e_ix0L, e_ix1L, e_ix2L, List.length_cons, List.length_nil, List.replicate, List.cons_append, List.nil_append, List.getElem?_cons_zero, List.getElem?_cons_succ, List.set_cons_zero, List.set_cons_succ, Nat.reduceAdd, Nat.reduceSub, List.replicate_succ, List.replicate_zero, true_and, if_true, if_false, Bool.false_eq_true, reduceIte, Int.toNat_natCast, fGt, fLtI, fLe, fGe, wFn, startV_one, isIntStr, isTupList, Bool.not_true, Bool.not_false, k_isInt_none, k_isInt_bool, k_isInt_int, k_isInt_str, k_isInt_list, k_isInt_tuple, k_isInt_dict, k_isBool_none, k_isBool_bool, k_isBool_int, k_isBool_str, k_isBool_list, k_isBool_tuple, k_isBool_dict, k_isTuple_none, k_isTuple_bool, k_isTuple_int, k_isTuple_str, k_isTuple_list, k_isTuple_tuple, k_isTuple_dict, k_isList_none, k_isList_bool, k_isList_int, k_isList_str, k_isList_list, k_isList_tuple, k_isList_dict, k_isStr_none, k_isStr_bool, k_isStr_int, k_isStr_str, k_isStr_list, k_isStr_tuple, k_isStr_dict, fAddN, fSubN, fMulN, fLeN, fLtN, fBI, fIB]
      by_cases h0 : 0 < r
      · rw [if_pos (decide_eq_true h0)]
        have fin : ∀ k : Int, k = 0 ∨ k = 1 → ∀ e : PyData, Bd 1 (n + 2) e → spOneOf [.pen, .val (.list [.int (k + 1), .int (k - 1), e, .int (k * 1000)])] (g + 1) fun d g' => ∃ g2, g' ≤ g2 ∧ R d g2 := fun k hk e he => by
          refine ⟨_, rfl, ⟨by show 0 < 4; decide, by show 4 < 1000000000; decide⟩, by show g + 1 < 4000000000; omega, fun d hd => ⟨_, by omega, hR d ?_⟩⟩
          simp only [List.mem_cons, List.not_mem_nil, or_false] at hd
          have big2 : (10 : Nat) ^ (30 + 5 * 1) = 100000000000000000000000000000000000 := by decide
          rcases hd with rfl | rfl | rfl | rfl
          · exact .int _ _ (by omega)
          · exact .int _ _ (by omega)
          · exact he
          · exact .int _ _ (by omega)
        cases b with
        | true => exact ⟨⟨rfl, rfl, by decide⟩, by decide, fin 1 (.inr rfl) _ (.bl _ _)⟩
        | false => exact ⟨⟨rfl, rfl, by decide⟩, by decide, fin 0 (.inl rfl) _ (.bl _ _)⟩
      · rw [if_neg (by rw [decide_eq_false h0]; exact Bool.false_ne_true)]
        exact ⟨rfl, by show g + 1 < 4000000000; omega, odd_end (g + 1) (by omega)⟩
    | @tup m xs hx hl =>
      have hn : noX (.tuple xs) = true := (Nd.tup hx hl).bd.noX
      have hx1 : ∀ x ∈ xs, Bd 1 (m + 2) x := fun x h => ((hx x h).bd.one).le (by omega)
      simp only [sSeq, sIf, sSet, sOwn, sRet, sRetN, sNext, sDis, sSetIx, sApp, sAsg, sPar, sPar2O, sPar3, wB, wOp, wVar, wC, wNil, wCons, pNil, pCons, pPen, wTup, lLst, wL, wCall, wChain, Vl.wAnd, Vl.wOr, Vl.wNot, wAndV, wOrV, wNotV, wIf, wNeg, wIsN, wIsa, wFn, wSl, oNo, oPt, lList, wRevL, wIxO, wEqE, gN, gsNil, gsCons, gT, iL, iT, iR1, iR2, iZp, iEn, wYes, wipeV, endV, startV, e_fII, e_addI, e_addT, e_addL, e_intI, e_intB, e_mulT, e_mulL, e_lenL, e_lenT, e_tupL, e_tupT, e_eqI, e_neI, e_eqB, e_neB, e_eqS, e_neS, e_ix0T, e_ix1T, e_ix2T, e_ix3T, e_ix4T, e_ix0L, e_ix1L, e_ix2L, List.length_cons, List.length_nil, List.replicate, List.cons_append, List.nil_append, List.getElem?_cons_zero, List.getElem?_cons_succ, List.set_cons_zero, List.set_cons_succ, Nat.reduceAdd, Nat.reduceSub, List.replicate_succ, List.replicate_zero, true_and, if_true, if_false, Bool.false_eq_true, reduceIte, Int.toNat_natCast, fGt, fLtI, fLe, fGe, wFn, startV_one, isIntStr, isTupList, Bool.not_true, Bool.not_false, k_isInt_none, k_isInt_bool, k_isInt_int, k_isInt_str, k_isInt_list, k_isInt_tuple, k_isInt_dict, k_isBool_none, k_isBool_bool, k_isBool_int, k_isBool_str, k_isBool_list, k_isBool_tuple, k_isBool_dict, k_isTuple_none, k_isTuple_bool, k_isTuple_int, k_isTuple_str, k_isTuple_list, k_isTuple_tuple, k_isTuple_dict, k_isList_none, k_isList_bool, k_isList_int, k_isList_str, k_isList_list, k_isList_tuple, k_isList_dict, k_isStr_none, k_isStr_bool, k_isStr_int, k_isStr_str, k_isStr_list, k_isStr_tuple, k_isStr_dict, fAddN, fSubN, fMulN, fLeN, fLtN, fBI, fIB, hn]
      by_cases h0 : xs.length = 0
      · have z : ((xs.length : Int) == 0) = true := beq_iff_eq.mpr (by omega)
        simp only [z, sSeq, sIf, sSet, sOwn, sRet, sRetN, sNext, sDis, sSetIx, sApp, sAsg, sPar, sPar2O, sPar3, wB, wOp, wVar, wC, wNil, wCons, pNil, pCons, pPen, wTup, lLst, wL, wCall, wChain, Vl.wAnd, Vl.wOr, Vl.wNot, wAndV, wOrV, wNotV, wIf, wNeg, wIsN, wIsa, wFn, wSl, oNo, oPt, lList, wRevL, wIxO, wEqE, gN, gsNil, gsCons, gT, iL, iT, iR1, iR2, iZp, iEn, wYes, wipeV, endV, startV, e_fII, e_addI, e_addT, e_addL, e_intI, e_intB, e_mulT, e_mulL, e_lenL, e_lenT, e_tupL, e_tupT, e_eqI, e_neI, e_eqB, e_neB, e_eqS, e_neS, e_ix0T, e_ix1T, e_ix2T, e_ix3T, e_ix4T, e_ix0L, e_ix1L, e_ix2L, List.length_cons, List.length_nil, List.replicate, List.cons_append, List.nil_append, List.getElem?_cons_zero, List.getElem?_cons_succ, List.set_cons_zero, List.set_cons_succ, Nat.reduceAdd, Nat.reduceSub, List.replicate_succ, List.replicate_zero, true_and, if_true, if_false, Bool.false_eq_true, reduceIte, Int.toNat_natCast, fGt, fLtI, fLe, fGe, wFn, startV_one, isIntStr, isTupList, Bool.not_true, Bool.not_false, k_isInt_none, k_isInt_bool, k_isInt_int, k_isInt_str, k_isInt_list, k_isInt_tuple, k_isInt_dict, k_isBool_none, k_isBool_bool, k_isBool_int, k_isBool_str, k_isBool_list, k_isBool_tuple, k_isBool_dict, k_isTuple_none, k_isTuple_bool, k_isTuple_int, k_isTuple_str, k_isTuple_list, k_isTuple_tuple, k_isTuple_dict, k_isList_none, k_isList_bool, k_isList_int, k_isList_str, k_isList_list, k_isList_tuple, k_isList_dict, k_isStr_none, k_isStr_bool, k_isStr_int, k_isStr_str, k_isStr_list, k_isStr_tuple, k_isStr_dict, fAddN, fSubN, fMulN, fLeN, fLtN, fBI, fIB]
        exact ⟨rfl, by show g < 4000000000; omega, odd_end g (by omega)⟩
      · have z : ((xs.length : Int) == 0) = false := beq_eq_false_iff_ne.mpr (by omega)
        simp only [z, sSeq, sIf, sSet, sOwn, sRet, sRetN, sNext, sDis, sSetIx, sApp, sAsg, sPar, sPar2O, sPar3, wB, wOp, wVar, wC, wNil, wCons, pNil, pCons, pPen, wTup, lLst, wL, wCall, wChain, Vl.wAnd, Vl.wOr, Vl.wNot, wAndV, wOrV, wNotV, wIf, wNeg, wIsN, wIsa, wFn, wSl, oNo, oPt, lList, wRevL, wIxO, wEqE, gN, gsNil, gsCons, gT, iL, iT, iR1, iR2, iZp, iEn, wYes, wipeV, endV, startV, e_fII, e_addI, e_addT, e_addL, e_intI, e_intB, e_mulT, e_mulL, e_lenL, e_lenT, e_tupL, e_tupT, e_eqI, e_neI, e_eqB, e_neB, e_eqS, e_neS, e_ix0T, e_ix1T, e_ix2T, e_ix3T, e_ix4T, e_ix0L, e_ix1L, e_ix2L, List.length_cons, List.length_nil, List.replicate, List.cons_append, List.nil_append, List.getElem?_cons_zero, List.getElem?_cons_succ, List.set_cons_zero, List.set_cons_succ, Nat.reduceAdd, Nat.reduceSub, List.replicate_succ, List.replicate_zero, true_and, if_true, if_false, Bool.false_eq_true, reduceIte, Int.toNat_natCast, fGt, fLtI, fLe, fGe, wFn, startV_one, isIntStr, isTupList, Bool.not_true, Bool.not_false, k_isInt_none, k_isInt_bool, k_isInt_int, k_isInt_str, k_isInt_list, k_isInt_tuple, k_isInt_dict, k_isBool_none, k_isBool_bool, k_isBool_int, k_isBool_str, k_isBool_list, k_isBool_tuple, k_isBool_dict, k_isTuple_none, k_isTuple_bool, k_isTuple_int, k_isTuple_str, k_isTuple_list, k_isTuple_tuple, k_isTuple_dict, k_isList_none, k_isList_bool, k_isList_int, k_isList_str, k_isList_list, k_isList_tuple, k_isList_dict, k_isStr_none, k_isStr_bool, k_isStr_int, k_isStr_str, k_isStr_list, k_isStr_tuple, k_isStr_dict, fAddN, fSubN, fMulN, fLeN, fLtN, fBI, fIB]
        refine ⟨8, rfl, ⟨by decide, by decide⟩, by show g < 4000000000; omega, fun r r0 r1 => ?_⟩
        simp only [sSeq, sIf, sSet, sOwn, sRet, sRetN, sNext, sDis, sSetIx, sApp, sAsg, sPar, sPar2O, sPar3, wB, wOp, wVar, wC, wNil, wCons, pNil, pCons, pPen, wTup, lLst, wL, wCall, wChain, Vl.wAnd, Vl.wOr, Vl.wNot, wAndV, wOrV, wNotV, wIf, wNeg, wIsN, wIsa, wFn, wSl, oNo, oPt, lList, wRevL, wIxO, wEqE, gN, gsNil, gsCons, gT, iL, iT, iR1, iR2, iZp, iEn, wYes, wipeV, endV, startV, e_fII, e_addI, e_addT, e_addL, e_intI, e_intB, e_mulT, e_mulL, e_lenL, e_lenT, e_tupL, e_tupT, e_eqI, e_neI, e_eqB, e_neB, e_eqS, e_neS, e_ix0T, e_ix1T, e_ix2T, e_ix3T, e_ix4T, e_ix0L, e_ix1L, e_ix2L, List.length_cons, List.length_nil, List.replicate, List.cons_append, List.nil_append, List.getElem?_cons_zero, List.getElem?_cons_succ, List.set_cons_zero, List.set_cons_succ, Nat.reduceAdd, Nat.reduceSub, List.replicate_succ, List.replicate_zero, true_and, if_true, if_false, Bool.false_eq_true, reduceIte, Int.toNat_natCast, fGt, fLtI, fLe, fGe, wFn, startV_one, isIntStr, isTupList, Bool.not_true, Bool.not_false, k_isInt_none, k_isInt_bool, k_isInt_int, k_isInt_str, k_isInt_list, k_isInt_tuple, k_isInt_dict, k_isBool_none, k_isBool_bool, k_isBool_int, k_isBool_str, k_isBool_list, k_isBool_tuple, k_isBool_dict, k_isTuple_none, k_isTuple_bool, k_isTuple_int, k_isTuple_str, k_isTuple_list, k_isTuple_tuple, k_isTuple_dict, k_isList_none, k_isList_bool, k_isList_int, k_isList_str, k_isList_list, k_isList_tuple, k_isList_dict, k_isStr_none, k_isStr_bool, k_isStr_int, k_isStr_str, k_isStr_list, k_isStr_tuple, k_isStr_dict, fAddN, fSubN, fMulN, fLeN, fLtN, fBI, fIB]
        by_cases hr0 : r = 0
        · have z : (r == 0) = true := beq_iff_eq.mpr hr0
          simp only [z, sSeq, sIf, sSet, sOwn, sRet, sRetN, sNext, sDis, sSetIx, sApp, sAsg, sPar, sPar2O, sPar3, wB, wOp, wVar, wC, wNil, wCons, pNil, pCons, pPen, wTup, lLst, wL, wCall, wChain, Vl.wAnd, Vl.wOr, Vl.wNot, wAndV, wOrV, wNotV, wIf, wNeg, wIsN, wIsa, wFn, wSl, oNo, oPt, lList, wRevL, wIxO, wEqE, gN, gsNil, gsCons, gT, iL, iT, iR1, iR2, iZp, iEn, wYes, wipeV, endV, startV, e_fII, e_addI, e_addT, e_addL, e_intI, e_intB, e_mulT, e_mulL, e_lenL, e_lenT, e_tupL, e_tupT, e_eqI, e_neI, e_eqB, e_neB, e_eqS, e_neS, e_ix0T, e_ix1T, e_ix2T, e_ix3T, e_ix4T, e_ix0L, e_ix1L, e_ix2L, List.length_cons, List.length_nil, List.replicate, List.cons_append, List.nil_append, List.getElem?_cons_zero, List.getElem?_cons_succ, List.set_cons_zero, List.set_cons_succ, Nat.reduceAdd, Nat.reduceSub, List.replicate_succ, List.replicate_zero, true_and, if_true, if_false, Bool.false_eq_true, reduceIte, Int.toNat_natCast, fGt, fLtI, fLe, fGe, wFn, startV_one, isIntStr, isTupList, Bool.not_true, Bool.not_false, k_isInt_none, k_isInt_bool, k_isInt_int, k_isInt_str, k_isInt_list, k_isInt_tuple, k_isInt_dict, k_isBool_none, k_isBool_bool, k_isBool_int, k_isBool_str, k_isBool_list, k_isBool_tuple, k_isBool_dict, k_isTuple_none, k_isTuple_bool, k_isTuple_int, k_isTuple_str, k_isTuple_list, k_isTuple_tuple, k_isTuple_dict, k_isList_none, k_isList_bool, k_isList_int, k_isList_str, k_isList_list, k_isList_tuple, k_isList_dict, k_isStr_none, k_isStr_bool, k_isStr_int, k_isStr_str, k_isStr_list, k_isStr_tuple, k_isStr_dict, fAddN, fSubN, fMulN, fLeN, fLtN, fBI, fIB]
          exact ⟨rfl, by show g + 1 < 4000000000; omega, odd_end (g + 1) (by omega)⟩
        · have z : (r == 0) = false := beq_eq_false_iff_ne.mpr hr0
          simp only [z, sSeq, sIf, sSet, sOwn, sRet, sRetN, sNext, sDis, sSetIx, sApp, sAsg, sPar, sPar2O, sPar3, wB, wOp, wVar, wC, wNil, wCons, pNil, pCons, pPen, wTup, lLst, wL, wCall, wChain, Vl.wAnd, Vl.wOr, Vl.wNot, wAndV, wOrV, wNotV, wIf, wNeg, wIsN, wIsa, wFn, wSl, oNo, oPt, lList, wRevL, wIxO, wEqE, gN, gsNil, gsCons, gT, iL, iT, iR1, iR2, iZp, iEn, wYes, wipeV, endV, startV, e_fII, e_addI, e_addT, e_addL, e_intI, e_intB, e_mulT, e_mulL, e_lenL, e_lenT, e_tupL, e_tupT, e_eqI, e_neI, e_eqB, e_neB, e_eqS, e_neS, e_ix0T, e_ix1T, e_ix2T, e_ix3T, e_ix4T, e_ix0L, e_ix1L, e_ix2L, List.length_cons, List.length_nil, List.replicate, List.cons_append, List.nil_append, List.getElem?_cons_zero, List.getElem?_cons_succ, List.set_cons_zero, List.set_cons_succ, Nat.reduceAdd, Nat.reduceSub, List.replicate_succ, List.replicate_zero, true_and, if_true, if_false, Bool.false_eq_true, reduceIte, Int.toNat_natCast, fGt, fLtI, fLe, fGe, wFn, startV_one, isIntStr, isTupList, Bool.not_true, Bool.not_false, k_isInt_none, k_isInt_bool, k_isInt_int, k_isInt_str, k_isInt_list, k_isInt_tuple, k_isInt_dict, k_isBool_none, k_isBool_bool, k_isBool_int, k_isBool_str, k_isBool_list, k_isBool_tuple, k_isBool_dict, k_isTuple_none, k_isTuple_bool, k_isTuple_int, k_isTuple_str, k_isTuple_list, k_isTuple_tuple, k_isTuple_dict, k_isList_none, k_isList_bool, k_isList_int, k_isList_str, k_isList_list, k_isList_tuple, k_isList_dict, k_isStr_none, k_isStr_bool, k_isStr_int, k_isStr_str, k_isStr_list, k_isStr_tuple, k_isStr_dict, fAddN, fSubN, fMulN, fLeN, fLtN, fBI, fIB]
          refine ⟨xs, rfl, 10, rfl, ⟨by decide, by decide⟩, by show g + 1 < 4000000000; omega, fun way w0 w1 => ?_⟩
          refine ⟨xs.length, rfl, ⟨by omega, by omega⟩, by show g + 1 + 1 < 4000000000; omega, fun kk k0 k1 => ?_⟩
          obtain ⟨q, rfl⟩ := Int.eq_ofNat_of_zero_le k0
          have hq : q < xs.length := by omega
          simp only [sSeq, sIf, sSet, sOwn, sRet, sRetN, sNext, sDis, sSetIx, sApp, sAsg, sPar, sPar2O, sPar3, wB, wOp, wVar, wC, wNil, wCons, pNil, pCons, pPen, wTup, lLst, wL, wCall, wChain, Vl.wAnd, Vl.wOr, Vl.wNot, wAndV, wOrV, wNotV, wIf, wNeg, wIsN, wIsa, wFn, wSl, oNo, oPt, lList, wRevL, wIxO, wEqE, gN, gsNil, gsCons, gT, iL, iT, iR1, iR2, iZp, iEn, wYes, wipeV, endV, startV, e_fII, e_addI, e_addT, e_addL, e_intI, e_intB, e_mulT, e_mulL, e_lenL, e_lenT, e_tupL, e_tupT, e_eqI, e_neI, e_eqB, e_neB, e_eqS, e_neS, e_ix0T, e_ix1T, e_ix2T, e_ix3T, e_ix4T, e_ix0L, e_ix1L, e_ix2L, List.length_cons, List.length_nil, List.replicate, List.cons_append, List.nil_append, List.getElem?_cons_zero, List.getElem?_cons_succ, List.set_cons_zero, List.set_cons_succ, Nat.reduceAdd, Nat.reduceSub, List.replicate_succ, List.replicate_zero, true_and, if_true, if_false, Bool.false_eq_true, reduceIte, Int.toNat_natCast, fGt, fLtI, fLe, fGe, wFn, startV_one, isIntStr, isTupList, Bool.not_true, Bool.not_false, k_isInt_none, k_isInt_bool, k_isInt_int, k_isInt_str, k_isInt_list, k_isInt_tuple, k_isInt_dict, k_isBool_none, k_isBool_bool, k_isBool_int, k_isBool_str, k_isBool_list, k_isBool_tuple, k_isBool_dict, k_isTuple_none, k_isTuple_bool, k_isTuple_int, k_isTuple_str, k_isTuple_list, k_isTuple_tuple, k_isTuple_dict, k_isList_none, k_isList_bool, k_isList_int, k_isList_str, k_isList_list, k_isList_tuple, k_isList_dict, k_isStr_none, k_isStr_bool, k_isStr_int, k_isStr_str, k_isStr_list, k_isStr_tuple, k_isStr_dict, fAddN, fSubN, fMulN, fLeN, fLtN, fBI, fIB]
          by_cases hw : way < 7
          · rw [if_pos (decide_eq_true hw)]
            refine ⟨xs, rfl, xs, rfl, q, xs[q], rfl, atI_nat (List.getElem?_eq_getElem hq), xs[q], rfl, hx _ (List.getElem_mem hq), by show g + 1 + 1 + 1 + 6 * (m + 1) ≤ 4000000000; omega, fun e he => ?_⟩
            refine ⟨q, q, rfl, by unfold ixN; rw [if_pos (by omega), if_pos (by omega), Int.toNat_natCast], _, rfl, 12, rfl, ⟨by decide, by decide⟩, by show g + 1 + 1 + 1 + 6 * (m + 1) < 4000000000; omega, fun r r0 r1 => ?_⟩
            have mem : ∀ x ∈ xs.set q e, Bd 1 (m + 2) x := fun x h => (List.mem_or_eq_of_mem_set h).elim (hx1 x) fun h => by rw [h]; exact he
            have len : (xs.set q e).length ≤ 8 + 1 := by rw [List.length_set]; omega
            simp only [sSeq, sIf, sSet, sOwn, sRet, sRetN, sNext, sDis, sSetIx, sApp, sAsg, sPar, sPar2O, sPar3, wB, wOp, wVar, wC, wNil, wCons, pNil, pCons, pPen, wTup, lLst, wL, wCall, wChain, Vl.wAnd, Vl.wOr, Vl.wNot, wAndV, wOrV, wNotV, wIf, wNeg, wIsN, wIsa, wFn, wSl, oNo, oPt, lList, wRevL, wIxO, wEqE, gN, gsNil, gsCons, gT, iL, iT, iR1, iR2, iZp, iEn, wYes, wipeV, endV, startV, e_fII, e_addI, e_addT, e_addL, e_intI, e_intB, e_mulT, e_mulL, e_lenL, e_lenT, e_tupL, e_tupT, e_eqI, e_neI, e_eqB, e_neB, e_eqS, e_neS, e_ix0T, e_ix1T, e_ix2T, e_ix3T, e_ix4T, e_ix0L, e_ix1L, e_ix2L, List.length_cons, List.length_nil, List.replicate, List.cons_append, List.nil_append, List.getElem?_cons_zero, List.getElem?_cons_succ, List.set_cons_zero, List.set_cons_succ, Nat.reduceAdd, Nat.reduceSub, List.replicate_succ, List.replicate_zero, true_and, if_true, if_false, Bool.false_eq_true, reduceIte, Int.toNat_natCast, fGt, fLtI, fLe, fGe, wFn, startV_one, isIntStr, isTupList, Bool.not_true, Bool.not_false, k_isInt_none, k_isInt_bool, k_isInt_int, k_isInt_str, k_isInt_list, k_isInt_tuple, k_isInt_dict, k_isBool_none, k_isBool_bool, k_isBool_int, k_isBool_str, k_isBool_list, k_isBool_tuple, k_isBool_dict, k_isTuple_none, k_isTuple_bool, k_isTuple_int, k_isTuple_str, k_isTuple_list, k_isTuple_tuple, k_isTuple_dict, k_isList_none, k_isList_bool, k_isList_int, k_isList_str, k_isList_list, k_isList_tuple, k_isList_dict, k_isStr_none, k_isStr_bool, k_isStr_int, k_isStr_str, k_isStr_list, k_isStr_tuple, k_isStr_dict, fAddN, fSubN, fMulN, fLeN, fLtN, fBI, fIB]
            split
            · exact ⟨_, by omega, hR _ (.tup mem len)⟩
            · exact ⟨_, by omega, hR _ (.lst mem len)⟩
          · rw [if_neg (by rw [decide_eq_false hw]; exact Bool.false_ne_true)]
            refine ⟨xs, rfl, ?_⟩
            have c1 := cut_sub xs none (some ((q : Nat) : Int))
            have c2 := cut_sub xs (some (((q : Nat) : Int) + 1)) none
            have c3 := cut_sub xs (some ((q : Nat) : Int)) (some (((q : Nat) : Int) + 1))
            have l1 := cut_len1 xs q
            have l2 := cut_len2 xs q hq
            have l3 := cut_len3 xs q
            refine ⟨by show _ ≤ 16777216; omega, by show _ ≤ 16777216; omega, by decide, fIx_mem (by omega) (by show way - 7 < 3; omega) fun d hd => ?_⟩
            have hL : ∃ L, d = .list L ∧ (∀ x ∈ L, x ∈ xs) ∧ L.length ≤ 9 := by
              simp only [List.mem_cons, List.not_mem_nil, or_false] at hd
              rcases hd with rfl | rfl | rfl
              · exact ⟨_, rfl, fun x h => (List.mem_append.mp h).elim (c1.1 x) (c2.1 x), by rw [List.length_append]; omega⟩
              · exact ⟨_, rfl, fun x h => (List.mem_append.mp h).elim id (c3.1 x), by rw [List.length_append]; omega⟩
              · exact ⟨_, rfl, fun x h => List.mem_reverse.mp h, by rw [List.length_reverse]; omega⟩
            obtain ⟨L, rfl, hL, ll⟩ := hL
            have mem : ∀ x ∈ L, Bd 1 (m + 2) x := fun x h => hx1 x (hL x h)
            refine ⟨12, rfl, ⟨by decide, by decide⟩, by show g + 1 + 1 + 1 < 4000000000; omega, fun r r0 r1 => ?_⟩
            simp only [sSeq, sIf, sSet, sOwn, sRet, sRetN, sNext, sDis, sSetIx, sApp, sAsg, sPar, sPar2O, sPar3, wB, wOp, wVar, wC, wNil, wCons, pNil, pCons, pPen, wTup, lLst, wL, wCall, wChain, Vl.wAnd, Vl.wOr, Vl.wNot, wAndV, wOrV, wNotV, wIf, wNeg, wIsN, wIsa, wFn, wSl, oNo, oPt, lList, wRevL, wIxO, wEqE, gN, gsNil, gsCons, gT, iL, iT, iR1, iR2, iZp, iEn, wYes, wipeV, endV, startV, e_fII, e_addI, e_addT, e_addL, e_intI, e_intB, e_mulT, e_mulL, e_lenL, e_lenT, e_tupL, e_tupT, e_eqI, e_neI, e_eqB, e_neB, e_eqS, e_neS, e_ix0T, e_ix1T, e_ix2T, e_ix3T, e_ix4T, e_ix0L, e_ix1L, e_ix2L, List.length_cons, List.length_nil, List.replicate, List.cons_append, List.nil_append, List.getElem?_cons_zero, List.getElem?_cons_succ, List.set_cons_zero, List.set_cons_succ, Nat.reduceAdd, Nat.reduceSub, List.replicate_succ, List.replicate_zero, true_and, if_true, if_false, Bool.false_eq_true, reduceIte, Int.toNat_natCast, fGt, fLtI, fLe, fGe, wFn, startV_one, isIntStr, isTupList, Bool.not_true, Bool.not_false, k_isInt_none, k_isInt_bool, k_isInt_int, k_isInt_str, k_isInt_list, k_isInt_tuple, k_isInt_dict, k_isBool_none, k_isBool_bool, k_isBool_int, k_isBool_str, k_isBool_list, k_isBool_tuple, k_isBool_dict, k_isTuple_none, k_isTuple_bool, k_isTuple_int, k_isTuple_str, k_isTuple_list, k_isTuple_tuple, k_isTuple_dict, k_isList_none, k_isList_bool, k_isList_int, k_isList_str, k_isList_list, k_isList_tuple, k_isList_dict, k_isStr_none, k_isStr_bool, k_isStr_int, k_isStr_str, k_isStr_list, k_isStr_tuple, k_isStr_dict, fAddN, fSubN, fMulN, fLeN, fLtN, fBI, fIB]
            split
            · exact ⟨_, by omega, hR _ (.tup mem ll)⟩
            · exact ⟨_, by omega, hR _ (.lst mem ll)⟩
theorem ok_bent (B : Bi mg) (C_take : Ck P w K mg base "_law_take" ["pen", "amount"] 2 spTake) (C_one_of : Ck P w K mg base "_law_one_of" ["pen", "some"] 3 spOneOf) (C_odd : Ck P w K mg base "_law_odd" ["pen"] 4 spOdd)
    (D : Df K mg "_law_bent" s__law_bent ["pen", "value"]) : ∀ n, Ck P w K mg base "_law_bent" ["pen", "value"] (n + 5) (spBent n)
  | 0 => bent_step B C_take C_one_of C_odd D (Nat.le_refl 4) (ck_no D)
  | n + 1 => bent_step B C_take C_one_of C_odd D (by omega) (ok_bent B C_take C_one_of C_odd D n)

end
end Law
/-! W9: a comprehension of several sources, without takes. -/
namespace Vl
open PySem PySem.Spec PyProof.Rows L2
/-- a source's loop that makes f of each item, at most k of them -/
theorem lpV_pure {G : WG} {T : WT} {In : InV} {ρ : Rho} {g : Nat} (f : PyData → List PyData) (k M : Nat) : ∀ (ds acc : List PyData) (R : List PyData → Nat → Prop),
    (∀ d ∈ ds, ∀ (acc : List PyData) (N : List PyData → Nat → Prop), acc.length + k ≤ M → N (acc ++ f d) g → G d ρ fun ρ' => ρ'.any isOwn = false ∧ T ρ' g fun b g1 => if b = true then In ρ' acc g1 N else N acc g1) →
    (∀ d ∈ ds, (f d).length ≤ k) → acc.length + ds.length * k ≤ M → R (acc ++ ds.flatMap f) g → lpV G T In ds ρ acc g R
  | [], acc, R, _, _, _, h => by simpa [lpV] using h
  | d :: ds, acc, R, hs, hk, hm, h => by
    have hd := hk d List.mem_cons_self
    have e : (d :: ds).length * k = ds.length * k + k := by rw [List.length_cons, Nat.add_mul, Nat.one_mul]
    rw [e] at hm
    refine hs d List.mem_cons_self acc _ (by omega) ?_
    refine lpV_pure f k M ds (acc ++ f d) R (fun d hd => hs d (List.mem_cons_of_mem _ hd)) (fun d hd => hk d (List.mem_cons_of_mem _ hd)) (by rw [List.length_append]; omega) ?_
    rw [List.append_assoc]
    exact h
end Vl
namespace Law
open PySem PySem.Spec PyProof.Rows L2 Vl
section
variable {P : Program} {w : World} {K : PySem.W.Frag} {mg : Str → Option Value} {base : Heap}
theorem sFor_eq {WI : WL} {G : WG} {B : WS} {V : EndsV} {ρ : Rho} {g : Nat} : sFor WI G B V ρ g = WI ρ g fun ds g1 => loopV G B V ds ρ g1 := rfl
theorem inI_int {d : PyData} {lo hi : Int} (h : inI d lo hi = true) : ∃ i, d = .int i ∧ lo ≤ i ∧ i ≤ hi := by
  cases d <;> simp only [inI, Bool.false_eq_true] at h
  rename_i i
  rw [Bool.and_eq_true, decide_eq_true_eq, decide_eq_true_eq] at h
  exact ⟨i, rfl, h⟩
def isSn (d : PyData) : Bool := [PyData.str "all", .str "either", .str "now"].any fun w => PyData.eqv w d
def isAn (d : PyData) : Bool := [PyData.str "never", .str "cut", .str "kept"].any fun w => PyData.eqv w d
def planB (d : PyData) : Bool := match d with
  | .tuple [a, b, c, e, f, g, h, i] => inI a 1 2 && inI b 1 2 && isSn c && isSn e && (f.isBool && g.isBool && h.isBool) && isAn i
  | _ => false
theorem eight (d : PyData) : (∃ a b c e f g h i, d = .tuple [a, b, c, e, f, g, h, i]) ∨ isT d 8 = false := by
  cases d with
  | tuple xs =>
    by_cases h : xs.length = 8
    · match xs, h with
      | [a, b, c, e, f, g, h, i], _ => exact .inl ⟨a, b, c, e, f, g, h, i, rfl⟩
    · exact .inr (by simp only [isT]; rw [beq_eq_false_iff_ne]; omega)
  | _ => exact .inr rfl
theorem planB8 {a b c e f g h i : PyData} : planB (.tuple [a, b, c, e, f, g, h, i]) = (inI a 1 2 && inI b 1 2 && isSn c && isSn e && (f.isBool && g.isBool && h.isBool) && isAn i) := rfl
theorem planB_no {d : PyData} (h : isT d 8 = false) : planB d = false := by
  unfold planB
  split
  · cases h
  · rfl
theorem sn_str {d : PyData} (h : isSn d = true) : d.isStr = true := by
  cases d <;> simp [isSn, PyData.eqv, PyData.isStr] at h ⊢
theorem an_str {d : PyData} (h : isAn d = true) : d.isStr = true := by
  cases d <;> simp [isAn, PyData.eqv, PyData.isStr] at h ⊢
theorem in_sn {d : PyData} {R : PyData → Prop} (hd : noX d = true) (h : R (.bool (isSn d))) : fInH d (.tuple [.str "all", .str "either", .str "now"]) R :=
  ⟨_, rfl, ⟨rfl, hd, by simp [PyData.depth, PyData.depthAll]⟩, h⟩
theorem in_snL {d : PyData} {R : PyData → Prop} (hd : noX d = true) (h : R (.bool (isSn d))) : fInH d (.list [.str "all", .str "either", .str "now"]) R :=
  ⟨_, rfl, ⟨rfl, hd, by simp [PyData.depth, PyData.depthAll]⟩, h⟩
theorem ni_sn {d : PyData} {R : PyData → Prop} (hd : noX d = true) (h : R (.bool (!isSn d))) : fNiH d (.tuple [.str "all", .str "either", .str "now"]) R :=
  ⟨_, rfl, ⟨rfl, hd, by simp [PyData.depth, PyData.depthAll]⟩, h⟩
theorem in_an {d : PyData} {R : PyData → Prop} (hd : noX d = true) (h : R (.bool (isAn d))) : fInH d (.tuple [.str "never", .str "cut", .str "kept"]) R :=
  ⟨_, rfl, ⟨rfl, hd, by simp [PyData.depth, PyData.depthAll]⟩, h⟩
theorem in_anL {d : PyData} {R : PyData → Prop} (hd : noX d = true) (h : R (.bool (isAn d))) : fInH d (.list [.str "never", .str "cut", .str "kept"]) R :=
  ⟨_, rfl, ⟨rfl, hd, by simp [PyData.depth, PyData.depthAll]⟩, h⟩
theorem in_ff {b1 b2 b3 : Bool} {R : PyData → Prop} (h : R (.bool (!(b1 && b2 && b3)))) : fIn (.bool false) (.list [.bool b1, .bool b2, .bool b3]) R :=
  ⟨_, rfl, ⟨rfl, rfl, by simp [PyData.depth, PyData.depthAll]⟩, by
    rw [show ([PyData.bool b1, .bool b2, .bool b3].any fun w => PyData.eqv w (.bool false)) = !(b1 && b2 && b3) by cases b1 <;> cases b2 <;> cases b3 <;> rfl]
    exact h⟩
theorem an_ff {b1 b2 b3 : Bool} {R : PyData → Prop} (h : R (.bool (b1 && b2 && b3))) : fAnyAll false [.list [.bool b1, .bool b2, .bool b3]] R := by
  refine ⟨_, [b1, b2, b3], rfl, rfl, ?_⟩
  rw [if_neg Bool.false_ne_true, show [b1, b2, b3].all id = (b1 && b2 && b3) by cases b1 <;> cases b2 <;> cases b3 <;> rfl]
  exact h
section
variable {a b c e f g h i : PyData}
theorem cut24 : Vl.cutD [a, b, c, e, f, g, h, i] (some 2) (some 4) = [c, e] := rfl
theorem cut7 : Vl.cutD [a, b, c, e, f, g, h, i] (some 7) none = [i] := rfl
theorem cut47 : Vl.cutD [a, b, c, e, f, g, h, i] (some 4) (some 7) = [f, g, h] := rfl
end
def spIp : VSp := fun as g R => ∃ d : PyData, as = [.val d] ∧ noX d = true ∧ R (.bool (planB d)) g
theorem ok_is_plan (B : Bi mg) (GC : Gs K mg) (C_is_tuple_of : Ck P w K mg base "is_tuple_of" ["value", "length"] 1 spIsT) (C_is_integer_within : Ck P w K mg base "is_integer_within" ["value", "low", "high"] 1 spInt) (D : Df K mg "is_plan" s_is_plan ["value"]) : Ck P w K mg base "is_plan" ["value"] 2 spIp := by
  refine ck_v D sc_is_plan (fun as g R h => ?_) (fun f cdv A outer s H E hr => (vss_cons (vs_if (t_not (t_val (v_callC C_is_tuple_of (hr.mono (by decide)) (by rfl) (vp_cons (vv 0) (vp_cons v_int vp_nil))))) (vss_one (vs_ret v_bl)) vss_nil) (vss_cons (vs_if (t_w (w_or (t_not (t_val (v_callC C_is_integer_within (hr.mono (by decide)) (by rfl) (vp_cons (v_ix (vv 0) (v_glob GC.c_LANES (by rfl))) (vp_cons v_int (vp_cons v_int vp_nil)))))) (w_or1 (t_not (t_val (v_callC C_is_integer_within (hr.mono (by decide)) (by rfl) (vp_cons (v_ix (vv 0) (v_glob GC.c_LATE (by rfl))) (vp_cons v_int (vp_cons v_int vp_nil))))))))) (vss_one (vs_ret v_bl)) vss_nil) (vss_cons (vs_if (t_w (w_or (t_niH hr.units (v_ix (vv 0) (v_glob GC.c_CHILDREN (by rfl))) (v_glob GC.c_SENDINGS (by rfl))) (w_or1 (t_niH hr.units (v_ix (vv 0) (v_glob GC.c_PARENTS (by rfl))) (v_glob GC.c_SENDINGS (by rfl)))))) (vss_one (vs_ret v_bl)) vss_nil) (vss_cons (vs_if (t_not (t_val (v_all rfl (by rfl) B.b_all (va_cons (v_l (vl_lc rfl sc_is_plan.nd (vi_tup (v_tup (va_cons (v_glob GC.c_TELLS_VALUE (by rfl)) (va_cons (v_glob GC.c_TELLS_CHILDREN (by rfl)) (va_cons (v_glob GC.c_LOOKS_AGAIN (by rfl)) va_nil))))) (blkOk_by (own := [("at", 1)]) (by show blkC ["value", "at"] (defScope s_is_plan) _ _ = true; decide +kernel)) (fun _ _ _ _ _ => (vg_n 1 sc_is_plan.nd)) (fun _ _ _ _ _ => vts_nil) (fun _ _ _ _ _ => (v_isBool (by rfl) B.b_isinstance (by rfl) B.b_bool (v_ix (vv 0) (vv 1)))))) va_nil)))) (vss_one (vs_ret v_bl)) vss_nil) (vss_one (vs_ret (v_inH hr.units (v_ix (vv 0) (v_glob GC.c_ANEW (by rfl))) (v_glob GC.c_BEGINNINGS_ANEW (by rfl)))))))))) (fun as g R h => ?_)
  · obtain ⟨d, rfl, hx, hR⟩ := h
    rfl
  · obtain ⟨d, rfl, hx, hR⟩ := h
    refine seq_gen fun t1 h1 => ?_
    refine if_b (!isT d 8) (fun R h => ?_) (fun hb => ?_) (fun hb => ?_)
    · simp only [startV, sSeq, sIf, sSet, sOwn, sRet, sRetN, sNext, sDis, sSetIx, sApp, sAsg, sPar, sPar2O, sPar3, wB, wOp, wVar, wC, wNil, wCons, pNil, pCons, pPen, wTup, lLst, wL, wCall, wChain, Vl.wAnd, Vl.wOr, Vl.wNot, wAndV, wOrV, wNotV, wIf, wNeg, wIsN, wIsa, wFn, wSl, oNo, oPt, lList, wRevL, wIxO, wEqE, gN, gsNil, gsCons, gT, iL, iT, iR1, iR2, iZp, iEn, wYes, wipeV, endV, startV, e_fII, e_addI, e_addT, e_addL, e_intI, e_intB, e_mulT, e_mulL, e_lenL, e_lenT, e_tupL, e_tupT, e_eqI, e_neI, e_eqB, e_neB, e_eqS, e_neS, e_ix0T, e_ix1T, e_ix2T, e_ix3T, e_ix4T, e_ix0L, e_ix1L, e_ix2L, List.length_cons, List.length_nil, List.replicate, List.cons_append, List.nil_append, List.getElem?_cons_zero, List.getElem?_cons_succ, List.set_cons_zero, List.set_cons_succ, Nat.reduceAdd, Nat.reduceSub, List.replicate_succ, List.replicate_zero, true_and, if_true, if_false, Bool.false_eq_true, reduceIte, Int.toNat_natCast, fGt, fLtI, fLe, fGe, wFn, startV_one, isIntStr, isTupList, Bool.not_true, Bool.not_false, k_isInt_none, k_isInt_bool, k_isInt_int, k_isInt_str, k_isInt_list, k_isInt_tuple, k_isInt_dict, k_isBool_none, k_isBool_bool, k_isBool_int, k_isBool_str, k_isBool_list, k_isBool_tuple, k_isBool_dict, k_isTuple_none, k_isTuple_bool, k_isTuple_int, k_isTuple_str, k_isTuple_list, k_isTuple_tuple, k_isTuple_dict, k_isList_none, k_isList_bool, k_isList_int, k_isList_str, k_isList_list, k_isList_tuple, k_isList_dict, k_isStr_none, k_isStr_bool, k_isStr_int, k_isStr_str, k_isStr_list, k_isStr_tuple, k_isStr_dict, lRg1, lRg2, lLc2, iEm, lSeq, lOf, lRet, lRetO, lDis, lIf, lFn, sApp, sFor_eq, sPar2P, lLc, and_self]
      exact ⟨d, 8, rfl, hx, h⟩
    · have e : isT d 8 = false := by simpa using hb
      rw [planB_no e] at hR
      simp only [sSeq, sIf, sSet, sOwn, sRet, sRetN, sNext, sDis, sSetIx, sApp, sAsg, sPar, sPar2O, sPar3, wB, wOp, wVar, wC, wNil, wCons, pNil, pCons, pPen, wTup, lLst, wL, wCall, wChain, Vl.wAnd, Vl.wOr, Vl.wNot, wAndV, wOrV, wNotV, wIf, wNeg, wIsN, wIsa, wFn, wSl, oNo, oPt, lList, wRevL, wIxO, wEqE, gN, gsNil, gsCons, gT, iL, iT, iR1, iR2, iZp, iEn, wYes, wipeV, endV, startV, e_fII, e_addI, e_addT, e_addL, e_intI, e_intB, e_mulT, e_mulL, e_lenL, e_lenT, e_tupL, e_tupT, e_eqI, e_neI, e_eqB, e_neB, e_eqS, e_neS, e_ix0T, e_ix1T, e_ix2T, e_ix3T, e_ix4T, e_ix0L, e_ix1L, e_ix2L, List.length_cons, List.length_nil, List.replicate, List.cons_append, List.nil_append, List.getElem?_cons_zero, List.getElem?_cons_succ, List.set_cons_zero, List.set_cons_succ, Nat.reduceAdd, Nat.reduceSub, List.replicate_succ, List.replicate_zero, true_and, if_true, if_false, Bool.false_eq_true, reduceIte, Int.toNat_natCast, fGt, fLtI, fLe, fGe, wFn, startV_one, isIntStr, isTupList, Bool.not_true, Bool.not_false, k_isInt_none, k_isInt_bool, k_isInt_int, k_isInt_str, k_isInt_list, k_isInt_tuple, k_isInt_dict, k_isBool_none, k_isBool_bool, k_isBool_int, k_isBool_str, k_isBool_list, k_isBool_tuple, k_isBool_dict, k_isTuple_none, k_isTuple_bool, k_isTuple_int, k_isTuple_str, k_isTuple_list, k_isTuple_tuple, k_isTuple_dict, k_isList_none, k_isList_bool, k_isList_int, k_isList_str, k_isList_list, k_isList_tuple, k_isList_dict, k_isStr_none, k_isStr_bool, k_isStr_int, k_isStr_str, k_isStr_list, k_isStr_tuple, k_isStr_dict, lRg1, lRg2, lLc2, iEm, lSeq, lOf, lRet, lRetO, lDis, lIf, lFn, sApp, sFor_eq, sPar2P, lLc, and_self]
      exact ⟨g, Nat.le_refl _, hR⟩
    · rcases eight d with ⟨a, b, c, e, f, g1, h, i, rfl⟩ | hn
      · have ha := noXs_mem (noX_tup ▸ hx)
        have xa := ha a (by simp)
        have xb := ha b (by simp)
        have xc := ha c (by simp)
        have xe := ha e (by simp)
        have xf := ha f (by simp)
        have xg := ha g1 (by simp)
        have xh := ha h (by simp)
        have xi := ha i (by simp)
        rw [planB8] at hR
        have no : (inI a 1 2 && inI b 1 2 && isSn c && isSn e && (f.isBool && g1.isBool && h.isBool) && isAn i) = false → ∃ g2, g ≤ g2 ∧ R (.bool false) g2 := fun e => by
          rw [e] at hR
          exact ⟨g, Nat.le_refl _, hR⟩
        simp only [startV, sNext]
        subst h1
        refine seq_gen fun t1 h1 => ?_
        refine if_b (!inI a 1 2 || !inI b 1 2) (fun R h => ?_) (fun hb => ?_) (fun hb => ?_)
        · simp only [sSeq, sIf, sSet, sOwn, sRet, sRetN, sNext, sDis, sSetIx, sApp, sAsg, sPar, sPar2O, sPar3, wB, wOp, wVar, wC, wNil, wCons, pNil, pCons, pPen, wTup, lLst, wL, wCall, wChain, Vl.wAnd, Vl.wOr, Vl.wNot, wAndV, wOrV, wNotV, wIf, wNeg, wIsN, wIsa, wFn, wSl, oNo, oPt, lList, wRevL, wIxO, wEqE, gN, gsNil, gsCons, gT, iL, iT, iR1, iR2, iZp, iEn, wYes, wipeV, endV, startV, e_fII, e_addI, e_addT, e_addL, e_intI, e_intB, e_mulT, e_mulL, e_lenL, e_lenT, e_tupL, e_tupT, e_eqI, e_neI, e_eqB, e_neB, e_eqS, e_neS, e_ix0T, e_ix1T, e_ix2T, e_ix3T, e_ix4T, e_ix0L, e_ix1L, e_ix2L, List.length_cons, List.length_nil, List.replicate, List.cons_append, List.nil_append, List.getElem?_cons_zero, List.getElem?_cons_succ, List.set_cons_zero, List.set_cons_succ, Nat.reduceAdd, Nat.reduceSub, List.replicate_succ, List.replicate_zero, true_and, if_true, if_false, Bool.false_eq_true, reduceIte, Int.toNat_natCast, fGt, fLtI, fLe, fGe, wFn, startV_one, isIntStr, isTupList, Bool.not_true, Bool.not_false, k_isInt_none, k_isInt_bool, k_isInt_int, k_isInt_str, k_isInt_list, k_isInt_tuple, k_isInt_dict, k_isBool_none, k_isBool_bool, k_isBool_int, k_isBool_str, k_isBool_list, k_isBool_tuple, k_isBool_dict, k_isTuple_none, k_isTuple_bool, k_isTuple_int, k_isTuple_str, k_isTuple_list, k_isTuple_tuple, k_isTuple_dict, k_isList_none, k_isList_bool, k_isList_int, k_isList_str, k_isList_list, k_isList_tuple, k_isList_dict, k_isStr_none, k_isStr_bool, k_isStr_int, k_isStr_str, k_isStr_list, k_isStr_tuple, k_isStr_dict, lRg1, lRg2, lLc2, iEm, lSeq, lOf, lRet, lRetO, lDis, lIf, lFn, sApp, sFor_eq, sPar2P, lLc, and_self]
          refine ⟨a, 1, 2, rfl, xa, ?_⟩
          cases h1 : inI a 1 2 with
          | true =>
            rw [h1] at h
            simp only [sSeq, sIf, sSet, sOwn, sRet, sRetN, sNext, sDis, sSetIx, sApp, sAsg, sPar, sPar2O, sPar3, wB, wOp, wVar, wC, wNil, wCons, pNil, pCons, pPen, wTup, lLst, wL, wCall, wChain, Vl.wAnd, Vl.wOr, Vl.wNot, wAndV, wOrV, wNotV, wIf, wNeg, wIsN, wIsa, wFn, wSl, oNo, oPt, lList, wRevL, wIxO, wEqE, gN, gsNil, gsCons, gT, iL, iT, iR1, iR2, iZp, iEn, wYes, wipeV, endV, startV, e_fII, e_addI, e_addT, e_addL, e_intI, e_intB, e_mulT, e_mulL, e_lenL, e_lenT, e_tupL, e_tupT, e_eqI, e_neI, e_eqB, e_neB, e_eqS, e_neS, e_ix0T, e_ix1T, e_ix2T, e_ix3T, e_ix4T, e_ix0L, e_ix1L, e_ix2L, List.length_cons, List.length_nil, List.replicate, List.cons_append, List.nil_append, List.getElem?_cons_zero, List.getElem?_cons_succ, List.set_cons_zero, List.set_cons_succ, Nat.reduceAdd, Nat.reduceSub, List.replicate_succ, List.replicate_zero, true_and, if_true, if_false, Bool.false_eq_true, reduceIte, Int.toNat_natCast, fGt, fLtI, fLe, fGe, wFn, startV_one, isIntStr, isTupList, Bool.not_true, Bool.not_false, k_isInt_none, k_isInt_bool, k_isInt_int, k_isInt_str, k_isInt_list, k_isInt_tuple, k_isInt_dict, k_isBool_none, k_isBool_bool, k_isBool_int, k_isBool_str, k_isBool_list, k_isBool_tuple, k_isBool_dict, k_isTuple_none, k_isTuple_bool, k_isTuple_int, k_isTuple_str, k_isTuple_list, k_isTuple_tuple, k_isTuple_dict, k_isList_none, k_isList_bool, k_isList_int, k_isList_str, k_isList_list, k_isList_tuple, k_isList_dict, k_isStr_none, k_isStr_bool, k_isStr_int, k_isStr_str, k_isStr_list, k_isStr_tuple, k_isStr_dict, lRg1, lRg2, lLc2, iEm, lSeq, lOf, lRet, lRetO, lDis, lIf, lFn, sApp, sFor_eq, sPar2P, lLc, and_self]
            exact ⟨b, 1, 2, rfl, xb, h⟩
          | false =>
            rw [h1] at h
            simp only [sSeq, sIf, sSet, sOwn, sRet, sRetN, sNext, sDis, sSetIx, sApp, sAsg, sPar, sPar2O, sPar3, wB, wOp, wVar, wC, wNil, wCons, pNil, pCons, pPen, wTup, lLst, wL, wCall, wChain, Vl.wAnd, Vl.wOr, Vl.wNot, wAndV, wOrV, wNotV, wIf, wNeg, wIsN, wIsa, wFn, wSl, oNo, oPt, lList, wRevL, wIxO, wEqE, gN, gsNil, gsCons, gT, iL, iT, iR1, iR2, iZp, iEn, wYes, wipeV, endV, startV, e_fII, e_addI, e_addT, e_addL, e_intI, e_intB, e_mulT, e_mulL, e_lenL, e_lenT, e_tupL, e_tupT, e_eqI, e_neI, e_eqB, e_neB, e_eqS, e_neS, e_ix0T, e_ix1T, e_ix2T, e_ix3T, e_ix4T, e_ix0L, e_ix1L, e_ix2L, List.length_cons, List.length_nil, List.replicate, List.cons_append, List.nil_append, List.getElem?_cons_zero, List.getElem?_cons_succ, List.set_cons_zero, List.set_cons_succ, Nat.reduceAdd, Nat.reduceSub, List.replicate_succ, List.replicate_zero, true_and, if_true, if_false, Bool.false_eq_true, reduceIte, Int.toNat_natCast, fGt, fLtI, fLe, fGe, wFn, startV_one, isIntStr, isTupList, Bool.not_true, Bool.not_false, k_isInt_none, k_isInt_bool, k_isInt_int, k_isInt_str, k_isInt_list, k_isInt_tuple, k_isInt_dict, k_isBool_none, k_isBool_bool, k_isBool_int, k_isBool_str, k_isBool_list, k_isBool_tuple, k_isBool_dict, k_isTuple_none, k_isTuple_bool, k_isTuple_int, k_isTuple_str, k_isTuple_list, k_isTuple_tuple, k_isTuple_dict, k_isList_none, k_isList_bool, k_isList_int, k_isList_str, k_isList_list, k_isList_tuple, k_isList_dict, k_isStr_none, k_isStr_bool, k_isStr_int, k_isStr_str, k_isStr_list, k_isStr_tuple, k_isStr_dict, lRg1, lRg2, lLc2, iEm, lSeq, lOf, lRet, lRetO, lDis, lIf, lFn, sApp, sFor_eq, sPar2P, lLc, and_self]
            exact h
        · simp only [sSeq, sIf, sSet, sOwn, sRet, sRetN, sNext, sDis, sSetIx, sApp, sAsg, sPar, sPar2O, sPar3, wB, wOp, wVar, wC, wNil, wCons, pNil, pCons, pPen, wTup, lLst, wL, wCall, wChain, Vl.wAnd, Vl.wOr, Vl.wNot, wAndV, wOrV, wNotV, wIf, wNeg, wIsN, wIsa, wFn, wSl, oNo, oPt, lList, wRevL, wIxO, wEqE, gN, gsNil, gsCons, gT, iL, iT, iR1, iR2, iZp, iEn, wYes, wipeV, endV, startV, e_fII, e_addI, e_addT, e_addL, e_intI, e_intB, e_mulT, e_mulL, e_lenL, e_lenT, e_tupL, e_tupT, e_eqI, e_neI, e_eqB, e_neB, e_eqS, e_neS, e_ix0T, e_ix1T, e_ix2T, e_ix3T, e_ix4T, e_ix0L, e_ix1L, e_ix2L, List.length_cons, List.length_nil, List.replicate, List.cons_append, List.nil_append, List.getElem?_cons_zero, List.getElem?_cons_succ, List.set_cons_zero, List.set_cons_succ, Nat.reduceAdd, Nat.reduceSub, List.replicate_succ, List.replicate_zero, true_and, if_true, if_false, Bool.false_eq_true, reduceIte, Int.toNat_natCast, fGt, fLtI, fLe, fGe, wFn, startV_one, isIntStr, isTupList, Bool.not_true, Bool.not_false, k_isInt_none, k_isInt_bool, k_isInt_int, k_isInt_str, k_isInt_list, k_isInt_tuple, k_isInt_dict, k_isBool_none, k_isBool_bool, k_isBool_int, k_isBool_str, k_isBool_list, k_isBool_tuple, k_isBool_dict, k_isTuple_none, k_isTuple_bool, k_isTuple_int, k_isTuple_str, k_isTuple_list, k_isTuple_tuple, k_isTuple_dict, k_isList_none, k_isList_bool, k_isList_int, k_isList_str, k_isList_list, k_isList_tuple, k_isList_dict, k_isStr_none, k_isStr_bool, k_isStr_int, k_isStr_str, k_isStr_list, k_isStr_tuple, k_isStr_dict, lRg1, lRg2, lLc2, iEm, lSeq, lOf, lRet, lRetO, lDis, lIf, lFn, sApp, sFor_eq, sPar2P, lLc, and_self]
          refine no ?_
          rw [Bool.or_eq_true, Bool.not_eq_true', Bool.not_eq_true'] at hb
          rcases hb with h | h <;> rw [h] <;> simp only [Bool.false_and, Bool.and_false]
        · rw [Bool.or_eq_false_iff, Bool.not_eq_false', Bool.not_eq_false'] at hb
          rw [hb.1, hb.2] at hR no
          simp only [sNext]
          subst h1
          refine seq_gen fun t1 h1 => ?_
          refine if_b (!isSn c || !isSn e) (fun R h => ?_) (fun hc => ?_) (fun hc => ?_)
          · simp only [sSeq, sIf, sSet, sOwn, sRet, sRetN, sNext, sDis, sSetIx, sApp, sAsg, sPar, sPar2O, sPar3, wB, wOp, wVar, wC, wNil, wCons, pNil, pCons, pPen, wTup, lLst, wL, wCall, wChain, Vl.wAnd, Vl.wOr, Vl.wNot, wAndV, wOrV, wNotV, wIf, wNeg, wIsN, wIsa, wFn, wSl, oNo, oPt, lList, wRevL, wIxO, wEqE, gN, gsNil, gsCons, gT, iL, iT, iR1, iR2, iZp, iEn, wYes, wipeV, endV, startV, e_fII, e_addI, e_addT, e_addL, e_intI, e_intB, e_mulT, e_mulL, e_lenL, e_lenT, e_tupL, e_tupT, e_eqI, e_neI, e_eqB, e_neB, e_eqS, e_neS, e_ix0T, e_ix1T, e_ix2T, e_ix3T, e_ix4T, e_ix0L, e_ix1L, e_ix2L, List.length_cons, List.length_nil, List.replicate, List.cons_append, List.nil_append, List.getElem?_cons_zero, List.getElem?_cons_succ, List.set_cons_zero, List.set_cons_succ, Nat.reduceAdd, Nat.reduceSub, List.replicate_succ, List.replicate_zero, true_and, if_true, if_false, Bool.false_eq_true, reduceIte, Int.toNat_natCast, fGt, fLtI, fLe, fGe, wFn, startV_one, isIntStr, isTupList, Bool.not_true, Bool.not_false, k_isInt_none, k_isInt_bool, k_isInt_int, k_isInt_str, k_isInt_list, k_isInt_tuple, k_isInt_dict, k_isBool_none, k_isBool_bool, k_isBool_int, k_isBool_str, k_isBool_list, k_isBool_tuple, k_isBool_dict, k_isTuple_none, k_isTuple_bool, k_isTuple_int, k_isTuple_str, k_isTuple_list, k_isTuple_tuple, k_isTuple_dict, k_isList_none, k_isList_bool, k_isList_int, k_isList_str, k_isList_list, k_isList_tuple, k_isList_dict, k_isStr_none, k_isStr_bool, k_isStr_int, k_isStr_str, k_isStr_list, k_isStr_tuple, k_isStr_dict, lRg1, lRg2, lLc2, iEm, lSeq, lOf, lRet, lRetO, lDis, lIf, lFn, sApp, sFor_eq, sPar2P, lLc, and_self]
            refine ni_sn xc ?_
            cases h1 : isSn c with
            | true =>
              rw [h1] at h
              simp only [sSeq, sIf, sSet, sOwn, sRet, sRetN, sNext, sDis, sSetIx, sApp, sAsg, sPar, sPar2O, sPar3, wB, wOp, wVar, wC, wNil, wCons, pNil, pCons, pPen, wTup, lLst, wL, wCall, wChain, Vl.wAnd, Vl.wOr, Vl.wNot, wAndV, wOrV, wNotV, wIf, wNeg, wIsN, wIsa, wFn, wSl, oNo, oPt, lList, wRevL, wIxO, wEqE, gN, gsNil, gsCons, gT, iL, iT, iR1, iR2, iZp, iEn, wYes, wipeV, endV, startV, e_fII, e_addI, e_addT, e_addL, e_intI, e_intB, e_mulT, e_mulL, e_lenL, e_lenT, e_tupL, e_tupT, e_eqI, e_neI, e_eqB, e_neB, e_eqS, e_neS, e_ix0T, e_ix1T, e_ix2T, e_ix3T, e_ix4T, e_ix0L, e_ix1L, e_ix2L, List.length_cons, List.length_nil, List.replicate, List.cons_append, List.nil_append, List.getElem?_cons_zero, List.getElem?_cons_succ, List.set_cons_zero, List.set_cons_succ, Nat.reduceAdd, Nat.reduceSub, List.replicate_succ, List.replicate_zero, true_and, if_true, if_false, Bool.false_eq_true, reduceIte, Int.toNat_natCast, fGt, fLtI, fLe, fGe, wFn, startV_one, isIntStr, isTupList, Bool.not_true, Bool.not_false, k_isInt_none, k_isInt_bool, k_isInt_int, k_isInt_str, k_isInt_list, k_isInt_tuple, k_isInt_dict, k_isBool_none, k_isBool_bool, k_isBool_int, k_isBool_str, k_isBool_list, k_isBool_tuple, k_isBool_dict, k_isTuple_none, k_isTuple_bool, k_isTuple_int, k_isTuple_str, k_isTuple_list, k_isTuple_tuple, k_isTuple_dict, k_isList_none, k_isList_bool, k_isList_int, k_isList_str, k_isList_list, k_isList_tuple, k_isList_dict, k_isStr_none, k_isStr_bool, k_isStr_int, k_isStr_str, k_isStr_list, k_isStr_tuple, k_isStr_dict, lRg1, lRg2, lLc2, iEm, lSeq, lOf, lRet, lRetO, lDis, lIf, lFn, sApp, sFor_eq, sPar2P, lLc, and_self]
              exact ni_sn xe h
            | false =>
              rw [h1] at h
              simp only [sSeq, sIf, sSet, sOwn, sRet, sRetN, sNext, sDis, sSetIx, sApp, sAsg, sPar, sPar2O, sPar3, wB, wOp, wVar, wC, wNil, wCons, pNil, pCons, pPen, wTup, lLst, wL, wCall, wChain, Vl.wAnd, Vl.wOr, Vl.wNot, wAndV, wOrV, wNotV, wIf, wNeg, wIsN, wIsa, wFn, wSl, oNo, oPt, lList, wRevL, wIxO, wEqE, gN, gsNil, gsCons, gT, iL, iT, iR1, iR2, iZp, iEn, wYes, wipeV, endV, startV, e_fII, e_addI, e_addT, e_addL, e_intI, e_intB, e_mulT, e_mulL, e_lenL, e_lenT, e_tupL, e_tupT, e_eqI, e_neI, e_eqB, e_neB, e_eqS, e_neS, e_ix0T, e_ix1T, e_ix2T, e_ix3T, e_ix4T, e_ix0L, e_ix1L, e_ix2L, List.length_cons, List.length_nil, List.replicate, List.cons_append, List.nil_append, List.getElem?_cons_zero, List.getElem?_cons_succ, List.set_cons_zero, List.set_cons_succ, Nat.reduceAdd, Nat.reduceSub, List.replicate_succ, List.replicate_zero, true_and, if_true, if_false, Bool.false_eq_true, reduceIte, Int.toNat_natCast, fGt, fLtI, fLe, fGe, wFn, startV_one, isIntStr, isTupList, Bool.not_true, Bool.not_false, k_isInt_none, k_isInt_bool, k_isInt_int, k_isInt_str, k_isInt_list, k_isInt_tuple, k_isInt_dict, k_isBool_none, k_isBool_bool, k_isBool_int, k_isBool_str, k_isBool_list, k_isBool_tuple, k_isBool_dict, k_isTuple_none, k_isTuple_bool, k_isTuple_int, k_isTuple_str, k_isTuple_list, k_isTuple_tuple, k_isTuple_dict, k_isList_none, k_isList_bool, k_isList_int, k_isList_str, k_isList_list, k_isList_tuple, k_isList_dict, k_isStr_none, k_isStr_bool, k_isStr_int, k_isStr_str, k_isStr_list, k_isStr_tuple, k_isStr_dict, lRg1, lRg2, lLc2, iEm, lSeq, lOf, lRet, lRetO, lDis, lIf, lFn, sApp, sFor_eq, sPar2P, lLc, and_self]
              exact h
          · simp only [sSeq, sIf, sSet, sOwn, sRet, sRetN, sNext, sDis, sSetIx, sApp, sAsg, sPar, sPar2O, sPar3, wB, wOp, wVar, wC, wNil, wCons, pNil, pCons, pPen, wTup, lLst, wL, wCall, wChain, Vl.wAnd, Vl.wOr, Vl.wNot, wAndV, wOrV, wNotV, wIf, wNeg, wIsN, wIsa, wFn, wSl, oNo, oPt, lList, wRevL, wIxO, wEqE, gN, gsNil, gsCons, gT, iL, iT, iR1, iR2, iZp, iEn, wYes, wipeV, endV, startV, e_fII, e_addI, e_addT, e_addL, e_intI, e_intB, e_mulT, e_mulL, e_lenL, e_lenT, e_tupL, e_tupT, e_eqI, e_neI, e_eqB, e_neB, e_eqS, e_neS, e_ix0T, e_ix1T, e_ix2T, e_ix3T, e_ix4T, e_ix0L, e_ix1L, e_ix2L, List.length_cons, List.length_nil, List.replicate, List.cons_append, List.nil_append, List.getElem?_cons_zero, List.getElem?_cons_succ, List.set_cons_zero, List.set_cons_succ, Nat.reduceAdd, Nat.reduceSub, List.replicate_succ, List.replicate_zero, true_and, if_true, if_false, Bool.false_eq_true, reduceIte, Int.toNat_natCast, fGt, fLtI, fLe, fGe, wFn, startV_one, isIntStr, isTupList, Bool.not_true, Bool.not_false, k_isInt_none, k_isInt_bool, k_isInt_int, k_isInt_str, k_isInt_list, k_isInt_tuple, k_isInt_dict, k_isBool_none, k_isBool_bool, k_isBool_int, k_isBool_str, k_isBool_list, k_isBool_tuple, k_isBool_dict, k_isTuple_none, k_isTuple_bool, k_isTuple_int, k_isTuple_str, k_isTuple_list, k_isTuple_tuple, k_isTuple_dict, k_isList_none, k_isList_bool, k_isList_int, k_isList_str, k_isList_list, k_isList_tuple, k_isList_dict, k_isStr_none, k_isStr_bool, k_isStr_int, k_isStr_str, k_isStr_list, k_isStr_tuple, k_isStr_dict, lRg1, lRg2, lLc2, iEm, lSeq, lOf, lRet, lRetO, lDis, lIf, lFn, sApp, sFor_eq, sPar2P, lLc, and_self]
            refine no ?_
            rw [Bool.or_eq_true, Bool.not_eq_true', Bool.not_eq_true'] at hc
            rcases hc with h | h <;> rw [h] <;> simp only [Bool.false_and, Bool.and_false]
          · rw [Bool.or_eq_false_iff, Bool.not_eq_false', Bool.not_eq_false'] at hc
            rw [hc.1, hc.2] at hR no
            simp only [sNext]
            subst h1
            refine seq_gen fun t1 h1 => ?_
            refine if_b (!(f.isBool && g1.isBool && h.isBool)) (fun R h => ?_) (fun hd => ?_) (fun hd => ?_)
            · simp only [sSeq, sIf, sSet, sOwn, sRet, sRetN, sNext, sDis, sSetIx, sApp, sAsg, sPar, sPar2O, sPar3, wB, wOp, wVar, wC, wNil, wCons, pNil, pCons, pPen, wTup, lLst, wL, wCall, wChain, Vl.wAnd, Vl.wOr, Vl.wNot, wAndV, wOrV, wNotV, wIf, wNeg, wIsN, wIsa, wFn, wSl, oNo, oPt, lList, wRevL, wIxO, wEqE, gN, gsNil, gsCons, gT, iL, iT, iR1, iR2, iZp, iEn, wYes, wipeV, endV, startV, e_fII, e_addI, e_addT, e_addL, e_intI, e_intB, e_mulT, e_mulL, e_lenL, e_lenT, e_tupL, e_tupT, e_eqI, e_neI, e_eqB, e_neB, e_eqS, e_neS, e_ix0T, e_ix1T, e_ix2T, e_ix3T, e_ix4T, e_ix0L, e_ix1L, e_ix2L, List.length_cons, List.length_nil, List.replicate, List.cons_append, List.nil_append, List.getElem?_cons_zero, List.getElem?_cons_succ, List.set_cons_zero, List.set_cons_succ, Nat.reduceAdd, Nat.reduceSub, List.replicate_succ, List.replicate_zero, true_and, if_true, if_false, Bool.false_eq_true, reduceIte, Int.toNat_natCast, fGt, fLtI, fLe, fGe, wFn, startV_one, isIntStr, isTupList, Bool.not_true, Bool.not_false, k_isInt_none, k_isInt_bool, k_isInt_int, k_isInt_str, k_isInt_list, k_isInt_tuple, k_isInt_dict, k_isBool_none, k_isBool_bool, k_isBool_int, k_isBool_str, k_isBool_list, k_isBool_tuple, k_isBool_dict, k_isTuple_none, k_isTuple_bool, k_isTuple_int, k_isTuple_str, k_isTuple_list, k_isTuple_tuple, k_isTuple_dict, k_isList_none, k_isList_bool, k_isList_int, k_isList_str, k_isList_list, k_isList_tuple, k_isList_dict, k_isStr_none, k_isStr_bool, k_isStr_int, k_isStr_str, k_isStr_list, k_isStr_tuple, k_isStr_dict, lRg1, lRg2, lLc2, iEm, lSeq, lOf, lRet, lRetO, lDis, lIf, lFn, sApp, sFor_eq, sPar2P, lLc, and_self]
              refine ⟨by decide, by decide, ?_⟩
              simp only [sSeq, sIf, sSet, sOwn, sRet, sRetN, sNext, sDis, sSetIx, sApp, sAsg, sPar, sPar2O, sPar3, wB, wOp, wVar, wC, wNil, wCons, pNil, pCons, pPen, wTup, lLst, wL, wCall, wChain, Vl.wAnd, Vl.wOr, Vl.wNot, wAndV, wOrV, wNotV, wIf, wNeg, wIsN, wIsa, wFn, wSl, oNo, oPt, lList, wRevL, wIxO, wEqE, gN, gsNil, gsCons, gT, iL, iT, iR1, iR2, iZp, iEn, wYes, wipeV, endV, startV, e_fII, e_addI, e_addT, e_addL, e_intI, e_intB, e_mulT, e_mulL, e_lenL, e_lenT, e_tupL, e_tupT, e_eqI, e_neI, e_eqB, e_neB, e_eqS, e_neS, e_ix0T, e_ix1T, e_ix2T, e_ix3T, e_ix4T, e_ix0L, e_ix1L, e_ix2L, List.length_cons, List.length_nil, List.replicate, List.cons_append, List.nil_append, List.getElem?_cons_zero, List.getElem?_cons_succ, List.set_cons_zero, List.set_cons_succ, Nat.reduceAdd, Nat.reduceSub, List.replicate_succ, List.replicate_zero, true_and, if_true, if_false, Bool.false_eq_true, reduceIte, Int.toNat_natCast, fGt, fLtI, fLe, fGe, wFn, startV_one, isIntStr, isTupList, Bool.not_true, Bool.not_false, k_isInt_none, k_isInt_bool, k_isInt_int, k_isInt_str, k_isInt_list, k_isInt_tuple, k_isInt_dict, k_isBool_none, k_isBool_bool, k_isBool_int, k_isBool_str, k_isBool_list, k_isBool_tuple, k_isBool_dict, k_isTuple_none, k_isTuple_bool, k_isTuple_int, k_isTuple_str, k_isTuple_list, k_isTuple_tuple, k_isTuple_dict, k_isList_none, k_isList_bool, k_isList_int, k_isList_str, k_isList_list, k_isList_tuple, k_isList_dict, k_isStr_none, k_isStr_bool, k_isStr_int, k_isStr_str, k_isStr_list, k_isStr_tuple, k_isStr_dict, lRg1, lRg2, lLc2, iEm, lSeq, lOf, lRet, lRetO, lDis, lIf, lFn, sApp, sFor_eq, sPar2P, lLc, and_self, lcV, wipeV, List.map_cons, List.map_nil, e_ix5T, e_ix6T, e_ix7T]
              refine ⟨xf, xg, xh, an_ff ?_⟩
              simp only [sSeq, sIf, sSet, sOwn, sRet, sRetN, sNext, sDis, sSetIx, sApp, sAsg, sPar, sPar2O, sPar3, wB, wOp, wVar, wC, wNil, wCons, pNil, pCons, pPen, wTup, lLst, wL, wCall, wChain, Vl.wAnd, Vl.wOr, Vl.wNot, wAndV, wOrV, wNotV, wIf, wNeg, wIsN, wIsa, wFn, wSl, oNo, oPt, lList, wRevL, wIxO, wEqE, gN, gsNil, gsCons, gT, iL, iT, iR1, iR2, iZp, iEn, wYes, wipeV, endV, startV, e_fII, e_addI, e_addT, e_addL, e_intI, e_intB, e_mulT, e_mulL, e_lenL, e_lenT, e_tupL, e_tupT, e_eqI, e_neI, e_eqB, e_neB, e_eqS, e_neS, e_ix0T, e_ix1T, e_ix2T, e_ix3T, e_ix4T, e_ix0L, e_ix1L, e_ix2L, List.length_cons, List.length_nil, List.replicate, List.cons_append, List.nil_append, List.getElem?_cons_zero, List.getElem?_cons_succ, List.set_cons_zero, List.set_cons_succ, Nat.reduceAdd, Nat.reduceSub, List.replicate_succ, List.replicate_zero, true_and, if_true, if_false, Bool.false_eq_true, reduceIte, Int.toNat_natCast, fGt, fLtI, fLe, fGe, wFn, startV_one, isIntStr, isTupList, Bool.not_true, Bool.not_false, k_isInt_none, k_isInt_bool, k_isInt_int, k_isInt_str, k_isInt_list, k_isInt_tuple, k_isInt_dict, k_isBool_none, k_isBool_bool, k_isBool_int, k_isBool_str, k_isBool_list, k_isBool_tuple, k_isBool_dict, k_isTuple_none, k_isTuple_bool, k_isTuple_int, k_isTuple_str, k_isTuple_list, k_isTuple_tuple, k_isTuple_dict, k_isList_none, k_isList_bool, k_isList_int, k_isList_str, k_isList_list, k_isList_tuple, k_isList_dict, k_isStr_none, k_isStr_bool, k_isStr_int, k_isStr_str, k_isStr_list, k_isStr_tuple, k_isStr_dict, lRg1, lRg2, lLc2, iEm, lSeq, lOf, lRet, lRetO, lDis, lIf, lFn, sApp, sFor_eq, sPar2P, lLc, and_self]
              exact h
            · simp only [sSeq, sIf, sSet, sOwn, sRet, sRetN, sNext, sDis, sSetIx, sApp, sAsg, sPar, sPar2O, sPar3, wB, wOp, wVar, wC, wNil, wCons, pNil, pCons, pPen, wTup, lLst, wL, wCall, wChain, Vl.wAnd, Vl.wOr, Vl.wNot, wAndV, wOrV, wNotV, wIf, wNeg, wIsN, wIsa, wFn, wSl, oNo, oPt, lList, wRevL, wIxO, wEqE, gN, gsNil, gsCons, gT, iL, iT, iR1, iR2, iZp, iEn, wYes, wipeV, endV, startV, e_fII, e_addI, e_addT, e_addL, e_intI, e_intB, e_mulT, e_mulL, e_lenL, e_lenT, e_tupL, e_tupT, e_eqI, e_neI, e_eqB, e_neB, e_eqS, e_neS, e_ix0T, e_ix1T, e_ix2T, e_ix3T, e_ix4T, e_ix0L, e_ix1L, e_ix2L, List.length_cons, List.length_nil, List.replicate, List.cons_append, List.nil_append, List.getElem?_cons_zero, List.getElem?_cons_succ, List.set_cons_zero, List.set_cons_succ, Nat.reduceAdd, Nat.reduceSub, List.replicate_succ, List.replicate_zero, true_and, if_true, if_false, Bool.false_eq_true, reduceIte, Int.toNat_natCast, fGt, fLtI, fLe, fGe, wFn, startV_one, isIntStr, isTupList, Bool.not_true, Bool.not_false, k_isInt_none, k_isInt_bool, k_isInt_int, k_isInt_str, k_isInt_list, k_isInt_tuple, k_isInt_dict, k_isBool_none, k_isBool_bool, k_isBool_int, k_isBool_str, k_isBool_list, k_isBool_tuple, k_isBool_dict, k_isTuple_none, k_isTuple_bool, k_isTuple_int, k_isTuple_str, k_isTuple_list, k_isTuple_tuple, k_isTuple_dict, k_isList_none, k_isList_bool, k_isList_int, k_isList_str, k_isList_list, k_isList_tuple, k_isList_dict, k_isStr_none, k_isStr_bool, k_isStr_int, k_isStr_str, k_isStr_list, k_isStr_tuple, k_isStr_dict, lRg1, lRg2, lLc2, iEm, lSeq, lOf, lRet, lRetO, lDis, lIf, lFn, sApp, sFor_eq, sPar2P, lLc, and_self]
              refine no ?_
              rw [Bool.not_eq_true'] at hd
              rw [hd]
              simp only [Bool.false_and, Bool.and_false]
            · rw [Bool.not_eq_false'] at hd
              rw [hd] at hR
              subst h1
              simp only [sSeq, sIf, sSet, sOwn, sRet, sRetN, sNext, sDis, sSetIx, sApp, sAsg, sPar, sPar2O, sPar3, wB, wOp, wVar, wC, wNil, wCons, pNil, pCons, pPen, wTup, lLst, wL, wCall, wChain, Vl.wAnd, Vl.wOr, Vl.wNot, wAndV, wOrV, wNotV, wIf, wNeg, wIsN, wIsa, wFn, wSl, oNo, oPt, lList, wRevL, wIxO, wEqE, gN, gsNil, gsCons, gT, iL, iT, iR1, iR2, iZp, iEn, wYes, wipeV, endV, startV, e_fII, e_addI, e_addT, e_addL, e_intI, e_intB, e_mulT, e_mulL, e_lenL, e_lenT, e_tupL, e_tupT, e_eqI, e_neI, e_eqB, e_neB, e_eqS, e_neS, e_ix0T, e_ix1T, e_ix2T, e_ix3T, e_ix4T, e_ix0L, e_ix1L, e_ix2L, List.length_cons, List.length_nil, List.replicate, List.cons_append, List.nil_append, List.getElem?_cons_zero, List.getElem?_cons_succ, List.set_cons_zero, List.set_cons_succ, Nat.reduceAdd, Nat.reduceSub, List.replicate_succ, List.replicate_zero, true_and, if_true, if_false, Bool.false_eq_true, reduceIte, Int.toNat_natCast, fGt, fLtI, fLe, fGe, wFn, startV_one, isIntStr, isTupList, Bool.not_true, Bool.not_false, k_isInt_none, k_isInt_bool, k_isInt_int, k_isInt_str, k_isInt_list, k_isInt_tuple, k_isInt_dict, k_isBool_none, k_isBool_bool, k_isBool_int, k_isBool_str, k_isBool_list, k_isBool_tuple, k_isBool_dict, k_isTuple_none, k_isTuple_bool, k_isTuple_int, k_isTuple_str, k_isTuple_list, k_isTuple_tuple, k_isTuple_dict, k_isList_none, k_isList_bool, k_isList_int, k_isList_str, k_isList_list, k_isList_tuple, k_isList_dict, k_isStr_none, k_isStr_bool, k_isStr_int, k_isStr_str, k_isStr_list, k_isStr_tuple, k_isStr_dict, lRg1, lRg2, lLc2, iEm, lSeq, lOf, lRet, lRetO, lDis, lIf, lFn, sApp, sFor_eq, sPar2P, lLc, and_self]
              rw [e_ix7T]
              exact in_an xi ⟨g, Nat.le_refl _, hR⟩
      · rw [hn] at hb; cases hb

theorem ok__law_is_plan (B : Bi mg) (C__law_is_integer : Ck P w K mg base "_law_is_integer" ["value", "low", "high"] 1 spInt) (D : Df K mg "_law_is_plan" s__law_is_plan ["value"]) : Ck P w K mg base "_law_is_plan" ["value"] 2 spIp := by
  refine ck_v D sc__law_is_plan (fun as g R h => ?_) (fun f cdv A outer s H E hr => (vss_cons (vs_if (t_w (w_or (t_not (t_val (v_isTuple (by rfl) B.b_isinstance (by rfl) B.b_tuple (vv 0)))) (w_or1 (t_ne hr.units (v_len (by rfl) B.b_len (va_cons (vv 0) va_nil)) v_int)))) (vss_one (vs_ret v_bl)) vss_nil) (vss_cons (vs_if (t_w (w_or (t_not (t_val (v_callC C__law_is_integer (hr.mono (by decide)) (by rfl) (vp_cons (v_ix (vv 0) v_int) (vp_cons v_int (vp_cons v_int vp_nil)))))) (w_or1 (t_not (t_val (v_callC C__law_is_integer (hr.mono (by decide)) (by rfl) (vp_cons (v_ix (vv 0) v_int) (vp_cons v_int (vp_cons v_int vp_nil))))))))) (vss_one (vs_ret v_bl)) vss_nil) (vss_cons (vs_if (t_in hr.units v_bl (v_l (vl_lc rfl sc__law_is_plan.nd (vi_tup (v_add (v_slice (vv 0) (vo_some v_int) (vo_some v_int)) (v_slice (vv 0) (vo_some v_int) vo_none))) (blkOk_by (own := [("word", 1)]) (by show blkC ["value", "word", "flag", "sends"] (defScope s__law_is_plan) _ _ = true; decide +kernel)) (fun _ _ _ _ _ => (vg_n 1 sc__law_is_plan.nd)) (fun _ _ _ _ _ => vts_nil) (fun _ _ _ _ _ => (v_isStr (by rfl) B.b_isinstance (by rfl) B.b_str (vv 1)))))) (vss_one (vs_ret v_bl)) vss_nil) (vss_cons (vs_if (t_in hr.units v_bl (v_l (vl_lc rfl sc__law_is_plan.nd (vi_tup (v_slice (vv 0) (vo_some v_int) (vo_some v_int))) (blkOk_by (own := [("flag", 2)]) (by show blkC ["value", "word", "flag", "sends"] (defScope s__law_is_plan) _ _ = true; decide +kernel)) (fun _ _ _ _ _ => (vg_n 2 sc__law_is_plan.nd)) (fun _ _ _ _ _ => vts_nil) (fun _ _ _ _ _ => (v_isBool (by rfl) B.b_isinstance (by rfl) B.b_bool (vv 2)))))) (vss_one (vs_ret v_bl)) vss_nil) (vss_cons (vs_set 3 sc__law_is_plan.nd (v_lst (va_cons v_str (va_cons v_str (va_cons v_str va_nil))))) (vss_one (vs_ret (v_and (v_inH hr.units (v_ix (vv 0) v_int) (vv 3)) (v_and (v_inH hr.units (v_ix (vv 0) v_int) (vv 3)) (v_one (v_inH hr.units (v_ix (vv 0) v_int) (v_lst (va_cons v_str (va_cons v_str (va_cons v_str va_nil)))))))))))))))) (fun as g R h => ?_)
  · obtain ⟨d, rfl, hx, hR⟩ := h
    rfl
  · obtain ⟨d, rfl, hx, hR⟩ := h
    refine seq_gen fun t1 h1 => ?_
    rcases eight d with ⟨a, b, c, e, f, g1, h, i, rfl⟩ | hn
    · have ha := noXs_mem (noX_tup ▸ hx)
      have xa := ha a (by simp)
      have xb := ha b (by simp)
      have xc := ha c (by simp)
      have xe := ha e (by simp)
      have xf := ha f (by simp)
      have xg := ha g1 (by simp)
      have xh := ha h (by simp)
      have xi := ha i (by simp)
      rw [planB8] at hR
      have no : (inI a 1 2 && inI b 1 2 && isSn c && isSn e && (f.isBool && g1.isBool && h.isBool) && isAn i) = false → ∃ g2, g ≤ g2 ∧ R (.bool false) g2 := fun e => by
        rw [e] at hR
        exact ⟨g, Nat.le_refl _, hR⟩
      refine if_b false (fun R h => ?_) (fun hb => nomatch hb) (fun _ => ?_)
      · simp only [startV, sSeq, sIf, sSet, sOwn, sRet, sRetN, sNext, sDis, sSetIx, sApp, sAsg, sPar, sPar2O, sPar3, wB, wOp, wVar, wC, wNil, wCons, pNil, pCons, pPen, wTup, lLst, wL, wCall, wChain, Vl.wAnd, Vl.wOr, Vl.wNot, wAndV, wOrV, wNotV, wIf, wNeg, wIsN, wIsa, wFn, wSl, oNo, oPt, lList, wRevL, wIxO, wEqE, gN, gsNil, gsCons, gT, iL, iT, iR1, iR2, iZp, iEn, wYes, wipeV, endV, startV, e_fII, e_addI, e_addT, e_addL, e_intI, e_intB, e_mulT, e_mulL, e_lenL, e_lenT, e_tupL, e_tupT, e_eqI, e_neI, e_eqB, e_neB, e_eqS, e_neS, e_ix0T, e_ix1T, e_ix2T, e_ix3T, e_ix4T, e_ix0L, e_ix1L, e_ix2L, List.length_cons, List.length_nil, List.replicate, List.cons_append, List.nil_append, List.getElem?_cons_zero, List.getElem?_cons_succ, List.set_cons_zero, List.set_cons_succ, Nat.reduceAdd, Nat.reduceSub, List.replicate_succ, List.replicate_zero, true_and, if_true, if_false, Bool.false_eq_true, reduceIte, Int.toNat_natCast, fGt, fLtI, fLe, fGe, wFn, startV_one, isIntStr, isTupList, Bool.not_true, Bool.not_false, k_isInt_none, k_isInt_bool, k_isInt_int, k_isInt_str, k_isInt_list, k_isInt_tuple, k_isInt_dict, k_isBool_none, k_isBool_bool, k_isBool_int, k_isBool_str, k_isBool_list, k_isBool_tuple, k_isBool_dict, k_isTuple_none, k_isTuple_bool, k_isTuple_int, k_isTuple_str, k_isTuple_list, k_isTuple_tuple, k_isTuple_dict, k_isList_none, k_isList_bool, k_isList_int, k_isList_str, k_isList_list, k_isList_tuple, k_isList_dict, k_isStr_none, k_isStr_bool, k_isStr_int, k_isStr_str, k_isStr_list, k_isStr_tuple, k_isStr_dict, lRg1, lRg2, lLc2, iEm, lSeq, lOf, lRet, lRetO, lDis, lIf, lFn, sApp, sFor_eq, sPar2P, lLc, and_self]
        exact ⟨hx, h⟩
      · simp only [startV, sNext]
        subst h1
        refine seq_gen fun t1 h1 => ?_
        refine if_b (!inI a 1 2 || !inI b 1 2) (fun R h => ?_) (fun hb => ?_) (fun hb => ?_)
        · simp only [sSeq, sIf, sSet, sOwn, sRet, sRetN, sNext, sDis, sSetIx, sApp, sAsg, sPar, sPar2O, sPar3, wB, wOp, wVar, wC, wNil, wCons, pNil, pCons, pPen, wTup, lLst, wL, wCall, wChain, Vl.wAnd, Vl.wOr, Vl.wNot, wAndV, wOrV, wNotV, wIf, wNeg, wIsN, wIsa, wFn, wSl, oNo, oPt, lList, wRevL, wIxO, wEqE, gN, gsNil, gsCons, gT, iL, iT, iR1, iR2, iZp, iEn, wYes, wipeV, endV, startV, e_fII, e_addI, e_addT, e_addL, e_intI, e_intB, e_mulT, e_mulL, e_lenL, e_lenT, e_tupL, e_tupT, e_eqI, e_neI, e_eqB, e_neB, e_eqS, e_neS, e_ix0T, e_ix1T, e_ix2T, e_ix3T, e_ix4T, e_ix0L, e_ix1L, e_ix2L, List.length_cons, List.length_nil, List.replicate, List.cons_append, List.nil_append, List.getElem?_cons_zero, List.getElem?_cons_succ, List.set_cons_zero, List.set_cons_succ, Nat.reduceAdd, Nat.reduceSub, List.replicate_succ, List.replicate_zero, true_and, if_true, if_false, Bool.false_eq_true, reduceIte, Int.toNat_natCast, fGt, fLtI, fLe, fGe, wFn, startV_one, isIntStr, isTupList, Bool.not_true, Bool.not_false, k_isInt_none, k_isInt_bool, k_isInt_int, k_isInt_str, k_isInt_list, k_isInt_tuple, k_isInt_dict, k_isBool_none, k_isBool_bool, k_isBool_int, k_isBool_str, k_isBool_list, k_isBool_tuple, k_isBool_dict, k_isTuple_none, k_isTuple_bool, k_isTuple_int, k_isTuple_str, k_isTuple_list, k_isTuple_tuple, k_isTuple_dict, k_isList_none, k_isList_bool, k_isList_int, k_isList_str, k_isList_list, k_isList_tuple, k_isList_dict, k_isStr_none, k_isStr_bool, k_isStr_int, k_isStr_str, k_isStr_list, k_isStr_tuple, k_isStr_dict, lRg1, lRg2, lLc2, iEm, lSeq, lOf, lRet, lRetO, lDis, lIf, lFn, sApp, sFor_eq, sPar2P, lLc, and_self]
          refine ⟨a, 1, 2, rfl, xa, ?_⟩
          cases h1 : inI a 1 2 with
          | true =>
            rw [h1] at h
            simp only [sSeq, sIf, sSet, sOwn, sRet, sRetN, sNext, sDis, sSetIx, sApp, sAsg, sPar, sPar2O, sPar3, wB, wOp, wVar, wC, wNil, wCons, pNil, pCons, pPen, wTup, lLst, wL, wCall, wChain, Vl.wAnd, Vl.wOr, Vl.wNot, wAndV, wOrV, wNotV, wIf, wNeg, wIsN, wIsa, wFn, wSl, oNo, oPt, lList, wRevL, wIxO, wEqE, gN, gsNil, gsCons, gT, iL, iT, iR1, iR2, iZp, iEn, wYes, wipeV, endV, startV, e_fII, e_addI, e_addT, e_addL, e_intI, e_intB, e_mulT, e_mulL, e_lenL, e_lenT, e_tupL, e_tupT, e_eqI, e_neI, e_eqB, e_neB, e_eqS, e_neS, e_ix0T, e_ix1T, e_ix2T, e_ix3T, e_ix4T, e_ix0L, e_ix1L, e_ix2L, List.length_cons, List.length_nil, List.replicate, List.cons_append, List.nil_append, List.getElem?_cons_zero, List.getElem?_cons_succ, List.set_cons_zero, List.set_cons_succ, Nat.reduceAdd, Nat.reduceSub, List.replicate_succ, List.replicate_zero, true_and, if_true, if_false, Bool.false_eq_true, reduceIte, Int.toNat_natCast, fGt, fLtI, fLe, fGe, wFn, startV_one, isIntStr, isTupList, Bool.not_true, Bool.not_false, k_isInt_none, k_isInt_bool, k_isInt_int, k_isInt_str, k_isInt_list, k_isInt_tuple, k_isInt_dict, k_isBool_none, k_isBool_bool, k_isBool_int, k_isBool_str, k_isBool_list, k_isBool_tuple, k_isBool_dict, k_isTuple_none, k_isTuple_bool, k_isTuple_int, k_isTuple_str, k_isTuple_list, k_isTuple_tuple, k_isTuple_dict, k_isList_none, k_isList_bool, k_isList_int, k_isList_str, k_isList_list, k_isList_tuple, k_isList_dict, k_isStr_none, k_isStr_bool, k_isStr_int, k_isStr_str, k_isStr_list, k_isStr_tuple, k_isStr_dict, lRg1, lRg2, lLc2, iEm, lSeq, lOf, lRet, lRetO, lDis, lIf, lFn, sApp, sFor_eq, sPar2P, lLc, and_self]
            exact ⟨b, 1, 2, rfl, xb, h⟩
          | false =>
            rw [h1] at h
            simp only [sSeq, sIf, sSet, sOwn, sRet, sRetN, sNext, sDis, sSetIx, sApp, sAsg, sPar, sPar2O, sPar3, wB, wOp, wVar, wC, wNil, wCons, pNil, pCons, pPen, wTup, lLst, wL, wCall, wChain, Vl.wAnd, Vl.wOr, Vl.wNot, wAndV, wOrV, wNotV, wIf, wNeg, wIsN, wIsa, wFn, wSl, oNo, oPt, lList, wRevL, wIxO, wEqE, gN, gsNil, gsCons, gT, iL, iT, iR1, iR2, iZp, iEn, wYes, wipeV, endV, startV, e_fII, e_addI, e_addT, e_addL, e_intI, e_intB, e_mulT, e_mulL, e_lenL, e_lenT, e_tupL, e_tupT, e_eqI, e_neI, e_eqB, e_neB, e_eqS, e_neS, e_ix0T, e_ix1T, e_ix2T, e_ix3T, e_ix4T, e_ix0L, e_ix1L, e_ix2L, List.length_cons, List.length_nil, List.replicate, List.cons_append, List.nil_append, List.getElem?_cons_zero, List.getElem?_cons_succ, List.set_cons_zero, List.set_cons_succ, Nat.reduceAdd, Nat.reduceSub, List.replicate_succ, List.replicate_zero, true_and, if_true, if_false, Bool.false_eq_true, reduceIte, Int.toNat_natCast, fGt, fLtI, fLe, fGe, wFn, startV_one, isIntStr, isTupList, Bool.not_true, Bool.not_false, k_isInt_none, k_isInt_bool, k_isInt_int, k_isInt_str, k_isInt_list, k_isInt_tuple, k_isInt_dict, k_isBool_none, k_isBool_bool, k_isBool_int, k_isBool_str, k_isBool_list, k_isBool_tuple, k_isBool_dict, k_isTuple_none, k_isTuple_bool, k_isTuple_int, k_isTuple_str, k_isTuple_list, k_isTuple_tuple, k_isTuple_dict, k_isList_none, k_isList_bool, k_isList_int, k_isList_str, k_isList_list, k_isList_tuple, k_isList_dict, k_isStr_none, k_isStr_bool, k_isStr_int, k_isStr_str, k_isStr_list, k_isStr_tuple, k_isStr_dict, lRg1, lRg2, lLc2, iEm, lSeq, lOf, lRet, lRetO, lDis, lIf, lFn, sApp, sFor_eq, sPar2P, lLc, and_self]
            exact h
        · simp only [sSeq, sIf, sSet, sOwn, sRet, sRetN, sNext, sDis, sSetIx, sApp, sAsg, sPar, sPar2O, sPar3, wB, wOp, wVar, wC, wNil, wCons, pNil, pCons, pPen, wTup, lLst, wL, wCall, wChain, Vl.wAnd, Vl.wOr, Vl.wNot, wAndV, wOrV, wNotV, wIf, wNeg, wIsN, wIsa, wFn, wSl, oNo, oPt, lList, wRevL, wIxO, wEqE, gN, gsNil, gsCons, gT, iL, iT, iR1, iR2, iZp, iEn, wYes, wipeV, endV, startV, e_fII, e_addI, e_addT, e_addL, e_intI, e_intB, e_mulT, e_mulL, e_lenL, e_lenT, e_tupL, e_tupT, e_eqI, e_neI, e_eqB, e_neB, e_eqS, e_neS, e_ix0T, e_ix1T, e_ix2T, e_ix3T, e_ix4T, e_ix0L, e_ix1L, e_ix2L, List.length_cons, List.length_nil, List.replicate, List.cons_append, List.nil_append, List.getElem?_cons_zero, List.getElem?_cons_succ, List.set_cons_zero, List.set_cons_succ, Nat.reduceAdd, Nat.reduceSub, List.replicate_succ, List.replicate_zero, true_and, if_true, if_false, Bool.false_eq_true, reduceIte, Int.toNat_natCast, fGt, fLtI, fLe, fGe, wFn, startV_one, isIntStr, isTupList, Bool.not_true, Bool.not_false, k_isInt_none, k_isInt_bool, k_isInt_int, k_isInt_str, k_isInt_list, k_isInt_tuple, k_isInt_dict, k_isBool_none, k_isBool_bool, k_isBool_int, k_isBool_str, k_isBool_list, k_isBool_tuple, k_isBool_dict, k_isTuple_none, k_isTuple_bool, k_isTuple_int, k_isTuple_str, k_isTuple_list, k_isTuple_tuple, k_isTuple_dict, k_isList_none, k_isList_bool, k_isList_int, k_isList_str, k_isList_list, k_isList_tuple, k_isList_dict, k_isStr_none, k_isStr_bool, k_isStr_int, k_isStr_str, k_isStr_list, k_isStr_tuple, k_isStr_dict, lRg1, lRg2, lLc2, iEm, lSeq, lOf, lRet, lRetO, lDis, lIf, lFn, sApp, sFor_eq, sPar2P, lLc, and_self]
          refine no ?_
          rw [Bool.or_eq_true, Bool.not_eq_true', Bool.not_eq_true'] at hb
          rcases hb with h | h <;> rw [h] <;> simp only [Bool.false_and, Bool.and_false]
        · rw [Bool.or_eq_false_iff, Bool.not_eq_false', Bool.not_eq_false'] at hb
          rw [hb.1, hb.2] at hR no
          simp only [sNext]
          subst h1
          refine seq_gen fun t1 h1 => ?_
          refine if_b (!(c.isStr && e.isStr && i.isStr)) (fun R h => ?_) (fun hc => ?_) (fun hc => ?_)
          · simp only [sSeq, sIf, sSet, sOwn, sRet, sRetN, sNext, sDis, sSetIx, sApp, sAsg, sPar, sPar2O, sPar3, wB, wOp, wVar, wC, wNil, wCons, pNil, pCons, pPen, wTup, lLst, wL, wCall, wChain, Vl.wAnd, Vl.wOr, Vl.wNot, wAndV, wOrV, wNotV, wIf, wNeg, wIsN, wIsa, wFn, wSl, oNo, oPt, lList, wRevL, wIxO, wEqE, gN, gsNil, gsCons, gT, iL, iT, iR1, iR2, iZp, iEn, wYes, wipeV, endV, startV, e_fII, e_addI, e_addT, e_addL, e_intI, e_intB, e_mulT, e_mulL, e_lenL, e_lenT, e_tupL, e_tupT, e_eqI, e_neI, e_eqB, e_neB, e_eqS, e_neS, e_ix0T, e_ix1T, e_ix2T, e_ix3T, e_ix4T, e_ix0L, e_ix1L, e_ix2L, List.length_cons, List.length_nil, List.replicate, List.cons_append, List.nil_append, List.getElem?_cons_zero, List.getElem?_cons_succ, List.set_cons_zero, List.set_cons_succ, Nat.reduceAdd, Nat.reduceSub, List.replicate_succ, List.replicate_zero, true_and, if_true, if_false, Bool.false_eq_true, reduceIte, Int.toNat_natCast, fGt, fLtI, fLe, fGe, wFn, startV_one, isIntStr, isTupList, Bool.not_true, Bool.not_false, k_isInt_none, k_isInt_bool, k_isInt_int, k_isInt_str, k_isInt_list, k_isInt_tuple, k_isInt_dict, k_isBool_none, k_isBool_bool, k_isBool_int, k_isBool_str, k_isBool_list, k_isBool_tuple, k_isBool_dict, k_isTuple_none, k_isTuple_bool, k_isTuple_int, k_isTuple_str, k_isTuple_list, k_isTuple_tuple, k_isTuple_dict, k_isList_none, k_isList_bool, k_isList_int, k_isList_str, k_isList_list, k_isList_tuple, k_isList_dict, k_isStr_none, k_isStr_bool, k_isStr_int, k_isStr_str, k_isStr_list, k_isStr_tuple, k_isStr_dict, lRg1, lRg2, lLc2, iEm, lSeq, lOf, lRet, lRetO, lDis, lIf, lFn, sApp, sFor_eq, sPar2P, lLc, and_self]
            rw [cut24, cut7]
            refine ⟨by show 2 + 1 ≤ 16777216; decide, by show 3 ≤ 16777216; decide, ?_⟩
            simp only [sSeq, sIf, sSet, sOwn, sRet, sRetN, sNext, sDis, sSetIx, sApp, sAsg, sPar, sPar2O, sPar3, wB, wOp, wVar, wC, wNil, wCons, pNil, pCons, pPen, wTup, lLst, wL, wCall, wChain, Vl.wAnd, Vl.wOr, Vl.wNot, wAndV, wOrV, wNotV, wIf, wNeg, wIsN, wIsa, wFn, wSl, oNo, oPt, lList, wRevL, wIxO, wEqE, gN, gsNil, gsCons, gT, iL, iT, iR1, iR2, iZp, iEn, wYes, wipeV, endV, startV, e_fII, e_addI, e_addT, e_addL, e_intI, e_intB, e_mulT, e_mulL, e_lenL, e_lenT, e_tupL, e_tupT, e_eqI, e_neI, e_eqB, e_neB, e_eqS, e_neS, e_ix0T, e_ix1T, e_ix2T, e_ix3T, e_ix4T, e_ix0L, e_ix1L, e_ix2L, List.length_cons, List.length_nil, List.replicate, List.cons_append, List.nil_append, List.getElem?_cons_zero, List.getElem?_cons_succ, List.set_cons_zero, List.set_cons_succ, Nat.reduceAdd, Nat.reduceSub, List.replicate_succ, List.replicate_zero, true_and, if_true, if_false, Bool.false_eq_true, reduceIte, Int.toNat_natCast, fGt, fLtI, fLe, fGe, wFn, startV_one, isIntStr, isTupList, Bool.not_true, Bool.not_false, k_isInt_none, k_isInt_bool, k_isInt_int, k_isInt_str, k_isInt_list, k_isInt_tuple, k_isInt_dict, k_isBool_none, k_isBool_bool, k_isBool_int, k_isBool_str, k_isBool_list, k_isBool_tuple, k_isBool_dict, k_isTuple_none, k_isTuple_bool, k_isTuple_int, k_isTuple_str, k_isTuple_list, k_isTuple_tuple, k_isTuple_dict, k_isList_none, k_isList_bool, k_isList_int, k_isList_str, k_isList_list, k_isList_tuple, k_isList_dict, k_isStr_none, k_isStr_bool, k_isStr_int, k_isStr_str, k_isStr_list, k_isStr_tuple, k_isStr_dict, lRg1, lRg2, lLc2, iEm, lSeq, lOf, lRet, lRetO, lDis, lIf, lFn, sApp, sFor_eq, sPar2P, lLc, and_self, lcV, wipeV, List.map_cons, List.map_nil]
            refine ⟨xc, xe, xi, in_ff ?_⟩
            simp only [sSeq, sIf, sSet, sOwn, sRet, sRetN, sNext, sDis, sSetIx, sApp, sAsg, sPar, sPar2O, sPar3, wB, wOp, wVar, wC, wNil, wCons, pNil, pCons, pPen, wTup, lLst, wL, wCall, wChain, Vl.wAnd, Vl.wOr, Vl.wNot, wAndV, wOrV, wNotV, wIf, wNeg, wIsN, wIsa, wFn, wSl, oNo, oPt, lList, wRevL, wIxO, wEqE, gN, gsNil, gsCons, gT, iL, iT, iR1, iR2, iZp, iEn, wYes, wipeV, endV, startV, e_fII, e_addI, e_addT, e_addL, e_intI, e_intB, e_mulT, e_mulL, e_lenL, e_lenT, e_tupL, e_tupT, e_eqI, e_neI, e_eqB, e_neB, e_eqS, e_neS, e_ix0T, e_ix1T, e_ix2T, e_ix3T, e_ix4T, e_ix0L, e_ix1L, e_ix2L, List.length_cons, List.length_nil, List.replicate, List.cons_append, List.nil_append, List.getElem?_cons_zero, List.getElem?_cons_succ, List.set_cons_zero, List.set_cons_succ, Nat.reduceAdd, Nat.reduceSub, List.replicate_succ, List.replicate_zero, true_and, if_true, if_false, Bool.false_eq_true, reduceIte, Int.toNat_natCast, fGt, fLtI, fLe, fGe, wFn, startV_one, isIntStr, isTupList, Bool.not_true, Bool.not_false, k_isInt_none, k_isInt_bool, k_isInt_int, k_isInt_str, k_isInt_list, k_isInt_tuple, k_isInt_dict, k_isBool_none, k_isBool_bool, k_isBool_int, k_isBool_str, k_isBool_list, k_isBool_tuple, k_isBool_dict, k_isTuple_none, k_isTuple_bool, k_isTuple_int, k_isTuple_str, k_isTuple_list, k_isTuple_tuple, k_isTuple_dict, k_isList_none, k_isList_bool, k_isList_int, k_isList_str, k_isList_list, k_isList_tuple, k_isList_dict, k_isStr_none, k_isStr_bool, k_isStr_int, k_isStr_str, k_isStr_list, k_isStr_tuple, k_isStr_dict, lRg1, lRg2, lLc2, iEm, lSeq, lOf, lRet, lRetO, lDis, lIf, lFn, sApp, sFor_eq, sPar2P, lLc, and_self]
            exact h
          · simp only [sSeq, sIf, sSet, sOwn, sRet, sRetN, sNext, sDis, sSetIx, sApp, sAsg, sPar, sPar2O, sPar3, wB, wOp, wVar, wC, wNil, wCons, pNil, pCons, pPen, wTup, lLst, wL, wCall, wChain, Vl.wAnd, Vl.wOr, Vl.wNot, wAndV, wOrV, wNotV, wIf, wNeg, wIsN, wIsa, wFn, wSl, oNo, oPt, lList, wRevL, wIxO, wEqE, gN, gsNil, gsCons, gT, iL, iT, iR1, iR2, iZp, iEn, wYes, wipeV, endV, startV, e_fII, e_addI, e_addT, e_addL, e_intI, e_intB, e_mulT, e_mulL, e_lenL, e_lenT, e_tupL, e_tupT, e_eqI, e_neI, e_eqB, e_neB, e_eqS, e_neS, e_ix0T, e_ix1T, e_ix2T, e_ix3T, e_ix4T, e_ix0L, e_ix1L, e_ix2L, List.length_cons, List.length_nil, List.replicate, List.cons_append, List.nil_append, List.getElem?_cons_zero, List.getElem?_cons_succ, List.set_cons_zero, List.set_cons_succ, Nat.reduceAdd, Nat.reduceSub, List.replicate_succ, List.replicate_zero, true_and, if_true, if_false, Bool.false_eq_true, reduceIte, Int.toNat_natCast, fGt, fLtI, fLe, fGe, wFn, startV_one, isIntStr, isTupList, Bool.not_true, Bool.not_false, k_isInt_none, k_isInt_bool, k_isInt_int, k_isInt_str, k_isInt_list, k_isInt_tuple, k_isInt_dict, k_isBool_none, k_isBool_bool, k_isBool_int, k_isBool_str, k_isBool_list, k_isBool_tuple, k_isBool_dict, k_isTuple_none, k_isTuple_bool, k_isTuple_int, k_isTuple_str, k_isTuple_list, k_isTuple_tuple, k_isTuple_dict, k_isList_none, k_isList_bool, k_isList_int, k_isList_str, k_isList_list, k_isList_tuple, k_isList_dict, k_isStr_none, k_isStr_bool, k_isStr_int, k_isStr_str, k_isStr_list, k_isStr_tuple, k_isStr_dict, lRg1, lRg2, lLc2, iEm, lSeq, lOf, lRet, lRetO, lDis, lIf, lFn, sApp, sFor_eq, sPar2P, lLc, and_self]
            refine no ?_
            rw [Bool.not_eq_true'] at hc
            cases hsc : isSn c with
            | false => simp only [Bool.false_and, Bool.and_false]
            | true =>
              cases hse : isSn e with
              | false => simp only [Bool.false_and, Bool.and_false]
              | true =>
                cases hai : isAn i with
                | false => simp only [Bool.and_false]
                | true =>
                  rw [sn_str hsc, sn_str hse, an_str hai] at hc
                  cases hc
          · simp only [sNext]
            subst h1
            refine seq_gen fun t1 h1 => ?_
            refine if_b (!(f.isBool && g1.isBool && h.isBool)) (fun R h => ?_) (fun hd => ?_) (fun hd => ?_)
            · simp only [sSeq, sIf, sSet, sOwn, sRet, sRetN, sNext, sDis, sSetIx, sApp, sAsg, sPar, sPar2O, sPar3, wB, wOp, wVar, wC, wNil, wCons, pNil, pCons, pPen, wTup, lLst, wL, wCall, wChain, Vl.wAnd, Vl.wOr, Vl.wNot, wAndV, wOrV, wNotV, wIf, wNeg, wIsN, wIsa, wFn, wSl, oNo, oPt, lList, wRevL, wIxO, wEqE, gN, gsNil, gsCons, gT, iL, iT, iR1, iR2, iZp, iEn, wYes, wipeV, endV, startV, e_fII, e_addI, e_addT, e_addL, e_intI, e_intB, e_mulT, e_mulL, e_lenL, e_lenT, e_tupL, e_tupT, e_eqI, e_neI, e_eqB, e_neB, e_eqS, e_neS, e_ix0T, e_ix1T, e_ix2T, e_ix3T, e_ix4T, e_ix0L, e_ix1L, e_ix2L, List.length_cons, List.length_nil, List.replicate, List.cons_append, List.nil_append, List.getElem?_cons_zero, List.getElem?_cons_succ, List.set_cons_zero, List.set_cons_succ, Nat.reduceAdd, Nat.reduceSub, List.replicate_succ, List.replicate_zero, true_and, if_true, if_false, Bool.false_eq_true, reduceIte, Int.toNat_natCast, fGt, fLtI, fLe, fGe, wFn, startV_one, isIntStr, isTupList, Bool.not_true, Bool.not_false, k_isInt_none, k_isInt_bool, k_isInt_int, k_isInt_str, k_isInt_list, k_isInt_tuple, k_isInt_dict, k_isBool_none, k_isBool_bool, k_isBool_int, k_isBool_str, k_isBool_list, k_isBool_tuple, k_isBool_dict, k_isTuple_none, k_isTuple_bool, k_isTuple_int, k_isTuple_str, k_isTuple_list, k_isTuple_tuple, k_isTuple_dict, k_isList_none, k_isList_bool, k_isList_int, k_isList_str, k_isList_list, k_isList_tuple, k_isList_dict, k_isStr_none, k_isStr_bool, k_isStr_int, k_isStr_str, k_isStr_list, k_isStr_tuple, k_isStr_dict, lRg1, lRg2, lLc2, iEm, lSeq, lOf, lRet, lRetO, lDis, lIf, lFn, sApp, sFor_eq, sPar2P, lLc, and_self]
              rw [cut47]
              refine ⟨by show 3 ≤ 16777216; decide, ?_⟩
              simp only [sSeq, sIf, sSet, sOwn, sRet, sRetN, sNext, sDis, sSetIx, sApp, sAsg, sPar, sPar2O, sPar3, wB, wOp, wVar, wC, wNil, wCons, pNil, pCons, pPen, wTup, lLst, wL, wCall, wChain, Vl.wAnd, Vl.wOr, Vl.wNot, wAndV, wOrV, wNotV, wIf, wNeg, wIsN, wIsa, wFn, wSl, oNo, oPt, lList, wRevL, wIxO, wEqE, gN, gsNil, gsCons, gT, iL, iT, iR1, iR2, iZp, iEn, wYes, wipeV, endV, startV, e_fII, e_addI, e_addT, e_addL, e_intI, e_intB, e_mulT, e_mulL, e_lenL, e_lenT, e_tupL, e_tupT, e_eqI, e_neI, e_eqB, e_neB, e_eqS, e_neS, e_ix0T, e_ix1T, e_ix2T, e_ix3T, e_ix4T, e_ix0L, e_ix1L, e_ix2L, List.length_cons, List.length_nil, List.replicate, List.cons_append, List.nil_append, List.getElem?_cons_zero, List.getElem?_cons_succ, List.set_cons_zero, List.set_cons_succ, Nat.reduceAdd, Nat.reduceSub, List.replicate_succ, List.replicate_zero, true_and, if_true, if_false, Bool.false_eq_true, reduceIte, Int.toNat_natCast, fGt, fLtI, fLe, fGe, wFn, startV_one, isIntStr, isTupList, Bool.not_true, Bool.not_false, k_isInt_none, k_isInt_bool, k_isInt_int, k_isInt_str, k_isInt_list, k_isInt_tuple, k_isInt_dict, k_isBool_none, k_isBool_bool, k_isBool_int, k_isBool_str, k_isBool_list, k_isBool_tuple, k_isBool_dict, k_isTuple_none, k_isTuple_bool, k_isTuple_int, k_isTuple_str, k_isTuple_list, k_isTuple_tuple, k_isTuple_dict, k_isList_none, k_isList_bool, k_isList_int, k_isList_str, k_isList_list, k_isList_tuple, k_isList_dict, k_isStr_none, k_isStr_bool, k_isStr_int, k_isStr_str, k_isStr_list, k_isStr_tuple, k_isStr_dict, lRg1, lRg2, lLc2, iEm, lSeq, lOf, lRet, lRetO, lDis, lIf, lFn, sApp, sFor_eq, sPar2P, lLc, and_self, lcV, wipeV, List.map_cons, List.map_nil]
              refine ⟨xf, xg, xh, in_ff ?_⟩
              simp only [sSeq, sIf, sSet, sOwn, sRet, sRetN, sNext, sDis, sSetIx, sApp, sAsg, sPar, sPar2O, sPar3, wB, wOp, wVar, wC, wNil, wCons, pNil, pCons, pPen, wTup, lLst, wL, wCall, wChain, Vl.wAnd, Vl.wOr, Vl.wNot, wAndV, wOrV, wNotV, wIf, wNeg, wIsN, wIsa, wFn, wSl, oNo, oPt, lList, wRevL, wIxO, wEqE, gN, gsNil, gsCons, gT, iL, iT, iR1, iR2, iZp, iEn, wYes, wipeV, endV, startV, e_fII, e_addI, e_addT, e_addL, e_intI, e_intB, e_mulT, e_mulL, e_lenL, e_lenT, e_tupL, e_tupT, e_eqI, e_neI, e_eqB, e_neB, e_eqS, e_neS, e_ix0T, e_ix1T, e_ix2T, e_ix3T, e_ix4T, e_ix0L, e_ix1L, e_ix2L, List.length_cons, List.length_nil, List.replicate, List.cons_append, List.nil_append, List.getElem?_cons_zero, List.getElem?_cons_succ, List.set_cons_zero, List.set_cons_succ, Nat.reduceAdd, Nat.reduceSub, List.replicate_succ, List.replicate_zero, true_and, if_true, if_false, Bool.false_eq_true, reduceIte, Int.toNat_natCast, fGt, fLtI, fLe, fGe, wFn, startV_one, isIntStr, isTupList, Bool.not_true, Bool.not_false, k_isInt_none, k_isInt_bool, k_isInt_int, k_isInt_str, k_isInt_list, k_isInt_tuple, k_isInt_dict, k_isBool_none, k_isBool_bool, k_isBool_int, k_isBool_str, k_isBool_list, k_isBool_tuple, k_isBool_dict, k_isTuple_none, k_isTuple_bool, k_isTuple_int, k_isTuple_str, k_isTuple_list, k_isTuple_tuple, k_isTuple_dict, k_isList_none, k_isList_bool, k_isList_int, k_isList_str, k_isList_list, k_isList_tuple, k_isList_dict, k_isStr_none, k_isStr_bool, k_isStr_int, k_isStr_str, k_isStr_list, k_isStr_tuple, k_isStr_dict, lRg1, lRg2, lLc2, iEm, lSeq, lOf, lRet, lRetO, lDis, lIf, lFn, sApp, sFor_eq, sPar2P, lLc, and_self]
              exact h
            · simp only [sSeq, sIf, sSet, sOwn, sRet, sRetN, sNext, sDis, sSetIx, sApp, sAsg, sPar, sPar2O, sPar3, wB, wOp, wVar, wC, wNil, wCons, pNil, pCons, pPen, wTup, lLst, wL, wCall, wChain, Vl.wAnd, Vl.wOr, Vl.wNot, wAndV, wOrV, wNotV, wIf, wNeg, wIsN, wIsa, wFn, wSl, oNo, oPt, lList, wRevL, wIxO, wEqE, gN, gsNil, gsCons, gT, iL, iT, iR1, iR2, iZp, iEn, wYes, wipeV, endV, startV, e_fII, e_addI, e_addT, e_addL, e_intI, e_intB, e_mulT, e_mulL, e_lenL, e_lenT, e_tupL, e_tupT, e_eqI, e_neI, e_eqB, e_neB, e_eqS, e_neS, e_ix0T, e_ix1T, e_ix2T, e_ix3T, e_ix4T, e_ix0L, e_ix1L, e_ix2L, List.length_cons, List.length_nil, List.replicate, List.cons_append, List.nil_append, List.getElem?_cons_zero, List.getElem?_cons_succ, List.set_cons_zero, List.set_cons_succ, Nat.reduceAdd, Nat.reduceSub, List.replicate_succ, List.replicate_zero, true_and, if_true, if_false, Bool.false_eq_true, reduceIte, Int.toNat_natCast, fGt, fLtI, fLe, fGe, wFn, startV_one, isIntStr, isTupList, Bool.not_true, Bool.not_false, k_isInt_none, k_isInt_bool, k_isInt_int, k_isInt_str, k_isInt_list, k_isInt_tuple, k_isInt_dict, k_isBool_none, k_isBool_bool, k_isBool_int, k_isBool_str, k_isBool_list, k_isBool_tuple, k_isBool_dict, k_isTuple_none, k_isTuple_bool, k_isTuple_int, k_isTuple_str, k_isTuple_list, k_isTuple_tuple, k_isTuple_dict, k_isList_none, k_isList_bool, k_isList_int, k_isList_str, k_isList_list, k_isList_tuple, k_isList_dict, k_isStr_none, k_isStr_bool, k_isStr_int, k_isStr_str, k_isStr_list, k_isStr_tuple, k_isStr_dict, lRg1, lRg2, lLc2, iEm, lSeq, lOf, lRet, lRetO, lDis, lIf, lFn, sApp, sFor_eq, sPar2P, lLc, and_self]
              refine no ?_
              rw [Bool.not_eq_true'] at hd
              rw [hd]
              simp only [Bool.false_and, Bool.and_false]
            · rw [Bool.not_eq_false'] at hd
              rw [hd] at hR
              subst h1
              simp only [sSeq, sIf, sSet, sOwn, sRet, sRetN, sNext, sDis, sSetIx, sApp, sAsg, sPar, sPar2O, sPar3, wB, wOp, wVar, wC, wNil, wCons, pNil, pCons, pPen, wTup, lLst, wL, wCall, wChain, Vl.wAnd, Vl.wOr, Vl.wNot, wAndV, wOrV, wNotV, wIf, wNeg, wIsN, wIsa, wFn, wSl, oNo, oPt, lList, wRevL, wIxO, wEqE, gN, gsNil, gsCons, gT, iL, iT, iR1, iR2, iZp, iEn, wYes, wipeV, endV, startV, e_fII, e_addI, e_addT, e_addL, e_intI, e_intB, e_mulT, e_mulL, e_lenL, e_lenT, e_tupL, e_tupT, e_eqI, e_neI, e_eqB, e_neB, e_eqS, e_neS, e_ix0T, e_ix1T, e_ix2T, e_ix3T, e_ix4T, e_ix0L, e_ix1L, e_ix2L, List.length_cons, List.length_nil, List.replicate, List.cons_append, List.nil_append, List.getElem?_cons_zero, List.getElem?_cons_succ, List.set_cons_zero, List.set_cons_succ, Nat.reduceAdd, Nat.reduceSub, List.replicate_succ, List.replicate_zero, true_and, if_true, if_false, Bool.false_eq_true, reduceIte, Int.toNat_natCast, fGt, fLtI, fLe, fGe, wFn, startV_one, isIntStr, isTupList, Bool.not_true, Bool.not_false, k_isInt_none, k_isInt_bool, k_isInt_int, k_isInt_str, k_isInt_list, k_isInt_tuple, k_isInt_dict, k_isBool_none, k_isBool_bool, k_isBool_int, k_isBool_str, k_isBool_list, k_isBool_tuple, k_isBool_dict, k_isTuple_none, k_isTuple_bool, k_isTuple_int, k_isTuple_str, k_isTuple_list, k_isTuple_tuple, k_isTuple_dict, k_isList_none, k_isList_bool, k_isList_int, k_isList_str, k_isList_list, k_isList_tuple, k_isList_dict, k_isStr_none, k_isStr_bool, k_isStr_int, k_isStr_str, k_isStr_list, k_isStr_tuple, k_isStr_dict, lRg1, lRg2, lLc2, iEm, lSeq, lOf, lRet, lRetO, lDis, lIf, lFn, sApp, sFor_eq, sPar2P, lLc, and_self]
              refine ⟨by decide, in_snL xc ?_⟩
              cases hsc : isSn c with
              | false =>
                rw [hsc] at hR
                simp only [sSeq, sIf, sSet, sOwn, sRet, sRetN, sNext, sDis, sSetIx, sApp, sAsg, sPar, sPar2O, sPar3, wB, wOp, wVar, wC, wNil, wCons, pNil, pCons, pPen, wTup, lLst, wL, wCall, wChain, Vl.wAnd, Vl.wOr, Vl.wNot, wAndV, wOrV, wNotV, wIf, wNeg, wIsN, wIsa, wFn, wSl, oNo, oPt, lList, wRevL, wIxO, wEqE, gN, gsNil, gsCons, gT, iL, iT, iR1, iR2, iZp, iEn, wYes, wipeV, endV, startV, e_fII, e_addI, e_addT, e_addL, e_intI, e_intB, e_mulT, e_mulL, e_lenL, e_lenT, e_tupL, e_tupT, e_eqI, e_neI, e_eqB, e_neB, e_eqS, e_neS, e_ix0T, e_ix1T, e_ix2T, e_ix3T, e_ix4T, e_ix0L, e_ix1L, e_ix2L, List.length_cons, List.length_nil, List.replicate, List.cons_append, List.nil_append, List.getElem?_cons_zero, List.getElem?_cons_succ, List.set_cons_zero, List.set_cons_succ, Nat.reduceAdd, Nat.reduceSub, List.replicate_succ, List.replicate_zero, true_and, if_true, if_false, Bool.false_eq_true, reduceIte, Int.toNat_natCast, fGt, fLtI, fLe, fGe, wFn, startV_one, isIntStr, isTupList, Bool.not_true, Bool.not_false, k_isInt_none, k_isInt_bool, k_isInt_int, k_isInt_str, k_isInt_list, k_isInt_tuple, k_isInt_dict, k_isBool_none, k_isBool_bool, k_isBool_int, k_isBool_str, k_isBool_list, k_isBool_tuple, k_isBool_dict, k_isTuple_none, k_isTuple_bool, k_isTuple_int, k_isTuple_str, k_isTuple_list, k_isTuple_tuple, k_isTuple_dict, k_isList_none, k_isList_bool, k_isList_int, k_isList_str, k_isList_list, k_isList_tuple, k_isList_dict, k_isStr_none, k_isStr_bool, k_isStr_int, k_isStr_str, k_isStr_list, k_isStr_tuple, k_isStr_dict, lRg1, lRg2, lLc2, iEm, lSeq, lOf, lRet, lRetO, lDis, lIf, lFn, sApp, sFor_eq, sPar2P, lLc, and_self]
                exact ⟨g, Nat.le_refl _, hR⟩
              | true =>
                rw [hsc] at hR
                simp only [sSeq, sIf, sSet, sOwn, sRet, sRetN, sNext, sDis, sSetIx, sApp, sAsg, sPar, sPar2O, sPar3, wB, wOp, wVar, wC, wNil, wCons, pNil, pCons, pPen, wTup, lLst, wL, wCall, wChain, Vl.wAnd, Vl.wOr, Vl.wNot, wAndV, wOrV, wNotV, wIf, wNeg, wIsN, wIsa, wFn, wSl, oNo, oPt, lList, wRevL, wIxO, wEqE, gN, gsNil, gsCons, gT, iL, iT, iR1, iR2, iZp, iEn, wYes, wipeV, endV, startV, e_fII, e_addI, e_addT, e_addL, e_intI, e_intB, e_mulT, e_mulL, e_lenL, e_lenT, e_tupL, e_tupT, e_eqI, e_neI, e_eqB, e_neB, e_eqS, e_neS, e_ix0T, e_ix1T, e_ix2T, e_ix3T, e_ix4T, e_ix0L, e_ix1L, e_ix2L, List.length_cons, List.length_nil, List.replicate, List.cons_append, List.nil_append, List.getElem?_cons_zero, List.getElem?_cons_succ, List.set_cons_zero, List.set_cons_succ, Nat.reduceAdd, Nat.reduceSub, List.replicate_succ, List.replicate_zero, true_and, if_true, if_false, Bool.false_eq_true, reduceIte, Int.toNat_natCast, fGt, fLtI, fLe, fGe, wFn, startV_one, isIntStr, isTupList, Bool.not_true, Bool.not_false, k_isInt_none, k_isInt_bool, k_isInt_int, k_isInt_str, k_isInt_list, k_isInt_tuple, k_isInt_dict, k_isBool_none, k_isBool_bool, k_isBool_int, k_isBool_str, k_isBool_list, k_isBool_tuple, k_isBool_dict, k_isTuple_none, k_isTuple_bool, k_isTuple_int, k_isTuple_str, k_isTuple_list, k_isTuple_tuple, k_isTuple_dict, k_isList_none, k_isList_bool, k_isList_int, k_isList_str, k_isList_list, k_isList_tuple, k_isList_dict, k_isStr_none, k_isStr_bool, k_isStr_int, k_isStr_str, k_isStr_list, k_isStr_tuple, k_isStr_dict, lRg1, lRg2, lLc2, iEm, lSeq, lOf, lRet, lRetO, lDis, lIf, lFn, sApp, sFor_eq, sPar2P, lLc, and_self]
                refine in_snL xe ?_
                cases hse : isSn e with
                | false =>
                  rw [hse] at hR
                  simp only [sSeq, sIf, sSet, sOwn, sRet, sRetN, sNext, sDis, sSetIx, sApp, sAsg, sPar, sPar2O, sPar3, wB, wOp, wVar, wC, wNil, wCons, pNil, pCons, pPen, wTup, lLst, wL, wCall, wChain, Vl.wAnd, Vl.wOr, Vl.wNot, wAndV, wOrV, wNotV, wIf, wNeg, wIsN, wIsa, wFn, wSl, oNo, oPt, lList, wRevL, wIxO, wEqE, gN, gsNil, gsCons, gT, iL, iT, iR1, iR2, iZp, iEn, wYes, wipeV, endV, startV, e_fII, e_addI, e_addT, e_addL, e_intI, e_intB, e_mulT, e_mulL, e_lenL, e_lenT, e_tupL, e_tupT, e_eqI, e_neI, e_eqB, e_neB, e_eqS, e_neS, e_ix0T, e_ix1T, e_ix2T, e_ix3T, e_ix4T, e_ix0L, e_ix1L, e_ix2L, List.length_cons, List.length_nil, List.replicate, List.cons_append, List.nil_append, List.getElem?_cons_zero, List.getElem?_cons_succ, List.set_cons_zero, List.set_cons_succ, Nat.reduceAdd, Nat.reduceSub, List.replicate_succ, List.replicate_zero, true_and, if_true, if_false, Bool.false_eq_true, reduceIte, Int.toNat_natCast, fGt, fLtI, fLe, fGe, wFn, startV_one, isIntStr, isTupList, Bool.not_true, Bool.not_false, k_isInt_none, k_isInt_bool, k_isInt_int, k_isInt_str, k_isInt_list, k_isInt_tuple, k_isInt_dict, k_isBool_none, k_isBool_bool, k_isBool_int, k_isBool_str, k_isBool_list, k_isBool_tuple, k_isBool_dict, k_isTuple_none, k_isTuple_bool, k_isTuple_int, k_isTuple_str, k_isTuple_list, k_isTuple_tuple, k_isTuple_dict, k_isList_none, k_isList_bool, k_isList_int, k_isList_str, k_isList_list, k_isList_tuple, k_isList_dict, k_isStr_none, k_isStr_bool, k_isStr_int, k_isStr_str, k_isStr_list, k_isStr_tuple, k_isStr_dict, lRg1, lRg2, lLc2, iEm, lSeq, lOf, lRet, lRetO, lDis, lIf, lFn, sApp, sFor_eq, sPar2P, lLc, and_self]
                  exact ⟨g, Nat.le_refl _, hR⟩
                | true =>
                  rw [hse] at hR
                  simp only [sSeq, sIf, sSet, sOwn, sRet, sRetN, sNext, sDis, sSetIx, sApp, sAsg, sPar, sPar2O, sPar3, wB, wOp, wVar, wC, wNil, wCons, pNil, pCons, pPen, wTup, lLst, wL, wCall, wChain, Vl.wAnd, Vl.wOr, Vl.wNot, wAndV, wOrV, wNotV, wIf, wNeg, wIsN, wIsa, wFn, wSl, oNo, oPt, lList, wRevL, wIxO, wEqE, gN, gsNil, gsCons, gT, iL, iT, iR1, iR2, iZp, iEn, wYes, wipeV, endV, startV, e_fII, e_addI, e_addT, e_addL, e_intI, e_intB, e_mulT, e_mulL, e_lenL, e_lenT, e_tupL, e_tupT, e_eqI, e_neI, e_eqB, e_neB, e_eqS, e_neS, e_ix0T, e_ix1T, e_ix2T, e_ix3T, e_ix4T, e_ix0L, e_ix1L, e_ix2L, List.length_cons, List.length_nil, List.replicate, List.cons_append, List.nil_append, List.getElem?_cons_zero, List.getElem?_cons_succ, List.set_cons_zero, List.set_cons_succ, Nat.reduceAdd, Nat.reduceSub, List.replicate_succ, List.replicate_zero, true_and, if_true, if_false, Bool.false_eq_true, reduceIte, Int.toNat_natCast, fGt, fLtI, fLe, fGe, wFn, startV_one, isIntStr, isTupList, Bool.not_true, Bool.not_false, k_isInt_none, k_isInt_bool, k_isInt_int, k_isInt_str, k_isInt_list, k_isInt_tuple, k_isInt_dict, k_isBool_none, k_isBool_bool, k_isBool_int, k_isBool_str, k_isBool_list, k_isBool_tuple, k_isBool_dict, k_isTuple_none, k_isTuple_bool, k_isTuple_int, k_isTuple_str, k_isTuple_list, k_isTuple_tuple, k_isTuple_dict, k_isList_none, k_isList_bool, k_isList_int, k_isList_str, k_isList_list, k_isList_tuple, k_isList_dict, k_isStr_none, k_isStr_bool, k_isStr_int, k_isStr_str, k_isStr_list, k_isStr_tuple, k_isStr_dict, lRg1, lRg2, lLc2, iEm, lSeq, lOf, lRet, lRetO, lDis, lIf, lFn, sApp, sFor_eq, sPar2P, lLc, and_self]
                  rw [e_ix7T]
                  exact ⟨by decide, in_anL xi ⟨g, Nat.le_refl _, hR⟩⟩
    · rw [planB_no hn] at hR
      refine if_b true (fun R h => ?_) (fun hb => ?_) (fun hb => nomatch hb)
      · cases d <;> simp only [startV, sSeq, sIf, sSet, sOwn, sRet, sRetN, sNext, sDis, sSetIx, sApp, sAsg, sPar, sPar2O, sPar3, wB, wOp, wVar, wC, wNil, wCons, pNil, pCons, pPen, wTup, lLst, wL, wCall, wChain, Vl.wAnd, Vl.wOr, Vl.wNot, wAndV, wOrV, wNotV, wIf, wNeg, wIsN, wIsa, wFn, wSl, oNo, oPt, lList, wRevL, wIxO, wEqE, gN, gsNil, gsCons, gT, iL, iT, iR1, iR2, iZp, iEn, wYes, wipeV, endV, startV, e_fII, e_addI, e_addT, e_addL, e_intI, e_intB, e_mulT, e_mulL, e_lenL, e_lenT, e_tupL, e_tupT, e_eqI, e_neI, e_eqB, e_neB, e_eqS, e_neS, e_ix0T, e_ix1T, e_ix2T, e_ix3T, e_ix4T, e_ix0L, e_ix1L, e_ix2L, List.length_cons, List.length_nil, List.replicate, List.cons_append, List.nil_append, List.getElem?_cons_zero, List.getElem?_cons_succ, List.set_cons_zero, List.set_cons_succ, Nat.reduceAdd, Nat.reduceSub, List.replicate_succ, List.replicate_zero, true_and, if_true, if_false, Bool.false_eq_true, reduceIte, Int.toNat_natCast, fGt, fLtI, fLe, fGe, wFn, startV_one, isIntStr, isTupList, Bool.not_true, Bool.not_false, k_isInt_none, k_isInt_bool, k_isInt_int, k_isInt_str, k_isInt_list, k_isInt_tuple, k_isInt_dict, k_isBool_none, k_isBool_bool, k_isBool_int, k_isBool_str, k_isBool_list, k_isBool_tuple, k_isBool_dict, k_isTuple_none, k_isTuple_bool, k_isTuple_int, k_isTuple_str, k_isTuple_list, k_isTuple_tuple, k_isTuple_dict, k_isList_none, k_isList_bool, k_isList_int, k_isList_str, k_isList_list, k_isList_tuple, k_isList_dict, k_isStr_none, k_isStr_bool, k_isStr_int, k_isStr_str, k_isStr_list, k_isStr_tuple, k_isStr_dict, lRg1, lRg2, lLc2, iEm, lSeq, lOf, lRet, lRetO, lDis, lIf, lFn, sApp, sFor_eq, sPar2P, lLc, and_self]
        all_goals first | exact ⟨rfl, h⟩ | exact ⟨hx, h⟩ | skip
        simp only [isT] at hn
        refine ⟨hx, ?_⟩
        rw [hn]
        exact h
      · simp only [sSeq, sIf, sSet, sOwn, sRet, sRetN, sNext, sDis, sSetIx, sApp, sAsg, sPar, sPar2O, sPar3, wB, wOp, wVar, wC, wNil, wCons, pNil, pCons, pPen, wTup, lLst, wL, wCall, wChain, Vl.wAnd, Vl.wOr, Vl.wNot, wAndV, wOrV, wNotV, wIf, wNeg, wIsN, wIsa, wFn, wSl, oNo, oPt, lList, wRevL, wIxO, wEqE, gN, gsNil, gsCons, gT, iL, iT, iR1, iR2, iZp, iEn, wYes, wipeV, endV, startV, e_fII, e_addI, e_addT, e_addL, e_intI, e_intB, e_mulT, e_mulL, e_lenL, e_lenT, e_tupL, e_tupT, e_eqI, e_neI, e_eqB, e_neB, e_eqS, e_neS, e_ix0T, e_ix1T, e_ix2T, e_ix3T, e_ix4T, e_ix0L, e_ix1L, e_ix2L, List.length_cons, List.length_nil, List.replicate, List.cons_append, List.nil_append, List.getElem?_cons_zero, List.getElem?_cons_succ, List.set_cons_zero, List.set_cons_succ, Nat.reduceAdd, Nat.reduceSub, List.replicate_succ, List.replicate_zero, true_and, if_true, if_false, Bool.false_eq_true, reduceIte, Int.toNat_natCast, fGt, fLtI, fLe, fGe, wFn, startV_one, isIntStr, isTupList, Bool.not_true, Bool.not_false, k_isInt_none, k_isInt_bool, k_isInt_int, k_isInt_str, k_isInt_list, k_isInt_tuple, k_isInt_dict, k_isBool_none, k_isBool_bool, k_isBool_int, k_isBool_str, k_isBool_list, k_isBool_tuple, k_isBool_dict, k_isTuple_none, k_isTuple_bool, k_isTuple_int, k_isTuple_str, k_isTuple_list, k_isTuple_tuple, k_isTuple_dict, k_isList_none, k_isList_bool, k_isList_int, k_isList_str, k_isList_list, k_isList_tuple, k_isList_dict, k_isStr_none, k_isStr_bool, k_isStr_int, k_isStr_str, k_isStr_list, k_isStr_tuple, k_isStr_dict, lRg1, lRg2, lLc2, iEm, lSeq, lOf, lRet, lRetO, lDis, lIf, lFn, sApp, sFor_eq, sPar2P, lLc, and_self]
        exact ⟨g, Nat.le_refl _, hR⟩

abbrev sends3 : List PyData := [.str "all", .str "either", .str "now"]
abbrev bools2 : List PyData := [.bool false, .bool true]
def itemP (l t : Int) (an : Str) (c p x y z : PyData) : PyData := .tuple [.int l, .int t, c, p, x, y, z, .str an]
def allP (l t : Int) (an : Str) : List PyData := sends3.flatMap fun c => sends3.flatMap fun p => bools2.flatMap fun x => bools2.flatMap fun y => bools2.flatMap fun z => [itemP l t an c p x y z]
def spAp : VSpL := fun as g R => ∃ (l t : Int) (an : Str), as = [.val (.int l), .val (.int t), .val (.str an)] ∧ R (allP l t an) g
theorem ok_all_plans (B : Bi mg) (GC : Gs K mg)  (D : Df K mg "all_plans" s_all_plans ["lanes", "late", "anew"]) : CkL P w K mg base "all_plans" ["lanes", "late", "anew"] 1 spAp := by
  refine ckl_v D sc_all_plans (fun as g R h => ?_) (fun f cdv A outer s H E hr => (vsl_one (vsl_ret (vl_lc5 (vs1 := [4, 5, 6, 7]) (vs2 := [5, 6, 7]) (vs3 := [6, 7]) (vs4 := [7]) rfl sc_all_plans.nd (vi_tup (v_glob GC.c_SENDINGS (by rfl))) (blkOk_by (own := [("children", 3), ("parents", 4), ("tells_value", 5), ("tells_children", 6), ("looks_again", 7)]) (by show blkC ["lanes", "late", "anew", "children", "parents", "tells_value", "tells_children", "looks_again"] (defScope s_all_plans) _ _ = true; decide +kernel)) (fun _ _ _ _ _ => (vg_n 3 sc_all_plans.nd)) (fun _ _ _ _ _ => vts_nil) (fun _ _ _ _ _ => (vi_tup (v_glob GC.c_SENDINGS (by rfl)))) (fun _ _ _ _ _ => (vg_n 4 sc_all_plans.nd)) (fun _ _ _ _ _ => vts_nil) (fun _ _ _ _ _ => (vi_tup (v_glob GC.c_BOOLS (by rfl)))) (fun _ _ _ _ _ => (vg_n 5 sc_all_plans.nd)) (fun _ _ _ _ _ => vts_nil) (fun _ _ _ _ _ => (vi_tup (v_glob GC.c_BOOLS (by rfl)))) (fun _ _ _ _ _ => (vg_n 6 sc_all_plans.nd)) (fun _ _ _ _ _ => vts_nil) (fun _ _ _ _ _ => (vi_tup (v_glob GC.c_BOOLS (by rfl)))) (fun _ _ _ _ _ => (vg_n 7 sc_all_plans.nd)) (fun _ _ _ _ _ => vts_nil) (fun _ _ _ _ _ => (v_tup (va_cons (vv 0) (va_cons (vv 1) (va_cons (vv 3) (va_cons (vv 4) (va_cons (vv 5) (va_cons (vv 6) (va_cons (vv 7) (va_cons (vv 2) va_nil)))))))))))))) (fun as g R h => ?_)
  · obtain ⟨l, t, an, rfl, hR⟩ := h
    rfl
  · obtain ⟨l, t, an, rfl, hR⟩ := h
    simp only [lRet, lLcN, sSeq, sIf, sSet, sOwn, sRet, sRetN, sNext, sDis, sSetIx, sApp, sAsg, sPar, sPar2O, sPar3, wB, wOp, wVar, wC, wNil, wCons, pNil, pCons, pPen, wTup, lLst, wL, wCall, wChain, Vl.wAnd, Vl.wOr, Vl.wNot, wAndV, wOrV, wNotV, wIf, wNeg, wIsN, wIsa, wFn, wSl, oNo, oPt, lList, wRevL, wIxO, wEqE, gN, gsNil, gsCons, gT, iL, iT, iR1, iR2, iZp, iEn, wYes, wipeV, endV, startV, e_fII, e_addI, e_addT, e_addL, e_intI, e_intB, e_mulT, e_mulL, e_lenL, e_lenT, e_tupL, e_tupT, e_eqI, e_neI, e_eqB, e_neB, e_eqS, e_neS, e_ix0T, e_ix1T, e_ix2T, e_ix3T, e_ix4T, e_ix0L, e_ix1L, e_ix2L, List.length_cons, List.length_nil, List.replicate, List.cons_append, List.nil_append, List.getElem?_cons_zero, List.getElem?_cons_succ, List.set_cons_zero, List.set_cons_succ, Nat.reduceAdd, Nat.reduceSub, List.replicate_succ, List.replicate_zero, true_and, if_true, if_false, Bool.false_eq_true, reduceIte, Int.toNat_natCast, fGt, fLtI, fLe, fGe, wFn, startV_one, isIntStr, isTupList, Bool.not_true, Bool.not_false, k_isInt_none, k_isInt_bool, k_isInt_int, k_isInt_str, k_isInt_list, k_isInt_tuple, k_isInt_dict, k_isBool_none, k_isBool_bool, k_isBool_int, k_isBool_str, k_isBool_list, k_isBool_tuple, k_isBool_dict, k_isTuple_none, k_isTuple_bool, k_isTuple_int, k_isTuple_str, k_isTuple_list, k_isTuple_tuple, k_isTuple_dict, k_isList_none, k_isList_bool, k_isList_int, k_isList_str, k_isList_list, k_isList_tuple, k_isList_dict, k_isStr_none, k_isStr_bool, k_isStr_int, k_isStr_str, k_isStr_list, k_isStr_tuple, k_isStr_dict, lRg1, lRg2, lLc2, iEm, lSeq, lOf, lRet, lRetO, lDis, lIf, lFn, sApp]
    refine ⟨rfl, lpV_pure (fun c => sends3.flatMap fun p => bools2.flatMap fun x => bools2.flatMap fun y => bools2.flatMap fun z => [itemP l t an c p x y z]) 24 72 _ [] _ (fun c _ acc N hl hN => ?_) (fun c _ => Nat.le_refl 24) (by decide) ⟨g, Nat.le_refl _, hR⟩⟩
    simp only [wipeV, List.map_cons, List.map_nil, sSeq, sIf, sSet, sOwn, sRet, sRetN, sNext, sDis, sSetIx, sApp, sAsg, sPar, sPar2O, sPar3, wB, wOp, wVar, wC, wNil, wCons, pNil, pCons, pPen, wTup, lLst, wL, wCall, wChain, Vl.wAnd, Vl.wOr, Vl.wNot, wAndV, wOrV, wNotV, wIf, wNeg, wIsN, wIsa, wFn, wSl, oNo, oPt, lList, wRevL, wIxO, wEqE, gN, gsNil, gsCons, gT, iL, iT, iR1, iR2, iZp, iEn, wYes, wipeV, endV, startV, e_fII, e_addI, e_addT, e_addL, e_intI, e_intB, e_mulT, e_mulL, e_lenL, e_lenT, e_tupL, e_tupT, e_eqI, e_neI, e_eqB, e_neB, e_eqS, e_neS, e_ix0T, e_ix1T, e_ix2T, e_ix3T, e_ix4T, e_ix0L, e_ix1L, e_ix2L, List.length_cons, List.length_nil, List.replicate, List.cons_append, List.nil_append, List.getElem?_cons_zero, List.getElem?_cons_succ, List.set_cons_zero, List.set_cons_succ, Nat.reduceAdd, Nat.reduceSub, List.replicate_succ, List.replicate_zero, true_and, if_true, if_false, Bool.false_eq_true, reduceIte, Int.toNat_natCast, fGt, fLtI, fLe, fGe, wFn, startV_one, isIntStr, isTupList, Bool.not_true, Bool.not_false, k_isInt_none, k_isInt_bool, k_isInt_int, k_isInt_str, k_isInt_list, k_isInt_tuple, k_isInt_dict, k_isBool_none, k_isBool_bool, k_isBool_int, k_isBool_str, k_isBool_list, k_isBool_tuple, k_isBool_dict, k_isTuple_none, k_isTuple_bool, k_isTuple_int, k_isTuple_str, k_isTuple_list, k_isTuple_tuple, k_isTuple_dict, k_isList_none, k_isList_bool, k_isList_int, k_isList_str, k_isList_list, k_isList_tuple, k_isList_dict, k_isStr_none, k_isStr_bool, k_isStr_int, k_isStr_str, k_isStr_list, k_isStr_tuple, k_isStr_dict, lRg1, lRg2, lLc2, iEm, lSeq, lOf, lRet, lRetO, lDis, lIf, lFn, sApp]
    refine ⟨rfl, ?_⟩
    show lpV (gN 4) _ _ sends3 _ acc g N
    refine lpV_pure (fun p => bools2.flatMap fun x => bools2.flatMap fun y => bools2.flatMap fun z => [itemP l t an c p x y z]) 8 72 _ acc _ (fun p _ acc N hl hN => ?_) (fun p _ => Nat.le_refl 8) hl hN
    simp only [wipeV, List.map_cons, List.map_nil, sSeq, sIf, sSet, sOwn, sRet, sRetN, sNext, sDis, sSetIx, sApp, sAsg, sPar, sPar2O, sPar3, wB, wOp, wVar, wC, wNil, wCons, pNil, pCons, pPen, wTup, lLst, wL, wCall, wChain, Vl.wAnd, Vl.wOr, Vl.wNot, wAndV, wOrV, wNotV, wIf, wNeg, wIsN, wIsa, wFn, wSl, oNo, oPt, lList, wRevL, wIxO, wEqE, gN, gsNil, gsCons, gT, iL, iT, iR1, iR2, iZp, iEn, wYes, wipeV, endV, startV, e_fII, e_addI, e_addT, e_addL, e_intI, e_intB, e_mulT, e_mulL, e_lenL, e_lenT, e_tupL, e_tupT, e_eqI, e_neI, e_eqB, e_neB, e_eqS, e_neS, e_ix0T, e_ix1T, e_ix2T, e_ix3T, e_ix4T, e_ix0L, e_ix1L, e_ix2L, List.length_cons, List.length_nil, List.replicate, List.cons_append, List.nil_append, List.getElem?_cons_zero, List.getElem?_cons_succ, List.set_cons_zero, List.set_cons_succ, Nat.reduceAdd, Nat.reduceSub, List.replicate_succ, List.replicate_zero, true_and, if_true, if_false, Bool.false_eq_true, reduceIte, Int.toNat_natCast, fGt, fLtI, fLe, fGe, wFn, startV_one, isIntStr, isTupList, Bool.not_true, Bool.not_false, k_isInt_none, k_isInt_bool, k_isInt_int, k_isInt_str, k_isInt_list, k_isInt_tuple, k_isInt_dict, k_isBool_none, k_isBool_bool, k_isBool_int, k_isBool_str, k_isBool_list, k_isBool_tuple, k_isBool_dict, k_isTuple_none, k_isTuple_bool, k_isTuple_int, k_isTuple_str, k_isTuple_list, k_isTuple_tuple, k_isTuple_dict, k_isList_none, k_isList_bool, k_isList_int, k_isList_str, k_isList_list, k_isList_tuple, k_isList_dict, k_isStr_none, k_isStr_bool, k_isStr_int, k_isStr_str, k_isStr_list, k_isStr_tuple, k_isStr_dict, lRg1, lRg2, lLc2, iEm, lSeq, lOf, lRet, lRetO, lDis, lIf, lFn, sApp]
    refine ⟨rfl, ?_⟩
    show lpV (gN 5) _ _ bools2 _ acc g N
    refine lpV_pure (fun x => bools2.flatMap fun y => bools2.flatMap fun z => [itemP l t an c p x y z]) 4 72 _ acc _ (fun x _ acc N hl hN => ?_) (fun p _ => Nat.le_refl 4) hl hN
    simp only [wipeV, List.map_cons, List.map_nil, sSeq, sIf, sSet, sOwn, sRet, sRetN, sNext, sDis, sSetIx, sApp, sAsg, sPar, sPar2O, sPar3, wB, wOp, wVar, wC, wNil, wCons, pNil, pCons, pPen, wTup, lLst, wL, wCall, wChain, Vl.wAnd, Vl.wOr, Vl.wNot, wAndV, wOrV, wNotV, wIf, wNeg, wIsN, wIsa, wFn, wSl, oNo, oPt, lList, wRevL, wIxO, wEqE, gN, gsNil, gsCons, gT, iL, iT, iR1, iR2, iZp, iEn, wYes, wipeV, endV, startV, e_fII, e_addI, e_addT, e_addL, e_intI, e_intB, e_mulT, e_mulL, e_lenL, e_lenT, e_tupL, e_tupT, e_eqI, e_neI, e_eqB, e_neB, e_eqS, e_neS, e_ix0T, e_ix1T, e_ix2T, e_ix3T, e_ix4T, e_ix0L, e_ix1L, e_ix2L, List.length_cons, List.length_nil, List.replicate, List.cons_append, List.nil_append, List.getElem?_cons_zero, List.getElem?_cons_succ, List.set_cons_zero, List.set_cons_succ, Nat.reduceAdd, Nat.reduceSub, List.replicate_succ, List.replicate_zero, true_and, if_true, if_false, Bool.false_eq_true, reduceIte, Int.toNat_natCast, fGt, fLtI, fLe, fGe, wFn, startV_one, isIntStr, isTupList, Bool.not_true, Bool.not_false, k_isInt_none, k_isInt_bool, k_isInt_int, k_isInt_str, k_isInt_list, k_isInt_tuple, k_isInt_dict, k_isBool_none, k_isBool_bool, k_isBool_int, k_isBool_str, k_isBool_list, k_isBool_tuple, k_isBool_dict, k_isTuple_none, k_isTuple_bool, k_isTuple_int, k_isTuple_str, k_isTuple_list, k_isTuple_tuple, k_isTuple_dict, k_isList_none, k_isList_bool, k_isList_int, k_isList_str, k_isList_list, k_isList_tuple, k_isList_dict, k_isStr_none, k_isStr_bool, k_isStr_int, k_isStr_str, k_isStr_list, k_isStr_tuple, k_isStr_dict, lRg1, lRg2, lLc2, iEm, lSeq, lOf, lRet, lRetO, lDis, lIf, lFn, sApp]
    refine ⟨rfl, ?_⟩
    show lpV (gN 6) _ _ bools2 _ acc g N
    refine lpV_pure (fun y => bools2.flatMap fun z => [itemP l t an c p x y z]) 2 72 _ acc _ (fun y _ acc N hl hN => ?_) (fun p _ => Nat.le_refl 2) hl hN
    simp only [wipeV, List.map_cons, List.map_nil, sSeq, sIf, sSet, sOwn, sRet, sRetN, sNext, sDis, sSetIx, sApp, sAsg, sPar, sPar2O, sPar3, wB, wOp, wVar, wC, wNil, wCons, pNil, pCons, pPen, wTup, lLst, wL, wCall, wChain, Vl.wAnd, Vl.wOr, Vl.wNot, wAndV, wOrV, wNotV, wIf, wNeg, wIsN, wIsa, wFn, wSl, oNo, oPt, lList, wRevL, wIxO, wEqE, gN, gsNil, gsCons, gT, iL, iT, iR1, iR2, iZp, iEn, wYes, wipeV, endV, startV, e_fII, e_addI, e_addT, e_addL, e_intI, e_intB, e_mulT, e_mulL, e_lenL, e_lenT, e_tupL, e_tupT, e_eqI, e_neI, e_eqB, e_neB, e_eqS, e_neS, e_ix0T, e_ix1T, e_ix2T, e_ix3T, e_ix4T, e_ix0L, e_ix1L, e_ix2L, List.length_cons, List.length_nil, List.replicate, List.cons_append, List.nil_append, List.getElem?_cons_zero, List.getElem?_cons_succ, List.set_cons_zero, List.set_cons_succ, Nat.reduceAdd, Nat.reduceSub, List.replicate_succ, List.replicate_zero, true_and, if_true, if_false, Bool.false_eq_true, reduceIte, Int.toNat_natCast, fGt, fLtI, fLe, fGe, wFn, startV_one, isIntStr, isTupList, Bool.not_true, Bool.not_false, k_isInt_none, k_isInt_bool, k_isInt_int, k_isInt_str, k_isInt_list, k_isInt_tuple, k_isInt_dict, k_isBool_none, k_isBool_bool, k_isBool_int, k_isBool_str, k_isBool_list, k_isBool_tuple, k_isBool_dict, k_isTuple_none, k_isTuple_bool, k_isTuple_int, k_isTuple_str, k_isTuple_list, k_isTuple_tuple, k_isTuple_dict, k_isList_none, k_isList_bool, k_isList_int, k_isList_str, k_isList_list, k_isList_tuple, k_isList_dict, k_isStr_none, k_isStr_bool, k_isStr_int, k_isStr_str, k_isStr_list, k_isStr_tuple, k_isStr_dict, lRg1, lRg2, lLc2, iEm, lSeq, lOf, lRet, lRetO, lDis, lIf, lFn, sApp]
    refine ⟨rfl, ?_⟩
    show lpV (gN 7) _ _ bools2 _ acc g N
    refine lpV_pure (fun z => [itemP l t an c p x y z]) 1 72 _ acc _ (fun z _ acc N hl hN => ?_) (fun p _ => Nat.le_refl 1) hl hN
    simp only [wipeV, List.map_cons, List.map_nil, sSeq, sIf, sSet, sOwn, sRet, sRetN, sNext, sDis, sSetIx, sApp, sAsg, sPar, sPar2O, sPar3, wB, wOp, wVar, wC, wNil, wCons, pNil, pCons, pPen, wTup, lLst, wL, wCall, wChain, Vl.wAnd, Vl.wOr, Vl.wNot, wAndV, wOrV, wNotV, wIf, wNeg, wIsN, wIsa, wFn, wSl, oNo, oPt, lList, wRevL, wIxO, wEqE, gN, gsNil, gsCons, gT, iL, iT, iR1, iR2, iZp, iEn, wYes, wipeV, endV, startV, e_fII, e_addI, e_addT, e_addL, e_intI, e_intB, e_mulT, e_mulL, e_lenL, e_lenT, e_tupL, e_tupT, e_eqI, e_neI, e_eqB, e_neB, e_eqS, e_neS, e_ix0T, e_ix1T, e_ix2T, e_ix3T, e_ix4T, e_ix0L, e_ix1L, e_ix2L, List.length_cons, List.length_nil, List.replicate, List.cons_append, List.nil_append, List.getElem?_cons_zero, List.getElem?_cons_succ, List.set_cons_zero, List.set_cons_succ, Nat.reduceAdd, Nat.reduceSub, List.replicate_succ, List.replicate_zero, true_and, if_true, if_false, Bool.false_eq_true, reduceIte, Int.toNat_natCast, fGt, fLtI, fLe, fGe, wFn, startV_one, isIntStr, isTupList, Bool.not_true, Bool.not_false, k_isInt_none, k_isInt_bool, k_isInt_int, k_isInt_str, k_isInt_list, k_isInt_tuple, k_isInt_dict, k_isBool_none, k_isBool_bool, k_isBool_int, k_isBool_str, k_isBool_list, k_isBool_tuple, k_isBool_dict, k_isTuple_none, k_isTuple_bool, k_isTuple_int, k_isTuple_str, k_isTuple_list, k_isTuple_tuple, k_isTuple_dict, k_isList_none, k_isList_bool, k_isList_int, k_isList_str, k_isList_list, k_isList_tuple, k_isList_dict, k_isStr_none, k_isStr_bool, k_isStr_int, k_isStr_str, k_isStr_list, k_isStr_tuple, k_isStr_dict, lRg1, lRg2, lLc2, iEm, lSeq, lOf, lRet, lRetO, lDis, lIf, lFn, sApp]
    refine ⟨rfl, ?_⟩
    show acc.length < sizeLine ∧ _
    refine ⟨by show _ < 16777216; omega, ?_⟩
    simp only [sSeq, sIf, sSet, sOwn, sRet, sRetN, sNext, sDis, sSetIx, sApp, sAsg, sPar, sPar2O, sPar3, wB, wOp, wVar, wC, wNil, wCons, pNil, pCons, pPen, wTup, lLst, wL, wCall, wChain, Vl.wAnd, Vl.wOr, Vl.wNot, wAndV, wOrV, wNotV, wIf, wNeg, wIsN, wIsa, wFn, wSl, oNo, oPt, lList, wRevL, wIxO, wEqE, gN, gsNil, gsCons, gT, iL, iT, iR1, iR2, iZp, iEn, wYes, wipeV, endV, startV, e_fII, e_addI, e_addT, e_addL, e_intI, e_intB, e_mulT, e_mulL, e_lenL, e_lenT, e_tupL, e_tupT, e_eqI, e_neI, e_eqB, e_neB, e_eqS, e_neS, e_ix0T, e_ix1T, e_ix2T, e_ix3T, e_ix4T, e_ix0L, e_ix1L, e_ix2L, List.length_cons, List.length_nil, List.replicate, List.cons_append, List.nil_append, List.getElem?_cons_zero, List.getElem?_cons_succ, List.set_cons_zero, List.set_cons_succ, Nat.reduceAdd, Nat.reduceSub, List.replicate_succ, List.replicate_zero, true_and, if_true, if_false, Bool.false_eq_true, reduceIte, Int.toNat_natCast, fGt, fLtI, fLe, fGe, wFn, startV_one, isIntStr, isTupList, Bool.not_true, Bool.not_false, k_isInt_none, k_isInt_bool, k_isInt_int, k_isInt_str, k_isInt_list, k_isInt_tuple, k_isInt_dict, k_isBool_none, k_isBool_bool, k_isBool_int, k_isBool_str, k_isBool_list, k_isBool_tuple, k_isBool_dict, k_isTuple_none, k_isTuple_bool, k_isTuple_int, k_isTuple_str, k_isTuple_list, k_isTuple_tuple, k_isTuple_dict, k_isList_none, k_isList_bool, k_isList_int, k_isList_str, k_isList_list, k_isList_tuple, k_isList_dict, k_isStr_none, k_isStr_bool, k_isStr_int, k_isStr_str, k_isStr_list, k_isStr_tuple, k_isStr_dict, lRg1, lRg2, lLc2, iEm, lSeq, lOf, lRet, lRetO, lDis, lIf, lFn, sApp]
    exact ⟨by decide, hN⟩


end
end Law
/-! V20: a tuple's [::-1]. -/
namespace Vl
open PySem PySem.Spec PyProof.Rows L2 HT
section
variable {prog : Program} {w : World} {A : Around} {E : Value → Shared → Prop} {s : Shared}
theorem rv_adjust (n : Nat) : Builtin.Slice.sliceAdjust none none (-1) (n : Int) = ((n : Int) - 1, -1) := by
  unfold Builtin.Slice.sliceAdjust
  simp
theorem rv_places (n : Nat) : Builtin.Slice.slicePlaces ((n : Int) - 1) (-1) (-1) = n := by
  unfold Builtin.Slice.slicePlaces
  have h1 : ¬ ((-1 : Int) > 0) := by decide
  rw [if_neg h1]
  by_cases h : (n : Int) - 1 > -1
  · rw [if_pos h, show (- -1 : Int) = 1 by decide, Int.ediv_one]
    omega
  · rw [if_neg h]
    omega
theorem rv_applied {sl : Addr} {u : Tok} {n : Nat} {Q : Int × Int × Nat → Shared → Prop} (hs : s.heap.IsSliceOf sl .none .none (.int (-1) u)) (h : Q ((n : Int) - 1, -1, n) s) : wpAny (model prog w) A (Builtin.Slice.sliceApplied (.ref sl) (pure (n : Int))) Q E s := by
  obtain ⟨os, hos, hcs, hds⟩ := id hs
  unfold Builtin.Slice.sliceApplied Builtin.Slice.sliceFields
  refine wpAny_bind (wpAny_bind (wpAny_field hos hds (x := .none) rfl (wpAny_bind (wpAny_field hos hds (x := .none) rfl (wpAny_bind (wpAny_field hos hds (x := .int (-1) u) rfl (wpAny_pure ?_)))))))
  refine wpAny_bind (slicePart_int ?_)
  show wpAny _ _ (if ((-1 : Int) == 0) = true then _ else _) _ _ s
  rw [if_neg (by decide)]
  refine wpAny_bind (slicePart_none (wpAny_bind (slicePart_none (wpAny_bind (wpAny_pure ?_)))))
  show wpAny _ _ (match Builtin.Slice.sliceAdjust none none (-1) (n : Int) with | (lo, hi) => pure (lo, (-1 : Int), Builtin.Slice.slicePlaces lo hi (-1))) _ _ s
  rw [rv_adjust n]
  show wpAny _ _ (pure ((n : Int) - 1, (-1 : Int), Builtin.Slice.slicePlaces ((n : Int) - 1) (-1) (-1))) _ _ s
  rw [rv_places]
  exact wpAny_pure h
theorem rv_pick (xs : List Value) : ((List.range xs.length).filterMap fun (m : Nat) => xs.toArray[(((xs.length : Nat) : Int) - 1 + (m : Int) * -1).toNat]?).toArray = xs.reverse.toArray := by
  congr 1
  have e : ∀ k, k ≤ xs.length → ((List.range k).filterMap fun (m : Nat) => xs.toArray[(((xs.length : Nat) : Int) - 1 + (m : Int) * -1).toNat]?) = xs.reverse.take k := by
    intro k
    induction k with
    | zero => intro _; rfl
    | succ k ih =>
      intro hk
      have hk1 : k < xs.length := hk
      rw [List.range_succ, List.filterMap_append, ih (by omega), List.take_add_one]
      congr 1
      have e1 : (((xs.length : Nat) : Int) - 1 + (k : Int) * -1).toNat = xs.length - 1 - k := by omega
      have e2 : xs.reverse[k]? = xs[xs.length - 1 - k]? := List.getElem?_reverse hk1
      have e3 : xs[xs.length - 1 - k]? = some (xs[xs.length - 1 - k]'(by omega)) := List.getElem?_eq_getElem (by omega)
      rw [e2]
      simp only [List.filterMap_cons, List.filterMap_nil, e1, List.getElem?_toArray, e3]
      rfl
  rw [e _ (Nat.le_refl _), List.take_of_length_le (by rw [List.length_reverse]; exact Nat.le_refl _)]
theorem getItem_rv {t sl : Addr} {xs : List Value} {u : Tok} {Q : Value → Shared → Prop} (ht : IsTup s.heap t xs.toArray) (hs : s.heap.IsSliceOf sl .none .none (.int (-1) u))
    (h : Q (.ref s.heap.objs.size) { s with heap := s.heap.push { cls := .type "tuple", data := .seq xs.reverse.toArray } }) (hsz : xs.length ≤ sizeLine) : wpAny (model prog w) A (getItem (.ref t) (.ref sl)) Q E s := by
  have htake : sizeOk (.seq xs.reverse.toArray) := by
    show xs.reverse.toArray.size ≤ sizeLine
    rw [List.size_toArray, List.length_reverse]
    exact hsz
  obtain ⟨os, hos, hcs, hds⟩ := id hs
  have hTs : s.TypeIs (.ref sl) "slice" := ⟨os, hos, hcs⟩
  unfold getItem
  try with_reducible refine wpAny_holding ?_
  first | refine wpAny_bind (wpAny_pure ?_) | skip
  refine wpAny_bind (wpAny_sequenceKey ht.typeIs (by decide) ?_)
  refine wpAny_bind (wpAny_callSpecial?_slot (name := Str.ofString "__getitem__") ht.typeIs PyProof.Rows.slot_tuple_getitem
    (wpAny_call_entry PyProof.Rows.slot_tuple_getitem ht.typeIs entry_tuple_getitem ?_ (args_tuple_getitem _ _)))
  show wpAny _ _ (Builtin.Tuple.tupleItemsOf (.ref t) >>= _) _ _ s
  refine wpAny_bind (tupleItemsOf_ ht ?_)
  refine wpAny_bind (wpAny_typeOf hTs ?_)
  rw [if_pos (by decide)]
  have hn : xs.toArray.size = xs.length := List.size_toArray
  refine wpAny_bind (rv_applied (n := xs.toArray.size) hs ?_)
  have hno : ¬ ((((xs.toArray.size : Nat) : Int) - 1 == 0 && (-1 : Int) == 1 && xs.toArray.size == xs.toArray.size) = true) := by
    rw [show ((-1 : Int) == 1) = false by decide, Bool.and_false, Bool.false_and]
    exact Bool.false_ne_true
  show wpAny _ _ (if (((xs.toArray.size : Nat) : Int) - 1 == 0 && (-1 : Int) == 1 && xs.toArray.size == xs.toArray.size) = true then _ else _) _ _ s
  rw [if_neg hno, hn, rv_pick]
  first
    | exact wpAny_bind (m := Builtin.Tuple.tupleExact _) (wpAny_newObj_type (wpAny_pure ⟨_, rfl, wpAny_pure h⟩) htake)
    | exact wpAny_bind (m := Builtin.Tuple.tupleExact _) (wpAny_newObj_type (wpAny_bind (wpAny_pure (wpAny_pure ⟨_, rfl, wpAny_pure h⟩))) htake)
    | exact wpAny_bind (wpAny_bind (m := Builtin.Tuple.tupleExact _) (wpAny_newObj_type (wpAny_pure (wpAny_pure ⟨_, rfl, wpAny_pure h⟩)) htake))
    | exact wpAny_bind (wpAny_bind (m := Builtin.Tuple.tupleExact _) (wpAny_newObj_type (wpAny_pure ⟨_, rfl, wpAny_pure h⟩) htake))
end
/-- x[::-1], a tuple -/
def tRvT (K : PySem.W.Frag) (te : TE) : TE := fun σ H Q => te σ H fun x H1 => ∃ a xs, x = .ref a ∧ SqT K H1 a xs ∧ ∀ p, H1 p = none → Q (.ref p) (upd H1 p (.tup xs.reverse))
theorem pe_rvT {X : Cx} {e : Expr} {te : TE} {k : Nat} {p1 p2 p3 pos : Pos} (he : PE X e te) : PE X (.Subscript e (.Slice none none (some (.UnaryOp .USub (.Constant (.int 1) k p1) p2)) p3) pos) (tRvT X.K te) := by
  refine ⟨fun pins s σ H Q I h => ?_⟩
  refine Subscript_ (thn (he.run pins s σ H _ I h) fun v s1 ⟨x, H1, I1, r1, q1⟩ => ?_)
  obtain ⟨a, xs, ex, hx, q⟩ := q1
  subst ex
  cases r1
  have hst : PO X (some (.UnaryOp .USub (.Constant (.int 1) k p1) p2)) (tPart (tUn (rU fun i => .int (-i)) (tC (.int 1)))) := po_some (pe_un un_neg pe_int)
  refine wpAny_Slice (thn (po_none.run pins s1 σ H1 (fun o H2 => o = none ∧ H2 = H1) I1 ⟨rfl, rfl⟩) fun vl s2 ⟨l, H2, I2, pl, el, e2⟩ => ?_)
  subst el e2
  refine thn (po_none.run pins s2 σ H2 (fun o H3 => o = none ∧ H3 = H2) I2 ⟨rfl, rfl⟩) fun vu s3 ⟨u, H3, I3, pu, eu, e3⟩ => ?_
  subst eu e3
  refine thn (hst.run pins s3 σ H3 (fun o H4 => o = some (-1) ∧ H4 = H3) I3 ⟨1, rfl, -1, rfl, rfl, rfl⟩) fun vs s4 ⟨o, H4, I4, ps, eo, e4⟩ => ?_
  subst eo e4
  obtain rfl : vl = .none := by cases pl; rfl
  obtain rfl : vu = .none := by cases pu; rfl
  obtain ⟨tok, rfl⟩ : ∃ t, vs = .int (-1) t := by cases ps; exact ⟨_, rfl⟩
  have I5 : Inv X pins σ H4 { s4 with heap := s4.heap.push { cls := .type "slice", data := .fields #[.none, .none, .int (-1) tok] } } := I4.kept (t' := s4.toks) fun b ob q => Heap.get?_push_of_some _ q
  obtain ⟨its, r, ht, hz⟩ := I5.tuple hx
  have hlen := r.length
  show wpAny (model X.prog X.w) X.A (subscriptTail e (.Slice none none (some (.UnaryOp .USub (.Constant (.int 1) k p1) p2)) p3) (.ref a) (.ref s4.heap.objs.size)) (EP X pins σ Q) X.xe { s4 with heap := s4.heap.push { cls := .type "slice", data := .fields #[.none, .none, .int (-1) tok] } }
  refine tail_any (ops := [.ref a, .ref s4.heap.objs.size]) ht.typeIs (PyProof.Rows.slot_tuple_getitem.lookup) ?_ (by with_unfolding_all rfl)
  refine getItem_rv ht (Heap.IsSliceOf.new _ .none .none (.int (-1) tok)) ?_ (by omega)
  refine ⟨.ref _, _, I5.laid (t' := s4.toks) (o := .tup xs.reverse) (fun b ob q => Heap.get?_push_of_some _ q) (Nat.le_refl _) ?_, rfl, q _ (I5.hok.fresh (Nat.le_refl _))⟩
  exact ⟨by rw [List.length_reverse]; exact hz, _, r.reverse, IsTup.new _ _⟩
def wRevT (W : WE) : WE := fun ρ g R => W ρ g fun d g1 => match d with
  | .tuple xs => R (.tuple xs.reverse) g1
  | _ => False
theorem v_revT {X : Cx} {e : Expr} {W : WE} {pos : Pos} {k : Nat} {p1 p2 p3 : Pos} (he : VE X e W) : VE X (.Subscript e (.Slice none none (some (.UnaryOp .USub (.Constant (.int 1) k p1) p2)) p3) pos) (wRevT W) := pe_weak (pe_rvT he) fun σ H Q ⟨a, H0, O0, O, ρ, g, R, r, w, q⟩ => ⟨a, H0, O0, O, ρ, g, _, r, w, fun d g1 v H1 k1 r1 d1 w1 => by
  cases d1 with
  | @tup p xs ds h1 h2 =>
    refine ⟨p, xs, rfl, sqt_mono off_out h1, fun n hn => ?_⟩
    have s := sub_upd (o := .tup xs.reverse) hn
    exact q _ g1 _ _ (k1.trans (Kp.of s)) (r1.ext s) (.tup (.inl (.inl (off_upd r1.liveA hn))) (h2.rev.to (off_mono s))) w1
  | _ => exact w1.elim⟩
end Vl
namespace Law
open PySem PySem.Spec PyProof.Rows L2 Vl
section
variable {P : Program} {w : World} {K : PySem.W.Frag} {mg : Str → Option Value} {base : Heap}
theorem shown_tup {xs : List PyData} {b : Nat} (h : ∀ x ∈ xs, x.shown.length ≤ b) : (PyData.tuple xs).shown.length ≤ xs.length * (b + 2) + 3 := by
  simp only [PyData.shown]
  have := tupleText_le (PyData.shownAll xs)
  have := piled_le h
  omega
/-- what can be shown in so many letters -/
structure Sw (b m : Nat) (d : PyData) : Prop where
  sh : d.showable = true
  dp : d.depth ≤ m
  ln : d.shown.length ≤ b
theorem Sw.of {t m : Nat} {d : PyData} (h : Bd t m d) (ht : t ≤ 1) {b : Nat} (hb : wide m ≤ b) : Sw b m d := ⟨h.showable ht, h.depth, Nat.le_trans (h.shown ht) hb⟩
theorem Sw.tup {b m c : Nat} {xs : List PyData} (h : ∀ x ∈ xs, Sw b m x) (l : xs.length * (b + 2) + 3 ≤ c) : Sw c (m + 1) (.tuple xs) := by
  refine ⟨?_, ?_, Nat.le_trans (shown_tup fun x hx => (h x hx).ln) l⟩
  · simp only [PyData.showable]
    exact showAll fun x hx => (h x hx).sh
  · have := depthAll_le fun x hx => (h x hx).dp
    simp only [PyData.depth]
    omega
theorem Sw.up {b m b2 m2 : Nat} {d : PyData} (h : Sw b m d) (hb : b ≤ b2) (hm : m ≤ m2) : Sw b2 m2 d := ⟨h.sh, Nat.le_trans h.dp hm, Nat.le_trans h.ln hb⟩
theorem cut_lo {l : List PyData} {p : Nat} (h : p < l.length) : Vl.cutD l none (some ((p : Nat) : Int)) = l.take p := by
  have e1 : HT.sIx l.length 0 none = 0 := rfl
  have e2 : HT.sIx l.length l.length (some ((p : Nat) : Int)) = p := by
    show (if ((p : Nat) : Int) < 0 then (((p : Nat) : Int) + (l.length : Int)).toNat else min ((p : Nat) : Int).toNat l.length) = p
    rw [if_neg (by omega)]
    omega
  unfold Vl.cutD
  rw [e1, e2, Nat.sub_zero, List.drop_zero]
theorem cut_hi {l : List PyData} {p : Nat} (h : p ≤ l.length) : Vl.cutD l (some ((p : Nat) : Int)) none = l.drop p := by
  have e1 : HT.sIx l.length l.length none = l.length := rfl
  have e2 : HT.sIx l.length 0 (some ((p : Nat) : Int)) = p := by
    show (if ((p : Nat) : Int) < 0 then (((p : Nat) : Int) + (l.length : Int)).toNat else min ((p : Nat) : Int).toNat l.length) = p
    rw [if_neg (by omega)]
    omega
  unfold Vl.cutD
  rw [e1, e2, List.take_of_length_le (by rw [List.length_drop]; exact Nat.le_refl _)]
theorem _root_.Vl.lp_pre {α : Type} {enc : α → PyData} {G : WG} {B : WS} {V : EndsV} {g : Nat} (I : List α → Rho → Prop) (all : List α)
    (hs : ∀ (pre : List α) (x : α) (post : List α), all = pre ++ x :: post → ∀ (ρ : Rho) (N : Rho → Nat → Prop), I pre ρ → (∀ ρ', I (pre ++ [x]) ρ' → N ρ' g) → G (enc x) ρ fun ρ' => B { nx := N, rt := V.rt, bk := V.nx, ct := N } ρ' g)
    (e : ∀ ρ', I all ρ' → V.nx ρ' g) : ∀ (xs pre : List α) (ρ : Rho), all = pre ++ xs → I pre ρ → loopV G B V (xs.map enc) ρ g
  | [], pre, ρ, h, hI => by
    rw [List.append_nil] at h
    subst h
    exact e ρ hI
  | x :: xs, pre, ρ, h, hI => by
    show G (enc x) ρ _
    exact hs pre x xs h ρ (loopV G B V (xs.map enc)) hI fun ρ' h' => Vl.lp_pre I all hs e xs (pre ++ [x]) ρ' (by rw [h]; simp) h'
theorem ne_self {x : Str} {R : PyData → Prop} (h : R (.bool false)) : fNe (.str x) (.str x) R := by rw [e_neS, beq_self_eq_true]; exact h
def plL (p : Pl) : List PyData := [.int p.lanes, .int p.late, .str p.ch.s, .str p.pa.s, .bool p.tv, .bool p.tc, .bool p.la, .str p.an.s]
theorem plD_L (p : Pl) : plD p = .tuple (plL p) := rfl
theorem snd_rep : ∀ s : Snd, (reprText s.s).length ≤ 10
  | .all => by decide +kernel
  | .either => by decide +kernel
  | .now => by decide +kernel
theorem anw_rep : ∀ s : Anw, (reprText s.s).length ≤ 10
  | .never => by decide +kernel
  | .cut => by decide +kernel
  | .kept => by decide +kernel
theorem pll_bd {p : Pl} (ho : PlOk p) (n : Nat) : ∀ x ∈ plL p, Bd 1 n x := by
  have h1 := ho.l
  have h2 := ho.t
  intro x hx
  simp only [plL, List.mem_cons, List.not_mem_nil, or_false] at hx
  have big : (10 : Nat) ^ (30 + 5 * 1) = 100000000000000000000000000000000000 := by decide
  rcases hx with rfl | rfl | rfl | rfl | rfl | rfl | rfl | rfl
  · exact .int _ _ (by omega)
  · exact .int _ _ (by omega)
  · exact .str _ _ (snd_rep _)
  · exact .str _ _ (snd_rep _)
  · exact .bl _ _
  · exact .bl _ _
  · exact .bl _ _
  · exact .str _ _ (anw_rep _)
theorem pll_nd {p : Pl} (ho : PlOk p) : Nd 1 (.tuple (plL p)) := by
  have h1 := ho.l
  have h2 := ho.t
  refine .tup (fun x hx => ?_) (by show 8 ≤ 8; decide)
  simp only [plL, List.mem_cons, List.not_mem_nil, or_false] at hx
  have big : (10 : Nat) ^ 30 = 1000000000000000000000000000000 := by decide
  rcases hx with rfl | rfl | rfl | rfl | rfl | rfl | rfl | rfl
  · exact .int _ _ (by omega)
  · exact .int _ _ (by omega)
  · exact .str _ _ (snd_rep _)
  · exact .str _ _ (snd_rep _)
  · exact .bl _ _
  · exact .bl _ _
  · exact .bl _ _
  · exact .str _ _ (anw_rep _)
/-- a part put in at some place -/
theorem put_bd {P : PyData → Prop} {xs : List PyData} {q : Nat} {d : PyData} (hx : ∀ x ∈ xs, P x) (hd : P d) (hl : xs.length = 8) (hq : q < 8) :
    (∀ y ∈ Vl.cutD xs none (some (q : Int)) ++ [d] ++ Vl.cutD xs (some ((q : Int) + 1)) none, P y) ∧ (Vl.cutD xs none (some (q : Int))).length + 1 + (Vl.cutD xs (some ((q : Int) + 1)) none).length = 8 := by
  have e1 := cut_lo (l := xs) (p := q) (by omega)
  have e2 := cut_hi (l := xs) (p := q + 1) (by omega)
  rw [show ((q : Int) + 1) = ((q + 1 : Nat) : Int) from rfl, e1, e2]
  refine ⟨fun y hy => ?_, by rw [List.length_take, List.length_drop]; omega⟩
  rcases List.mem_append.mp hy with hy | hy
  · rcases List.mem_append.mp hy with hy | hy
    · exact hx y (List.mem_of_mem_take hy)
    · rw [List.mem_singleton.mp hy]; exact hd
  · exact hx y (List.mem_of_mem_drop hy)
theorem pre_lt {α : Type} {all pre post : List α} {x : α} (h : all = pre ++ x :: post) : pre.length < all.length := by rw [h, List.length_append, List.length_cons]; omega
def f3P (l t : Int) (an : Str) (c p : PyData) (k : Nat) : List PyData := [itemP l t an c p (.bool (decide (3 < (k : Int)))) (.bool (decide (1 < (k : Int) % 4))) (.bool (decide (0 < (k : Int) % 2)))]
def f2P (l t : Int) (an : Str) (c p : PyData) : List PyData := (List.range 8).flatMap (f3P l t an c p)
def f1P (l t : Int) (an : Str) (c : PyData) : List PyData := sends3.flatMap (f2P l t an c)
theorem allP_f (l t : Int) (an : Str) : sends3.flatMap (f1P l t an) = allP l t an := rfl
theorem allP_sm (l t : Int) (an : Str) : Sm 2 (.list (allP l t an)) := by
  refine .lst (fun x hx => ?_) (show 72 ≤ 1000000 by decide)
  have sS : ∀ c ∈ sends3, Sm 0 c := fun c hc => by
    simp only [List.mem_cons, List.not_mem_nil, or_false] at hc
    rcases hc with rfl | rfl | rfl <;> exact .str _ _
  have sB : ∀ c ∈ bools2, Sm 0 c := fun c hc => by
    simp only [List.mem_cons, List.not_mem_nil, or_false] at hc
    rcases hc with rfl | rfl <;> exact .bl _ _
  obtain ⟨c, hc, hx⟩ := List.mem_flatMap.mp hx
  obtain ⟨p, hp, hx⟩ := List.mem_flatMap.mp hx
  obtain ⟨x1, h1, hx⟩ := List.mem_flatMap.mp hx
  obtain ⟨x2, h2, hx⟩ := List.mem_flatMap.mp hx
  obtain ⟨x3, h3, hx⟩ := List.mem_flatMap.mp hx
  rw [List.mem_singleton.mp hx]
  refine .tup (fun y hy => ?_) (show 8 ≤ 1000000 by decide)
  simp only [List.mem_cons, List.not_mem_nil, or_false] at hy
  rcases hy with rfl | rfl | rfl | rfl | rfl | rfl | rfl | rfl
  · exact .int _ _
  · exact .int _ _
  · exact sS _ hc
  · exact sS _ hp
  · exact sB _ h1
  · exact sB _ h2
  · exact sB _ h3
  · exact .str _ _
theorem allP_ni (l t : Int) (an : Str) : NotInts (allP l t an) := ⟨itemP l t an (.str "all") (.str "all") (.bool false) (.bool false) (.bool false), List.mem_cons_self, fun i h => by cases h⟩
structure OkP (e : PyData) : Prop where
  nx : noX e = true
  sh : showOk e
structure Pt (d : PyData) : Prop where
  nx : noX d = true
  sw : Sw 600 1 d
theorem pt_bd {d : PyData} (h : Bd 1 1 d) : Pt d := ⟨h.noX, Sw.of h (by decide) (by decide)⟩
theorem okp_bd {d : PyData} {n : Nat} (h : Bd 1 n d) (hn : n ≤ 5) : OkP d := ⟨h.noX, h.ok (by decide) hn⟩
theorem okp_tup {xs : List PyData} (h : ∀ x ∈ xs, Pt x) (hl : xs.length = 8) : OkP (.tuple xs) := by
  have s : Sw 10000 2 (.tuple xs) := Sw.tup (fun x hx => (h x hx).sw) (by rw [hl]; decide)
  exact ⟨by rw [noX_tup]; exact noXs_all fun x hx => (h x hx).nx, s.sh, Nat.le_trans s.dp (by decide), Nat.le_trans s.ln (by show 10000 ≤ 16777216; decide)⟩
abbrev partsP : List PyData := [.int 0, .int 1, .int 2, .int 3, .bool true, .bool false, .none, .str "all", .str "either", .str "now", .str "never", .str "cut", .str "kept", .str "All", .str "", .tuple [.str "all"], .str "eithe", .str "al", .str "no", .str "ever", .str "cu", .str "kep", .str "all either now"]
theorem parts_pt : ∀ d ∈ partsP, Pt d := by
  have w : ∀ x ∈ (["all", "either", "now", "never", "cut", "kept", "All", "", "eithe", "al", "no", "ever", "cu", "kep"] : List Str), (reprText x).length ≤ 10 := by decide +kernel
  have b : ∀ x ∈ (["all", "either", "now", "never", "cut", "kept", "All", "", "eithe", "al", "no", "ever", "cu", "kep"] : List Str), Pt (.str x) := fun x hx => pt_bd (.str _ _ (w x hx))
  have iv : ∀ i : Int, i.natAbs ≤ 3 → Pt (.int i) := fun i hi => pt_bd (.int _ _ (Nat.lt_of_le_of_lt hi (by decide)))
  intro d hd
  simp only [List.mem_cons, List.not_mem_nil, or_false] at hd
  rcases hd with rfl | rfl | rfl | rfl | rfl | rfl | rfl | rfl | rfl | rfl | rfl | rfl | rfl | rfl | rfl | rfl | rfl | rfl | rfl | rfl | rfl | rfl | rfl
  · exact iv _ (by decide)
  · exact iv _ (by decide)
  · exact iv _ (by decide)
  · exact iv _ (by decide)
  · exact pt_bd (.bl _ _)
  · exact pt_bd (.bl _ _)
  · exact pt_bd (.non _)
  · exact b _ (by decide)
  · exact b _ (by decide)
  · exact b _ (by decide)
  · exact b _ (by decide)
  · exact b _ (by decide)
  · exact b _ (by decide)
  · exact b _ (by decide)
  · exact b _ (by decide)
  · exact pt_bd (.tup (n := 0) (fun x hx => by rw [List.mem_singleton.mp hx]; exact .str _ _ (w _ (by decide))) (by decide))
  · exact b _ (by decide)
  · exact b _ (by decide)
  · exact b _ (by decide)
  · exact b _ (by decide)
  · exact b _ (by decide)
  · exact b _ (by decide)
  · refine ⟨rfl, rfl, by decide, ?_⟩
    show (reprText _).length ≤ 600
    exact Nat.le_trans (show (reprText ("all either now" : Str)).length ≤ 100 by decide +kernel) (by decide)
def spLaw (K : PySem.W.Frag) : Sp := fun vs H Q _ => ∃ (a : Addr) (ns : List Int), vs = [.ref a] ∧ SqL K H a (ns.map V.int) ∧ ns.length ≤ 63 ∧ ∀ H', Q (.bl true) H'
theorem ok_law {f : Addr} {fd : FuncData} (B : Bi mg) (hsy : SysD base) (F : Fun K "law" "law" s_law f fd)
    (C_open : ∃ (f : Addr) (fd : FuncData), FnOk P w K mg base CX0 1 f fd ["script"] (spOpen K) ∧ L2.Binds K fd ["script"] [] ∧ mg "_law_open" = some (.ref f) ∧ PySem.W.keepIn K (.ref f) = true)
    (C__law_take : Ck P w K mg base "_law_take" ["pen", "amount"] 2 spTake)
    (C__law_draw_plan : Ck P w K mg base "_law_draw_plan" ["pen", "late"] 4 spDpl)
    (C__law_one_of : Ck P w K mg base "_law_one_of" ["pen", "some"] 3 spOneOf)
    (C__law_bent : Ck P w K mg base "_law_bent" ["pen", "value"] 6 (spBent 1))
    (C__law_same : Ck P w K mg base "_law_same" ["found", "due"] 3 (spSame 2))
    (C_is_plan : Ck P w K mg base "is_plan" ["value"] 2 spIp)
    (C__law_is_plan : Ck P w K mg base "_law_is_plan" ["value"] 2 spIp)
    (C_all_plans : CkL P w K mg base "all_plans" ["lanes", "late", "anew"] 1 spAp) : FnG P w K mg base 7 f fd ["script"] (spLaw K) := by
  obtain ⟨om, hsm, hcm⟩ := hsy
  obtain ⟨fO, fdO, FO, bO, gO, kO⟩ := C_open
  refine fn_g F sc_law (fun vs H Q E h => ?_) (fun cdv A outer s H vs Q E hgd hr h => ?_)
  · obtain ⟨a, ns, rfl, _⟩ := h
    rfl
  · obtain ⟨a, ns, rfl, ha, hl, q⟩ := h
    have rest : VSs (cxOf CX0 P w K mg base ["script", "pen", "turn", "plan", "values", "again", "k", "some", "one", "j", "value", "text", "lanes", "late", "anew", "due", "children", "parents", "flags", "told"] "law" (defScope s_law) f cdv A outer s H E).nox ((defBody s_law).drop 1) _ := (vss_cons (vs_for PassesOwn.never rfl (vi_range1 (by rfl) B.b_range (va_cons v_int va_nil)) (vg_n 2 sc_law.nd) (vss_cons (vs_set 3 sc_law.nd (v_callC C__law_draw_plan (hr.mono (by decide)) (by rfl) (vp_pen 1 (vp_cons (v_add v_int (v_callC C__law_take (hr.mono (by decide)) (by rfl) (vp_pen 1 (vp_cons v_int vp_nil)))) vp_nil)))) (vss_cons (vs_own 4 sc_law.nd (vl_lst (va_cons (vv 3) (va_cons v_non (va_cons (v_tup va_nil) (va_cons (v_l (vl_list (by rfl) B.b_list (vv 3))) (va_cons (v_slice (vv 3) vo_none (vo_some v_int)) (va_cons (v_add (vv 3) (v_tup (va_cons v_int va_nil))) (va_cons (v_revT (vv 3)) va_nil))))))))) (vss_cons (vs_for PassesOwn.never rfl (vi_range1 (by rfl) B.b_range (va_cons v_int va_nil)) (vg_n 5 sc_law.nd) (vss_cons (vs_set 6 sc_law.nd (v_callC C__law_take (hr.mono (by decide)) (by rfl) (vp_pen 1 (vp_cons v_int vp_nil)))) (vss_cons (vs_set 7 sc_law.nd (v_lst (va_cons v_int (va_cons v_int (va_cons v_int (va_cons v_int (va_cons v_bl (va_cons v_bl (va_cons v_non (va_cons v_str (va_cons v_str (va_cons v_str (va_cons v_str (va_cons v_str (va_cons v_str (va_cons v_str (va_cons v_str (va_cons (v_tup (va_cons v_str va_nil)) va_nil)))))))))))))))))) (vss_cons (vs_set 7 sc_law.nd (v_add (vv 7) (v_lst (va_cons v_str (va_cons v_str (va_cons v_str (va_cons v_str (va_cons v_str (va_cons v_str (va_cons v_str va_nil)))))))))) (vss_cons (vs_set 8 sc_law.nd (v_add (v_add (v_slice (vv 3) vo_none (vo_some (vv 6))) (v_tup (va_cons (v_callC C__law_one_of (hr.mono (by decide)) (by rfl) (vp_pen 1 (vp_cons (vv 7) vp_nil))) va_nil))) (v_slice (vv 3) (vo_some (v_add (vv 6) v_int)) vo_none))) (vss_cons (vs_set 9 sc_law.nd (v_if (t_gt (vv 6) v_int) (v_callC C__law_take (hr.mono (by decide)) (by rfl) (vp_pen 1 (vp_cons v_int vp_nil))) (v_callC C__law_take (hr.mono (by decide)) (by rfl) (vp_pen 1 (vp_cons v_int vp_nil))))) (vss_cons (vs_appN 4 (v_if (t_lt (vv 9) v_int) (v_add (v_add (v_slice (vv 8) vo_none (vo_some (vv 9))) (v_tup (va_cons (v_callC C__law_one_of (hr.mono (by decide)) (by rfl) (vp_pen 1 (vp_cons (vv 7) vp_nil))) va_nil))) (v_slice (vv 8) (vo_some (v_add (vv 9) v_int)) vo_none)) (vv 8))) (vss_one (vs_appN 4 (vv 8)))))))))) (vss_dis 4 (vss_one (vs_for PassesOwn.never rfl (vi_list (v_add (vv 4) (v_l (vl_lc rfl sc_law.nd (vi_range1 (by rfl) B.b_range (va_cons v_int va_nil)) (blkOk_by (own := [("again", 5)]) (by show blkC ["script", "pen", "turn", "plan", "values", "again", "k", "some", "one", "j", "value", "text", "lanes", "late", "anew", "due", "children", "parents", "flags", "told"] (defScope s_law) _ _ = true; decide +kernel)) (fun _ _ _ _ _ => (vg_n 5 sc_law.nd)) (fun _ _ _ _ _ => vts_nil) (fun _ _ _ _ _ => (v_callC C__law_bent (hr.mono (by decide)) (by rfl) (vp_pen 1 (vp_cons (vv 3) vp_nil)))))))) (vg_n 10 sc_law.nd) (vss_cons (vs_set 11 sc_law.nd (v_repr hgd hr.units hsm hcm (by rfl) B.b_repr (va_cons (vv 10) va_nil))) (vss_one (vs_if (t_w (w_or (t_not (t_val (v_callC C__law_same (hr.mono (by decide)) (by rfl) (vp_cons (v_callC C_is_plan (hr.mono (by decide)) (by rfl) (vp_cons (vv 10) vp_nil)) (vp_cons (v_callC C__law_is_plan (hr.mono (by decide)) (by rfl) (vp_cons (vv 10) vp_nil)) vp_nil))))) (w_or1 (t_ne hr.units (v_repr hgd hr.units hsm hcm (by rfl) B.b_repr (va_cons (vv 10) va_nil)) (vv 11))))) (vss_one (vs_ret v_bl)) vss_nil)))))))))) (vss_cons (vs_par3V 12 13 14 rfl sc_law.nd (v_add v_int (v_callC C__law_take (hr.mono (by decide)) (by rfl) (vp_pen 1 (vp_cons v_int vp_nil)))) (v_add v_int (v_callC C__law_take (hr.mono (by decide)) (by rfl) (vp_pen 1 (vp_cons v_int vp_nil)))) (v_callC C__law_one_of (hr.mono (by decide)) (by rfl) (vp_pen 1 (vp_cons (v_lst (va_cons v_str (va_cons v_str (va_cons v_str va_nil)))) vp_nil)))) (vss_cons (vs_own 15 sc_law.nd (vl_lst va_nil)) (vss_cons (vs_for PassesOwn.never rfl (vi_list (v_lst (va_cons v_str (va_cons v_str (va_cons v_str va_nil))))) (vg_n 16 sc_law.nd) (vss_one (vs_for PassesOwn.never rfl (vi_list (v_lst (va_cons v_str (va_cons v_str (va_cons v_str va_nil))))) (vg_n 17 sc_law.nd) (vss_one (vs_for PassesOwn.never rfl (vi_range1 (by rfl) B.b_range (va_cons v_int va_nil)) (vg_n 18 sc_law.nd) (vss_cons (vs_set 7 sc_law.nd (v_tup (va_cons (v_gt (vv 18) v_int) (va_cons (v_gt (v_mod (v_toInt (by rfl) B.b_int (va_cons (vv 18) va_nil)) v_int) v_int) (va_cons (v_gt (v_mod (v_toInt (by rfl) B.b_int (va_cons (vv 18) va_nil)) v_int) v_int) va_nil))))) (vss_one (vs_appN 15 (v_add (v_add (v_tup (va_cons (vv 12) (va_cons (vv 13) (va_cons (vv 16) (va_cons (vv 17) va_nil))))) (vv 7)) (v_tup (va_cons (vv 14) va_nil))))))))))) (vss_dis 15 (vss_cons (vs_for PassesOwn.never rfl (vi_range1 (by rfl) B.b_range (va_cons v_int va_nil)) (vg_n 5 sc_law.nd) (vss_cons (vs_own 19 sc_law.nd (vl_callC C_all_plans (hr.mono (by decide)) (by rfl) (vp_cons (vv 12) (vp_cons (vv 13) (vp_cons (vv 14) vp_nil))))) (vss_cons (vs_if (t_bor 19 (t_not (t_val (v_callC C__law_same (hr.mono (by decide)) (by rfl) (vp_cons (vv 19) (vp_cons (vv 15) vp_nil)))))) (vss_one (vs_ret v_bl)) vss_nil) (vss_cons (vs_appN 19 v_non) (vss_dis 19 vss_nil))))) (vss_one (vs_ret v_bl))))))))
    refine ⟨_, (pss_cons (ps_set (i := 1) sc_law.nd rfl (by first | exact .inl rfl | exact .inr rfl) (pe_call FO (hr.mono (by decide)) (by rfl) gO kO bO .nil pass0 (pa_cons (pv 0) pa_nil))) rest), ?_⟩
    refine ⟨.ref a, rfl, a, ns, rfl, ha, hl, fun p H1 hp hs hpen => ?_⟩
    refine ⟨p, H1, [], [], [.un, .pen, .un, .un, .un, .un, .un, .un, .un, .un, .un, .un, .un, .un, .un, .un, .un, .un, .un, .un], 0, { nx := fun _ _ => False, rt := fun d _ => d = .bool true }, ?_, ?_, ?_⟩
    · refine ⟨Kp.refl _ _, hpen, fun _ h => h, fun _ h => (nomatch h), fun h => (nomatch h), fun _ h => (nomatch h), fun _ h => (nomatch h), rfl, fun i s hi => ?_, fun i j ds es o hi => ?_⟩
      · rcases i with _ | _ | _ | _ | _ | _ | _ | _ | _ | _ | _ | _ | _ | _ | _ | _ | _ | _ | _ | _ | i <;> cases hi
        all_goals first | trivial | rfl
      · rcases i with _ | _ | _ | _ | _ | _ | _ | _ | _ | _ | _ | _ | _ | _ | _ | _ | _ | _ | _ | _ | i <;> cases hi
    · refine seq_gen fun t1 h1 => ?_
      show (-(2 ^ 62) ≤ (2 : Int) ∧ (2 : Int) < 2 ^ 62) ∧ loopV (gN 2) _ _ (rangeD 0 2) _ _
      refine ⟨⟨by decide, by decide⟩, ?_⟩
      refine lp_inv (fun m ρ g => ∃ s2 s3 s4 s5 s6 s7 s8 s9 s10 s11 s12 s13 s14 s15 s16 s17 s18 s19 : Sl, ρ = [.un, .pen, s2, s3, s4, s5, s6, s7, s8, s9, s10, s11, s12, s13, s14, s15, s16, s17, s18, s19] ∧ g + 600 * m ≤ 1300) ?_ ?_ _ _ _ ⟨_, _, _, _, _, _, _, _, _, _, _, _, _, _, _, _, _, _, rfl, by decide⟩
      · rintro ρ g ⟨s2, s3, s4, s5, s6, s7, s8, s9, s10, s11, s12, s13, s14, s15, s16, s17, s18, s19, rfl, hg⟩
        subst h1
        dsimp only
        refine seq_gen fun t1 h1 => ?_
        simp only [sSeq, sIf, sSet, sOwn, sRet, sRetN, sNext, sDis, sSetIx, sApp, sAsg, sPar, sPar2O, sPar3, wB, wOp, wVar, wC, wNil, wCons, pNil, pCons, pPen, wTup, lLst, wL, wCall, wChain, Vl.wAnd, Vl.wOr, Vl.wNot, wAndV, wOrV, wNotV, wIf, wNeg, wIsN, wIsa, wFn, wSl, oNo, oPt, lList, wRevL, wIxO, wEqE, gN, gsNil, gsCons, gT, iL, iT, iR1, iR2, iZp, iEn, wYes, wipeV, endV, startV, e_fII, e_addI, e_addT, e_addL, e_intI, e_intB, e_mulT, e_mulL, e_lenL, e_lenT, e_tupL, e_tupT, e_eqI, e_neI, e_eqB, e_neB, e_eqS, e_neS, e_ix0T, e_ix1T, e_ix2T, e_ix3T, e_ix4T, e_ix0L, e_ix1L, e_ix2L, List.length_cons, List.length_nil, List.replicate, List.cons_append, List.nil_append, List.getElem?_cons_zero, List.getElem?_cons_succ, List.set_cons_zero, List.set_cons_succ, Nat.reduceAdd, Nat.reduceSub, List.replicate_succ, List.replicate_zero, true_and, if_true, if_false, Bool.false_eq_true, reduceIte, Int.toNat_natCast, fGt, fLtI, fLe, fGe, wFn, startV_one, isIntStr, isTupList, Bool.not_true, Bool.not_false, k_isInt_none, k_isInt_bool, k_isInt_int, k_isInt_str, k_isInt_list, k_isInt_tuple, k_isInt_dict, k_isBool_none, k_isBool_bool, k_isBool_int, k_isBool_str, k_isBool_list, k_isBool_tuple, k_isBool_dict, k_isTuple_none, k_isTuple_bool, k_isTuple_int, k_isTuple_str, k_isTuple_list, k_isTuple_tuple, k_isTuple_dict, k_isList_none, k_isList_bool, k_isList_int, k_isList_str, k_isList_list, k_isList_tuple, k_isList_dict, k_isStr_none, k_isStr_bool, k_isStr_int, k_isStr_str, k_isStr_list, k_isStr_tuple, k_isStr_dict, lRg1, lRg2, lLc2, iEm, lSeq, lOf, lRet, lRetO, lDis, lIf, lFn, sApp, sFor_eq, sPar2P, lLc, and_self, lMulL, wRevT, lList, sPar3V]
        refine ⟨2, rfl, ⟨by decide, by decide⟩, by show g < 4000000000; omega, fun r r0 r1 => ?_⟩
        simp only [sSeq, sIf, sSet, sOwn, sRet, sRetN, sNext, sDis, sSetIx, sApp, sAsg, sPar, sPar2O, sPar3, wB, wOp, wVar, wC, wNil, wCons, pNil, pCons, pPen, wTup, lLst, wL, wCall, wChain, Vl.wAnd, Vl.wOr, Vl.wNot, wAndV, wOrV, wNotV, wIf, wNeg, wIsN, wIsa, wFn, wSl, oNo, oPt, lList, wRevL, wIxO, wEqE, gN, gsNil, gsCons, gT, iL, iT, iR1, iR2, iZp, iEn, wYes, wipeV, endV, startV, e_fII, e_addI, e_addT, e_addL, e_intI, e_intB, e_mulT, e_mulL, e_lenL, e_lenT, e_tupL, e_tupT, e_eqI, e_neI, e_eqB, e_neB, e_eqS, e_neS, e_ix0T, e_ix1T, e_ix2T, e_ix3T, e_ix4T, e_ix0L, e_ix1L, e_ix2L, List.length_cons, List.length_nil, List.replicate, List.cons_append, List.nil_append, List.getElem?_cons_zero, List.getElem?_cons_succ, List.set_cons_zero, List.set_cons_succ, Nat.reduceAdd, Nat.reduceSub, List.replicate_succ, List.replicate_zero, true_and, if_true, if_false, Bool.false_eq_true, reduceIte, Int.toNat_natCast, fGt, fLtI, fLe, fGe, wFn, startV_one, isIntStr, isTupList, Bool.not_true, Bool.not_false, k_isInt_none, k_isInt_bool, k_isInt_int, k_isInt_str, k_isInt_list, k_isInt_tuple, k_isInt_dict, k_isBool_none, k_isBool_bool, k_isBool_int, k_isBool_str, k_isBool_list, k_isBool_tuple, k_isBool_dict, k_isTuple_none, k_isTuple_bool, k_isTuple_int, k_isTuple_str, k_isTuple_list, k_isTuple_tuple, k_isTuple_dict, k_isList_none, k_isList_bool, k_isList_int, k_isList_str, k_isList_list, k_isList_tuple, k_isList_dict, k_isStr_none, k_isStr_bool, k_isStr_int, k_isStr_str, k_isStr_list, k_isStr_tuple, k_isStr_dict, lRg1, lRg2, lLc2, iEm, lSeq, lOf, lRet, lRetO, lDis, lIf, lFn, sApp, sFor_eq, sPar2P, lLc, and_self, lMulL, wRevT, lList]
        refine ⟨2, rfl, ⟨by decide, by decide⟩, by show g + 1 < 4000000000; omega, fun r2 r20 r21 => ?_⟩
        simp only [sSeq, sIf, sSet, sOwn, sRet, sRetN, sNext, sDis, sSetIx, sApp, sAsg, sPar, sPar2O, sPar3, wB, wOp, wVar, wC, wNil, wCons, pNil, pCons, pPen, wTup, lLst, wL, wCall, wChain, Vl.wAnd, Vl.wOr, Vl.wNot, wAndV, wOrV, wNotV, wIf, wNeg, wIsN, wIsa, wFn, wSl, oNo, oPt, lList, wRevL, wIxO, wEqE, gN, gsNil, gsCons, gT, iL, iT, iR1, iR2, iZp, iEn, wYes, wipeV, endV, startV, e_fII, e_addI, e_addT, e_addL, e_intI, e_intB, e_mulT, e_mulL, e_lenL, e_lenT, e_tupL, e_tupT, e_eqI, e_neI, e_eqB, e_neB, e_eqS, e_neS, e_ix0T, e_ix1T, e_ix2T, e_ix3T, e_ix4T, e_ix0L, e_ix1L, e_ix2L, List.length_cons, List.length_nil, List.replicate, List.cons_append, List.nil_append, List.getElem?_cons_zero, List.getElem?_cons_succ, List.set_cons_zero, List.set_cons_succ, Nat.reduceAdd, Nat.reduceSub, List.replicate_succ, List.replicate_zero, true_and, if_true, if_false, Bool.false_eq_true, reduceIte, Int.toNat_natCast, fGt, fLtI, fLe, fGe, wFn, startV_one, isIntStr, isTupList, Bool.not_true, Bool.not_false, k_isInt_none, k_isInt_bool, k_isInt_int, k_isInt_str, k_isInt_list, k_isInt_tuple, k_isInt_dict, k_isBool_none, k_isBool_bool, k_isBool_int, k_isBool_str, k_isBool_list, k_isBool_tuple, k_isBool_dict, k_isTuple_none, k_isTuple_bool, k_isTuple_int, k_isTuple_str, k_isTuple_list, k_isTuple_tuple, k_isTuple_dict, k_isList_none, k_isList_bool, k_isList_int, k_isList_str, k_isList_list, k_isList_tuple, k_isList_dict, k_isStr_none, k_isStr_bool, k_isStr_int, k_isStr_str, k_isStr_list, k_isStr_tuple, k_isStr_dict, lRg1, lRg2, lLc2, iEm, lSeq, lOf, lRet, lRetO, lDis, lIf, lFn, sApp, sFor_eq, sPar2P, lLc, and_self, lMulL, wRevT, lList]
        refine ⟨by decide, _, rfl, ⟨by decide, by decide⟩, by show g + 1 + 1 < 4000000000; omega, fun d3 hd3 => ?_⟩
        have han : ∃ an : Str, d3 = .str an := by
          simp only [List.mem_cons, List.not_mem_nil, or_false] at hd3
          rcases hd3 with rfl | rfl | rfl <;> exact ⟨_, rfl⟩
        obtain ⟨an, rfl⟩ := han
        generalize (1 + r : Int) = ln
        generalize (1 + r2 : Int) = lt
        clear hd3 r0 r1 r20 r21
        subst h1
        refine seq_gen fun t1 h1 => ?_
        simp only [sSeq, sIf, sSet, sOwn, sRet, sRetN, sNext, sDis, sSetIx, sApp, sAsg, sPar, sPar2O, sPar3, wB, wOp, wVar, wC, wNil, wCons, pNil, pCons, pPen, wTup, lLst, wL, wCall, wChain, Vl.wAnd, Vl.wOr, Vl.wNot, wAndV, wOrV, wNotV, wIf, wNeg, wIsN, wIsa, wFn, wSl, oNo, oPt, lList, wRevL, wIxO, wEqE, gN, gsNil, gsCons, gT, iL, iT, iR1, iR2, iZp, iEn, wYes, wipeV, endV, startV, e_fII, e_addI, e_addT, e_addL, e_intI, e_intB, e_mulT, e_mulL, e_lenL, e_lenT, e_tupL, e_tupT, e_eqI, e_neI, e_eqB, e_neB, e_eqS, e_neS, e_ix0T, e_ix1T, e_ix2T, e_ix3T, e_ix4T, e_ix0L, e_ix1L, e_ix2L, List.length_cons, List.length_nil, List.replicate, List.cons_append, List.nil_append, List.getElem?_cons_zero, List.getElem?_cons_succ, List.set_cons_zero, List.set_cons_succ, Nat.reduceAdd, Nat.reduceSub, List.replicate_succ, List.replicate_zero, true_and, if_true, if_false, Bool.false_eq_true, reduceIte, Int.toNat_natCast, fGt, fLtI, fLe, fGe, wFn, startV_one, isIntStr, isTupList, Bool.not_true, Bool.not_false, k_isInt_none, k_isInt_bool, k_isInt_int, k_isInt_str, k_isInt_list, k_isInt_tuple, k_isInt_dict, k_isBool_none, k_isBool_bool, k_isBool_int, k_isBool_str, k_isBool_list, k_isBool_tuple, k_isBool_dict, k_isTuple_none, k_isTuple_bool, k_isTuple_int, k_isTuple_str, k_isTuple_list, k_isTuple_tuple, k_isTuple_dict, k_isList_none, k_isList_bool, k_isList_int, k_isList_str, k_isList_list, k_isList_tuple, k_isList_dict, k_isStr_none, k_isStr_bool, k_isStr_int, k_isStr_str, k_isStr_list, k_isStr_tuple, k_isStr_dict, lRg1, lRg2, lLc2, iEm, lSeq, lOf, lRet, lRetO, lDis, lIf, lFn, sApp, sFor_eq, sPar2P, lLc, and_self, lMulL, wRevT, lList]
        refine ⟨by decide, ?_⟩
        subst h1
        refine seq_gen fun t1 h1 => ?_
        rw [sFor_eq]
        simp only [iL, wL, lLst, wCons, wNil, wC]
        refine ⟨by decide, ?_⟩
        try dsimp only
        have f24 : ∀ c, (f1P ln lt an c).length = 24 := fun c => rfl
        have f8 : ∀ c p, (f2P ln lt an c p).length = 8 := fun c p => rfl
        refine lp_pre (enc := fun d : PyData => d) (fun pre ρ => ∃ (acc : List PyData) (s7 s16 s17 s18 : Sl), ρ = [.un, .pen, s2, s3, s4, s5, s6, s7, s8, s9, s10, s11, .val (.int ln), .val (.int lt), .val (.str an), .own acc, s16, s17, s18, s19] ∧ acc = pre.flatMap (f1P ln lt an) ∧ acc.length = 24 * pre.length) sends3 ?_ ?_ sends3 [] _ rfl ⟨[], _, _, _, _, rfl, rfl, rfl⟩
        · rintro pre c post hall ρ N ⟨acc, s7, s16, s17, s18, rfl, hacc, hlen⟩ hN
          have hpl : pre.length < 3 := pre_lt hall
          simp only [gN, List.set_cons_succ, List.set_cons_zero]
          rw [sFor_eq]
          simp only [iL, wL, lLst, wCons, wNil, wC]
          refine ⟨by decide, ?_⟩
          try dsimp only
          refine lp_pre (enc := fun d : PyData => d) (fun pre2 ρ => ∃ (acc2 : List PyData) (s7 s17 s18 : Sl), ρ = [.un, .pen, s2, s3, s4, s5, s6, s7, s8, s9, s10, s11, .val (.int ln), .val (.int lt), .val (.str an), .own acc2, .val c, s17, s18, s19] ∧ acc2 = acc ++ pre2.flatMap (f2P ln lt an c) ∧ acc2.length = acc.length + 8 * pre2.length) sends3 ?_ ?_ sends3 [] _ rfl ⟨acc, _, _, _, rfl, by rw [List.flatMap_nil, List.append_nil], rfl⟩
          · rintro pre2 p post2 hall2 ρ N2 ⟨acc2, s7, s17, s18, rfl, hacc2, hlen2⟩ hN2
            have hpl2 : pre2.length < 3 := pre_lt hall2
            simp only [gN, List.set_cons_succ, List.set_cons_zero]
            show (-(2 ^ 62) ≤ (8 : Int) ∧ (8 : Int) < 2 ^ 62) ∧ loopV (gN 18) _ _ ((List.range 8).map fun (k : Nat) => PyData.int ((k : Nat) : Int)) _ _
            refine ⟨⟨by decide, by decide⟩, ?_⟩
            refine lp_pre (enc := fun k : Nat => PyData.int (k : Int)) (fun pre3 ρ => ∃ (acc3 : List PyData) (s7 s18 : Sl), ρ = [.un, .pen, s2, s3, s4, s5, s6, s7, s8, s9, s10, s11, .val (.int ln), .val (.int lt), .val (.str an), .own acc3, .val c, .val p, s18, s19] ∧ acc3 = acc2 ++ pre3.flatMap (f3P ln lt an c p) ∧ acc3.length = acc2.length + pre3.length) (List.range 8) ?_ ?_ (List.range 8) [] _ rfl ⟨acc2, _, _, rfl, by rw [List.flatMap_nil, List.append_nil], rfl⟩
            · rintro pre3 k post3 hall3 ρ N3 ⟨acc3, s7, s18, rfl, hacc3, hlen3⟩ hN3
              have hpl3 : pre3.length < 8 := by have := pre_lt hall3; rwa [List.length_range] at this
              simp only [sSeq, sIf, sSet, sOwn, sRet, sRetN, sNext, sDis, sSetIx, sApp, sAsg, sPar, sPar2O, sPar3, wB, wOp, wVar, wC, wNil, wCons, pNil, pCons, pPen, wTup, lLst, wL, wCall, wChain, Vl.wAnd, Vl.wOr, Vl.wNot, wAndV, wOrV, wNotV, wIf, wNeg, wIsN, wIsa, wFn, wSl, oNo, oPt, lList, wRevL, wIxO, wEqE, gN, gsNil, gsCons, gT, iL, iT, iR1, iR2, iZp, iEn, wYes, wipeV, endV, startV, e_fII, e_addI, e_addT, e_addL, e_intI, e_intB, e_mulT, e_mulL, e_lenL, e_lenT, e_tupL, e_tupT, e_eqI, e_neI, e_eqB, e_neB, e_eqS, e_neS, e_ix0T, e_ix1T, e_ix2T, e_ix3T, e_ix4T, e_ix0L, e_ix1L, e_ix2L, List.length_cons, List.length_nil, List.replicate, List.cons_append, List.nil_append, List.getElem?_cons_zero, List.getElem?_cons_succ, List.set_cons_zero, List.set_cons_succ, Nat.reduceAdd, Nat.reduceSub, List.replicate_succ, List.replicate_zero, true_and, if_true, if_false, Bool.false_eq_true, reduceIte, Int.toNat_natCast, fGt, fLtI, fLe, fGe, wFn, startV_one, isIntStr, isTupList, Bool.not_true, Bool.not_false, k_isInt_none, k_isInt_bool, k_isInt_int, k_isInt_str, k_isInt_list, k_isInt_tuple, k_isInt_dict, k_isBool_none, k_isBool_bool, k_isBool_int, k_isBool_str, k_isBool_list, k_isBool_tuple, k_isBool_dict, k_isTuple_none, k_isTuple_bool, k_isTuple_int, k_isTuple_str, k_isTuple_list, k_isTuple_tuple, k_isTuple_dict, k_isList_none, k_isList_bool, k_isList_int, k_isList_str, k_isList_list, k_isList_tuple, k_isList_dict, k_isStr_none, k_isStr_bool, k_isStr_int, k_isStr_str, k_isStr_list, k_isStr_tuple, k_isStr_dict, lRg1, lRg2, lLc2, iEm, lSeq, lOf, lRet, lRetO, lDis, lIf, lFn, sApp, sFor_eq, sPar2P, lLc, and_self, lMulL, wRevT, lList]
              refine ⟨by decide, by decide, by decide, _, rfl, by decide, by decide, by decide, by decide, by show _ < 16777216; omega, hN3 _ ⟨_, _, _, rfl, ?_, by rw [List.length_append, List.length_append, List.length_singleton, List.length_singleton]; omega⟩⟩
              rw [hacc3, List.flatMap_append, List.append_assoc]
              rfl
            · rintro ρ ⟨acc3, s7, s18, rfl, hacc3, hlen3⟩
              exact hN2 _ ⟨acc3, _, _, _, rfl, by rw [hacc3, hacc2, List.flatMap_append, List.append_assoc]; rfl, by rw [hlen3, hlen2, List.length_range, List.length_append, List.length_singleton]; omega⟩
          · rintro ρ ⟨acc2, s7, s17, s18, rfl, hacc2, hlen2⟩
            exact hN _ ⟨acc2, _, _, _, _, rfl, by rw [hacc2, hacc, List.flatMap_append]; rfl, by rw [hlen2, hlen, List.length_append, List.length_singleton]; show _ + 8 * 3 = _; omega⟩
        · rintro ρ ⟨acc, s7, s16, s17, s18, rfl, hacc, hlen⟩
          rw [allP_f] at hacc
          subst hacc
          subst h1
          simp only [sDis, List.getElem?_cons_succ, List.getElem?_cons_zero]
          refine ⟨_, rfl, ?_⟩
          simp only [List.set_cons_succ, List.set_cons_zero]
          have hsm := allP_sm ln lt an
          have hni : NotInts (allP ln lt an) := allP_ni ln lt an
          have hal : (allP ln lt an).length = 72 := rfl
          generalize hall : allP ln lt an = aL at hsm hni hal
          refine seq_gen fun t1 h1 => ?_
          show (-(2 ^ 62) ≤ (2 : Int) ∧ (2 : Int) < 2 ^ 62) ∧ loopV (gN 5) _ _ (rangeD 0 2) _ _
          refine ⟨⟨by decide, by decide⟩, ?_⟩
          refine lp_inv (fun m ρ g2 => ∃ s5 s19 : Sl, ρ = [.un, .pen, s2, s3, s4, s5, s6, s7, s8, s9, s10, s11, .val (.int ln), .val (.int lt), .val (.str an), .val (.list aL), s16, s17, s18, s19] ∧ g2 = g + 1 + 1 + 1) ?_ ?_ _ _ _ ⟨_, _, rfl, rfl⟩
          · rintro ρ g2 ⟨s5, s19, rfl, rfl⟩
            subst h1
            rfl
          · rintro e m ρ g2 N ⟨s5, s19, rfl, rfl⟩ hN
            refine seq_gen fun t2 h2 => ?_
            simp only [sSeq, sIf, sSet, sOwn, sRet, sRetN, sNext, sDis, sSetIx, sApp, sAsg, sPar, sPar2O, sPar3, wB, wOp, wVar, wC, wNil, wCons, pNil, pCons, pPen, wTup, lLst, wL, wCall, wChain, Vl.wAnd, Vl.wOr, Vl.wNot, wAndV, wOrV, wNotV, wIf, wNeg, wIsN, wIsa, wFn, wSl, oNo, oPt, lList, wRevL, wIxO, wEqE, gN, gsNil, gsCons, gT, iL, iT, iR1, iR2, iZp, iEn, wYes, wipeV, endV, startV, e_fII, e_addI, e_addT, e_addL, e_intI, e_intB, e_mulT, e_mulL, e_lenL, e_lenT, e_tupL, e_tupT, e_eqI, e_neI, e_eqB, e_neB, e_eqS, e_neS, e_ix0T, e_ix1T, e_ix2T, e_ix3T, e_ix4T, e_ix0L, e_ix1L, e_ix2L, List.length_cons, List.length_nil, List.replicate, List.cons_append, List.nil_append, List.getElem?_cons_zero, List.getElem?_cons_succ, List.set_cons_zero, List.set_cons_succ, Nat.reduceAdd, Nat.reduceSub, List.replicate_succ, List.replicate_zero, true_and, if_true, if_false, Bool.false_eq_true, reduceIte, Int.toNat_natCast, fGt, fLtI, fLe, fGe, wFn, startV_one, isIntStr, isTupList, Bool.not_true, Bool.not_false, k_isInt_none, k_isInt_bool, k_isInt_int, k_isInt_str, k_isInt_list, k_isInt_tuple, k_isInt_dict, k_isBool_none, k_isBool_bool, k_isBool_int, k_isBool_str, k_isBool_list, k_isBool_tuple, k_isBool_dict, k_isTuple_none, k_isTuple_bool, k_isTuple_int, k_isTuple_str, k_isTuple_list, k_isTuple_tuple, k_isTuple_dict, k_isList_none, k_isList_bool, k_isList_int, k_isList_str, k_isList_list, k_isList_tuple, k_isList_dict, k_isStr_none, k_isStr_bool, k_isStr_int, k_isStr_str, k_isStr_list, k_isStr_tuple, k_isStr_dict, lRg1, lRg2, lLc2, iEm, lSeq, lOf, lRet, lRetO, lDis, lIf, lFn, sApp, sFor_eq, sPar2P, lLc, and_self, lMulL, wRevT, lList]
            refine ⟨ln, lt, an, rfl, ?_⟩
            rw [hall]
            subst h2
            refine seq_gen fun t2 h2 => ?_
            refine if_b false (fun R h => ?_) (fun hb => nomatch hb) (fun _ => ?_)
            · refine ⟨aL, rfl, hni, ?_⟩
              simp only [sSeq, sIf, sSet, sOwn, sRet, sRetN, sNext, sDis, sSetIx, sApp, sAsg, sPar, sPar2O, sPar3, wB, wOp, wVar, wC, wNil, wCons, pNil, pCons, pPen, wTup, lLst, wL, wCall, wChain, Vl.wAnd, Vl.wOr, Vl.wNot, wAndV, wOrV, wNotV, wIf, wNeg, wIsN, wIsa, wFn, wSl, oNo, oPt, lList, wRevL, wIxO, wEqE, gN, gsNil, gsCons, gT, iL, iT, iR1, iR2, iZp, iEn, wYes, wipeV, endV, startV, e_fII, e_addI, e_addT, e_addL, e_intI, e_intB, e_mulT, e_mulL, e_lenL, e_lenT, e_tupL, e_tupT, e_eqI, e_neI, e_eqB, e_neB, e_eqS, e_neS, e_ix0T, e_ix1T, e_ix2T, e_ix3T, e_ix4T, e_ix0L, e_ix1L, e_ix2L, List.length_cons, List.length_nil, List.replicate, List.cons_append, List.nil_append, List.getElem?_cons_zero, List.getElem?_cons_succ, List.set_cons_zero, List.set_cons_succ, Nat.reduceAdd, Nat.reduceSub, List.replicate_succ, List.replicate_zero, true_and, if_true, if_false, Bool.false_eq_true, reduceIte, Int.toNat_natCast, fGt, fLtI, fLe, fGe, wFn, startV_one, isIntStr, isTupList, Bool.not_true, Bool.not_false, k_isInt_none, k_isInt_bool, k_isInt_int, k_isInt_str, k_isInt_list, k_isInt_tuple, k_isInt_dict, k_isBool_none, k_isBool_bool, k_isBool_int, k_isBool_str, k_isBool_list, k_isBool_tuple, k_isBool_dict, k_isTuple_none, k_isTuple_bool, k_isTuple_int, k_isTuple_str, k_isTuple_list, k_isTuple_tuple, k_isTuple_dict, k_isList_none, k_isList_bool, k_isList_int, k_isList_str, k_isList_list, k_isList_tuple, k_isList_dict, k_isStr_none, k_isStr_bool, k_isStr_int, k_isStr_str, k_isStr_list, k_isStr_tuple, k_isStr_dict, lRg1, lRg2, lLc2, iEm, lSeq, lOf, lRet, lRetO, lDis, lIf, lFn, sApp, sFor_eq, sPar2P, lLc, and_self, lMulL, wRevT, lList]
              exact ⟨_, rfl, hsm, h⟩
            · subst h2
              simp only [sSeq, sIf, sSet, sOwn, sRet, sRetN, sNext, sDis, sSetIx, sApp, sAsg, sPar, sPar2O, sPar3, wB, wOp, wVar, wC, wNil, wCons, pNil, pCons, pPen, wTup, lLst, wL, wCall, wChain, Vl.wAnd, Vl.wOr, Vl.wNot, wAndV, wOrV, wNotV, wIf, wNeg, wIsN, wIsa, wFn, wSl, oNo, oPt, lList, wRevL, wIxO, wEqE, gN, gsNil, gsCons, gT, iL, iT, iR1, iR2, iZp, iEn, wYes, wipeV, endV, startV, e_fII, e_addI, e_addT, e_addL, e_intI, e_intB, e_mulT, e_mulL, e_lenL, e_lenT, e_tupL, e_tupT, e_eqI, e_neI, e_eqB, e_neB, e_eqS, e_neS, e_ix0T, e_ix1T, e_ix2T, e_ix3T, e_ix4T, e_ix0L, e_ix1L, e_ix2L, List.length_cons, List.length_nil, List.replicate, List.cons_append, List.nil_append, List.getElem?_cons_zero, List.getElem?_cons_succ, List.set_cons_zero, List.set_cons_succ, Nat.reduceAdd, Nat.reduceSub, List.replicate_succ, List.replicate_zero, true_and, if_true, if_false, Bool.false_eq_true, reduceIte, Int.toNat_natCast, fGt, fLtI, fLe, fGe, wFn, startV_one, isIntStr, isTupList, Bool.not_true, Bool.not_false, k_isInt_none, k_isInt_bool, k_isInt_int, k_isInt_str, k_isInt_list, k_isInt_tuple, k_isInt_dict, k_isBool_none, k_isBool_bool, k_isBool_int, k_isBool_str, k_isBool_list, k_isBool_tuple, k_isBool_dict, k_isTuple_none, k_isTuple_bool, k_isTuple_int, k_isTuple_str, k_isTuple_list, k_isTuple_tuple, k_isTuple_dict, k_isList_none, k_isList_bool, k_isList_int, k_isList_str, k_isList_list, k_isList_tuple, k_isList_dict, k_isStr_none, k_isStr_bool, k_isStr_int, k_isStr_str, k_isStr_list, k_isStr_tuple, k_isStr_dict, lRg1, lRg2, lLc2, iEm, lSeq, lOf, lRet, lRetO, lDis, lIf, lFn, sApp, sFor_eq, sPar2P, lLc, and_self, lMulL, wRevT, lList]
              exact ⟨_, rfl, by show _ < 16777216; omega, _, rfl, hN _ _ ⟨_, _, rfl, rfl⟩⟩
      · rintro d m ρ g N ⟨s2, s3, s4, s5, s6, s7, s8, s9, s10, s11, s12, s13, s14, s15, s16, s17, s18, s19, rfl, hg⟩ hN
        refine seq_gen fun t1 h1 => ?_
        simp only [sSeq, sIf, sSet, sOwn, sRet, sRetN, sNext, sDis, sSetIx, sApp, sAsg, sPar, sPar2O, sPar3, wB, wOp, wVar, wC, wNil, wCons, pNil, pCons, pPen, wTup, lLst, wL, wCall, wChain, Vl.wAnd, Vl.wOr, Vl.wNot, wAndV, wOrV, wNotV, wIf, wNeg, wIsN, wIsa, wFn, wSl, oNo, oPt, lList, wRevL, wIxO, wEqE, gN, gsNil, gsCons, gT, iL, iT, iR1, iR2, iZp, iEn, wYes, wipeV, endV, startV, e_fII, e_addI, e_addT, e_addL, e_intI, e_intB, e_mulT, e_mulL, e_lenL, e_lenT, e_tupL, e_tupT, e_eqI, e_neI, e_eqB, e_neB, e_eqS, e_neS, e_ix0T, e_ix1T, e_ix2T, e_ix3T, e_ix4T, e_ix0L, e_ix1L, e_ix2L, List.length_cons, List.length_nil, List.replicate, List.cons_append, List.nil_append, List.getElem?_cons_zero, List.getElem?_cons_succ, List.set_cons_zero, List.set_cons_succ, Nat.reduceAdd, Nat.reduceSub, List.replicate_succ, List.replicate_zero, true_and, if_true, if_false, Bool.false_eq_true, reduceIte, Int.toNat_natCast, fGt, fLtI, fLe, fGe, wFn, startV_one, isIntStr, isTupList, Bool.not_true, Bool.not_false, k_isInt_none, k_isInt_bool, k_isInt_int, k_isInt_str, k_isInt_list, k_isInt_tuple, k_isInt_dict, k_isBool_none, k_isBool_bool, k_isBool_int, k_isBool_str, k_isBool_list, k_isBool_tuple, k_isBool_dict, k_isTuple_none, k_isTuple_bool, k_isTuple_int, k_isTuple_str, k_isTuple_list, k_isTuple_tuple, k_isTuple_dict, k_isList_none, k_isList_bool, k_isList_int, k_isList_str, k_isList_list, k_isList_tuple, k_isList_dict, k_isStr_none, k_isStr_bool, k_isStr_int, k_isStr_str, k_isStr_list, k_isStr_tuple, k_isStr_dict, lRg1, lRg2, lLc2, iEm, lSeq, lOf, lRet, lRetO, lDis, lIf, lFn, sApp, sFor_eq, sPar2P, lLc, and_self, lMulL, wRevT, lList]
        refine ⟨2, rfl, ⟨by decide, by decide⟩, by show g < 4000000000; omega, fun r r0 r1 => ?_⟩
        simp only [sSeq, sIf, sSet, sOwn, sRet, sRetN, sNext, sDis, sSetIx, sApp, sAsg, sPar, sPar2O, sPar3, wB, wOp, wVar, wC, wNil, wCons, pNil, pCons, pPen, wTup, lLst, wL, wCall, wChain, Vl.wAnd, Vl.wOr, Vl.wNot, wAndV, wOrV, wNotV, wIf, wNeg, wIsN, wIsa, wFn, wSl, oNo, oPt, lList, wRevL, wIxO, wEqE, gN, gsNil, gsCons, gT, iL, iT, iR1, iR2, iZp, iEn, wYes, wipeV, endV, startV, e_fII, e_addI, e_addT, e_addL, e_intI, e_intB, e_mulT, e_mulL, e_lenL, e_lenT, e_tupL, e_tupT, e_eqI, e_neI, e_eqB, e_neB, e_eqS, e_neS, e_ix0T, e_ix1T, e_ix2T, e_ix3T, e_ix4T, e_ix0L, e_ix1L, e_ix2L, List.length_cons, List.length_nil, List.replicate, List.cons_append, List.nil_append, List.getElem?_cons_zero, List.getElem?_cons_succ, List.set_cons_zero, List.set_cons_succ, Nat.reduceAdd, Nat.reduceSub, List.replicate_succ, List.replicate_zero, true_and, if_true, if_false, Bool.false_eq_true, reduceIte, Int.toNat_natCast, fGt, fLtI, fLe, fGe, wFn, startV_one, isIntStr, isTupList, Bool.not_true, Bool.not_false, k_isInt_none, k_isInt_bool, k_isInt_int, k_isInt_str, k_isInt_list, k_isInt_tuple, k_isInt_dict, k_isBool_none, k_isBool_bool, k_isBool_int, k_isBool_str, k_isBool_list, k_isBool_tuple, k_isBool_dict, k_isTuple_none, k_isTuple_bool, k_isTuple_int, k_isTuple_str, k_isTuple_list, k_isTuple_tuple, k_isTuple_dict, k_isList_none, k_isList_bool, k_isList_int, k_isList_str, k_isList_list, k_isList_tuple, k_isList_dict, k_isStr_none, k_isStr_bool, k_isStr_int, k_isStr_str, k_isStr_list, k_isStr_tuple, k_isStr_dict, lRg1, lRg2, lLc2, iEm, lSeq, lOf, lRet, lRetO, lDis, lIf, lFn, sApp, sFor_eq, sPar2P, lLc, and_self, lMulL, wRevT, lList]
        refine ⟨1 + r, rfl, by omega, by show g + 1 + 7 ≤ 4000000000; omega, fun pl po _ => ?_⟩
        have hpb := pll_bd po
        have hpn := pll_nd po
        have hpl : (plL pl).length = 8 := rfl
        rw [plD_L]
        generalize plL pl = pL at hpb hpn hpl
        have hpp : ∀ x ∈ pL, Pt x := fun x hx => pt_bd (hpb 1 x hx)
        have bt : Bd 1 1 (.tuple pL) := .tup (hpb 0) (by omega)
        subst h1
        refine seq_gen fun t1 h1 => ?_
        simp only [sSeq, sIf, sSet, sOwn, sRet, sRetN, sNext, sDis, sSetIx, sApp, sAsg, sPar, sPar2O, sPar3, wB, wOp, wVar, wC, wNil, wCons, pNil, pCons, pPen, wTup, lLst, wL, wCall, wChain, Vl.wAnd, Vl.wOr, Vl.wNot, wAndV, wOrV, wNotV, wIf, wNeg, wIsN, wIsa, wFn, wSl, oNo, oPt, lList, wRevL, wIxO, wEqE, gN, gsNil, gsCons, gT, iL, iT, iR1, iR2, iZp, iEn, wYes, wipeV, endV, startV, e_fII, e_addI, e_addT, e_addL, e_intI, e_intB, e_mulT, e_mulL, e_lenL, e_lenT, e_tupL, e_tupT, e_eqI, e_neI, e_eqB, e_neB, e_eqS, e_neS, e_ix0T, e_ix1T, e_ix2T, e_ix3T, e_ix4T, e_ix0L, e_ix1L, e_ix2L, List.length_cons, List.length_nil, List.replicate, List.cons_append, List.nil_append, List.getElem?_cons_zero, List.getElem?_cons_succ, List.set_cons_zero, List.set_cons_succ, Nat.reduceAdd, Nat.reduceSub, List.replicate_succ, List.replicate_zero, true_and, if_true, if_false, Bool.false_eq_true, reduceIte, Int.toNat_natCast, fGt, fLtI, fLe, fGe, wFn, startV_one, isIntStr, isTupList, Bool.not_true, Bool.not_false, k_isInt_none, k_isInt_bool, k_isInt_int, k_isInt_str, k_isInt_list, k_isInt_tuple, k_isInt_dict, k_isBool_none, k_isBool_bool, k_isBool_int, k_isBool_str, k_isBool_list, k_isBool_tuple, k_isBool_dict, k_isTuple_none, k_isTuple_bool, k_isTuple_int, k_isTuple_str, k_isTuple_list, k_isTuple_tuple, k_isTuple_dict, k_isList_none, k_isList_bool, k_isList_int, k_isList_str, k_isList_list, k_isList_tuple, k_isList_dict, k_isStr_none, k_isStr_bool, k_isStr_int, k_isStr_str, k_isStr_list, k_isStr_tuple, k_isStr_dict, lRg1, lRg2, lLc2, iEm, lSeq, lOf, lRet, lRetO, lDis, lIf, lFn, sApp, sFor_eq, sPar2P, lLc, and_self, lMulL, wRevT, lList]
        have key : ∀ (L : List PyData) (bk : Rho → Nat → Prop), L.length = 7 → (∀ x ∈ L, OkP x) → t1 { nx := N, rt := fun d x => d = PyData.bool true, bk := bk, ct := N } [.un, .pen, .val d, .val (.tuple pL), .own L, s5, s6, s7, s8, s9, s10, s11, s12, s13, s14, s15, s16, s17, s18, s19] (g + 1 + 7) := fun L bk hL hO => by
          subst h1
          refine seq_gen fun t1 h1 => ?_
          show (-(2 ^ 62) ≤ (20 : Int) ∧ (20 : Int) < 2 ^ 62) ∧ loopV (gN 5) _ _ (rangeD 0 20) _ _
          refine ⟨⟨by decide, by decide⟩, ?_⟩
          refine lp_inv (fun m ρ g2 => ∃ (L : List PyData) (s5 s6 s7 s8 s9 s10 s11 s12 s13 s14 s15 s16 s17 s18 s19 : Sl), ρ = [.un, .pen, .val d, .val (.tuple pL), .own L, s5, s6, s7, s8, s9, s10, s11, s12, s13, s14, s15, s16, s17, s18, s19] ∧ (∀ x ∈ L, OkP x) ∧ L.length + 2 * m = 47 ∧ g2 + 5 * m ≤ g + 108) ?_ ?_ _ _ _ ⟨L, _, _, _, _, _, _, _, _, _, _, _, _, _, _, _, rfl, hO, by rw [hL]; rfl, by show g + 1 + 7 + 5 * 20 ≤ g + 108; omega⟩
          · rintro ρ g2 ⟨L, s5, s6, s7, s8, s9, s10, s11, s12, s13, s14, s15, s16, s17, s18, s19, rfl, hO, hL, hg2⟩
            subst h1
            simp only [sDis, List.getElem?_cons_succ, List.getElem?_cons_zero]
            refine ⟨L, rfl, ?_⟩
            simp only [sFor_eq, iL, wVar, wL, lLc, wOp, iR1, wC, List.getElem?_cons_zero, List.getElem?_cons_succ, List.set_cons_zero, List.set_cons_succ, wCons, wNil]
            have hL : L.length = 47 := hL
            refine ⟨⟨by decide, by decide⟩, by decide, ?_⟩
            refine lc_inv (P := fun _ => True) (fun m acc g3 => acc.length + m = 5 ∧ (∀ x ∈ acc, OkP x) ∧ g3 + 12 * m ≤ g2 + 60) ?_ ?_ _ _ _ (fun _ _ => trivial) ⟨rfl, fun _ h => (nomatch h), by show g2 + 12 * 5 ≤ g2 + 60; omega⟩
            · rintro acc g3 ⟨hal, hacc, hg3⟩
              rw [e_addL]
              refine ⟨by show _ ≤ 16777216; omega, ?_⟩
              dsimp only
              refine lp_mem (P := OkP) (fun m ρ g4 => ∃ s5 s6 s7 s8 s9 s10 s11 s12 s13 s14 s15 s16 s17 s18 s19 : Sl, ρ = [.un, .pen, .val d, .val (.tuple pL), .val (.list L), s5, s6, s7, s8, s9, s10, s11, s12, s13, s14, s15, s16, s17, s18, s19] ∧ g4 = g3) ?_ ?_ _ _ _ (fun x hx => (List.mem_append.mp hx).elim (hO x) (hacc x)) ⟨_, _, _, _, _, _, _, _, _, _, _, _, _, _, _, rfl, rfl⟩
              · rintro ρ g4 ⟨s5, s6, s7, s8, s9, s10, s11, s12, s13, s14, s15, s16, s17, s18, s19, rfl, rfl⟩
                exact hN _ _ ⟨_, _, _, _, _, _, _, _, _, _, _, _, _, _, _, _, _, _, rfl, by omega⟩
              · rintro x m ρ g4 N2 hx ⟨s5, s6, s7, s8, s9, s10, s11, s12, s13, s14, s15, s16, s17, s18, s19, rfl, rfl⟩ hN2
                refine seq_gen fun t2 h2 => ?_
                simp only [sSeq, sIf, sSet, sOwn, sRet, sRetN, sNext, sDis, sSetIx, sApp, sAsg, sPar, sPar2O, sPar3, wB, wOp, wVar, wC, wNil, wCons, pNil, pCons, pPen, wTup, lLst, wL, wCall, wChain, Vl.wAnd, Vl.wOr, Vl.wNot, wAndV, wOrV, wNotV, wIf, wNeg, wIsN, wIsa, wFn, wSl, oNo, oPt, lList, wRevL, wIxO, wEqE, gN, gsNil, gsCons, gT, iL, iT, iR1, iR2, iZp, iEn, wYes, wipeV, endV, startV, e_fII, e_addI, e_addT, e_addL, e_intI, e_intB, e_mulT, e_mulL, e_lenL, e_lenT, e_tupL, e_tupT, e_eqI, e_neI, e_eqB, e_neB, e_eqS, e_neS, e_ix0T, e_ix1T, e_ix2T, e_ix3T, e_ix4T, e_ix0L, e_ix1L, e_ix2L, List.length_cons, List.length_nil, List.replicate, List.cons_append, List.nil_append, List.getElem?_cons_zero, List.getElem?_cons_succ, List.set_cons_zero, List.set_cons_succ, Nat.reduceAdd, Nat.reduceSub, List.replicate_succ, List.replicate_zero, true_and, if_true, if_false, Bool.false_eq_true, reduceIte, Int.toNat_natCast, fGt, fLtI, fLe, fGe, wFn, startV_one, isIntStr, isTupList, Bool.not_true, Bool.not_false, k_isInt_none, k_isInt_bool, k_isInt_int, k_isInt_str, k_isInt_list, k_isInt_tuple, k_isInt_dict, k_isBool_none, k_isBool_bool, k_isBool_int, k_isBool_str, k_isBool_list, k_isBool_tuple, k_isBool_dict, k_isTuple_none, k_isTuple_bool, k_isTuple_int, k_isTuple_str, k_isTuple_list, k_isTuple_tuple, k_isTuple_dict, k_isList_none, k_isList_bool, k_isList_int, k_isList_str, k_isList_list, k_isList_tuple, k_isList_dict, k_isStr_none, k_isStr_bool, k_isStr_int, k_isStr_str, k_isStr_list, k_isStr_tuple, k_isStr_dict, lRg1, lRg2, lLc2, iEm, lSeq, lOf, lRet, lRetO, lDis, lIf, lFn, sApp, sFor_eq, sPar2P, lLc, and_self, lMulL, wRevT, lList]
                refine ⟨_, rfl, hx.sh, ?_⟩
                subst h2
                simp only [sSeq, sIf, sSet, sOwn, sRet, sRetN, sNext, sDis, sSetIx, sApp, sAsg, sPar, sPar2O, sPar3, wB, wOp, wVar, wC, wNil, wCons, pNil, pCons, pPen, wTup, lLst, wL, wCall, wChain, Vl.wAnd, Vl.wOr, Vl.wNot, wAndV, wOrV, wNotV, wIf, wNeg, wIsN, wIsa, wFn, wSl, oNo, oPt, lList, wRevL, wIxO, wEqE, gN, gsNil, gsCons, gT, iL, iT, iR1, iR2, iZp, iEn, wYes, wipeV, endV, startV, e_fII, e_addI, e_addT, e_addL, e_intI, e_intB, e_mulT, e_mulL, e_lenL, e_lenT, e_tupL, e_tupT, e_eqI, e_neI, e_eqB, e_neB, e_eqS, e_neS, e_ix0T, e_ix1T, e_ix2T, e_ix3T, e_ix4T, e_ix0L, e_ix1L, e_ix2L, List.length_cons, List.length_nil, List.replicate, List.cons_append, List.nil_append, List.getElem?_cons_zero, List.getElem?_cons_succ, List.set_cons_zero, List.set_cons_succ, Nat.reduceAdd, Nat.reduceSub, List.replicate_succ, List.replicate_zero, true_and, if_true, if_false, Bool.false_eq_true, reduceIte, Int.toNat_natCast, fGt, fLtI, fLe, fGe, wFn, startV_one, isIntStr, isTupList, Bool.not_true, Bool.not_false, k_isInt_none, k_isInt_bool, k_isInt_int, k_isInt_str, k_isInt_list, k_isInt_tuple, k_isInt_dict, k_isBool_none, k_isBool_bool, k_isBool_int, k_isBool_str, k_isBool_list, k_isBool_tuple, k_isBool_dict, k_isTuple_none, k_isTuple_bool, k_isTuple_int, k_isTuple_str, k_isTuple_list, k_isTuple_tuple, k_isTuple_dict, k_isList_none, k_isList_bool, k_isList_int, k_isList_str, k_isList_list, k_isList_tuple, k_isList_dict, k_isStr_none, k_isStr_bool, k_isStr_int, k_isStr_str, k_isStr_list, k_isStr_tuple, k_isStr_dict, lRg1, lRg2, lLc2, iEm, lSeq, lOf, lRet, lRetO, lDis, lIf, lFn, sApp, sFor_eq, sPar2P, lLc, and_self, lMulL, wRevT, lList]
                refine ⟨x, rfl, hx.nx, x, rfl, hx.nx, _, rfl, .bl _ _, ?_⟩
                simp only [sSeq, sIf, sSet, sOwn, sRet, sRetN, sNext, sDis, sSetIx, sApp, sAsg, sPar, sPar2O, sPar3, wB, wOp, wVar, wC, wNil, wCons, pNil, pCons, pPen, wTup, lLst, wL, wCall, wChain, Vl.wAnd, Vl.wOr, Vl.wNot, wAndV, wOrV, wNotV, wIf, wNeg, wIsN, wIsa, wFn, wSl, oNo, oPt, lList, wRevL, wIxO, wEqE, gN, gsNil, gsCons, gT, iL, iT, iR1, iR2, iZp, iEn, wYes, wipeV, endV, startV, e_fII, e_addI, e_addT, e_addL, e_intI, e_intB, e_mulT, e_mulL, e_lenL, e_lenT, e_tupL, e_tupT, e_eqI, e_neI, e_eqB, e_neB, e_eqS, e_neS, e_ix0T, e_ix1T, e_ix2T, e_ix3T, e_ix4T, e_ix0L, e_ix1L, e_ix2L, List.length_cons, List.length_nil, List.replicate, List.cons_append, List.nil_append, List.getElem?_cons_zero, List.getElem?_cons_succ, List.set_cons_zero, List.set_cons_succ, Nat.reduceAdd, Nat.reduceSub, List.replicate_succ, List.replicate_zero, true_and, if_true, if_false, Bool.false_eq_true, reduceIte, Int.toNat_natCast, fGt, fLtI, fLe, fGe, wFn, startV_one, isIntStr, isTupList, Bool.not_true, Bool.not_false, k_isInt_none, k_isInt_bool, k_isInt_int, k_isInt_str, k_isInt_list, k_isInt_tuple, k_isInt_dict, k_isBool_none, k_isBool_bool, k_isBool_int, k_isBool_str, k_isBool_list, k_isBool_tuple, k_isBool_dict, k_isTuple_none, k_isTuple_bool, k_isTuple_int, k_isTuple_str, k_isTuple_list, k_isTuple_tuple, k_isTuple_dict, k_isList_none, k_isList_bool, k_isList_int, k_isList_str, k_isList_list, k_isList_tuple, k_isList_dict, k_isStr_none, k_isStr_bool, k_isStr_int, k_isStr_str, k_isStr_list, k_isStr_tuple, k_isStr_dict, lRg1, lRg2, lLc2, iEm, lSeq, lOf, lRet, lRetO, lDis, lIf, lFn, sApp, sFor_eq, sPar2P, lLc, and_self, lMulL, wRevT, lList]
                refine ⟨_, rfl, hx.sh, ne_self ?_⟩
                simp only [sSeq, sIf, sSet, sOwn, sRet, sRetN, sNext, sDis, sSetIx, sApp, sAsg, sPar, sPar2O, sPar3, wB, wOp, wVar, wC, wNil, wCons, pNil, pCons, pPen, wTup, lLst, wL, wCall, wChain, Vl.wAnd, Vl.wOr, Vl.wNot, wAndV, wOrV, wNotV, wIf, wNeg, wIsN, wIsa, wFn, wSl, oNo, oPt, lList, wRevL, wIxO, wEqE, gN, gsNil, gsCons, gT, iL, iT, iR1, iR2, iZp, iEn, wYes, wipeV, endV, startV, e_fII, e_addI, e_addT, e_addL, e_intI, e_intB, e_mulT, e_mulL, e_lenL, e_lenT, e_tupL, e_tupT, e_eqI, e_neI, e_eqB, e_neB, e_eqS, e_neS, e_ix0T, e_ix1T, e_ix2T, e_ix3T, e_ix4T, e_ix0L, e_ix1L, e_ix2L, List.length_cons, List.length_nil, List.replicate, List.cons_append, List.nil_append, List.getElem?_cons_zero, List.getElem?_cons_succ, List.set_cons_zero, List.set_cons_succ, Nat.reduceAdd, Nat.reduceSub, List.replicate_succ, List.replicate_zero, true_and, if_true, if_false, Bool.false_eq_true, reduceIte, Int.toNat_natCast, fGt, fLtI, fLe, fGe, wFn, startV_one, isIntStr, isTupList, Bool.not_true, Bool.not_false, k_isInt_none, k_isInt_bool, k_isInt_int, k_isInt_str, k_isInt_list, k_isInt_tuple, k_isInt_dict, k_isBool_none, k_isBool_bool, k_isBool_int, k_isBool_str, k_isBool_list, k_isBool_tuple, k_isBool_dict, k_isTuple_none, k_isTuple_bool, k_isTuple_int, k_isTuple_str, k_isTuple_list, k_isTuple_tuple, k_isTuple_dict, k_isList_none, k_isList_bool, k_isList_int, k_isList_str, k_isList_list, k_isList_tuple, k_isList_dict, k_isStr_none, k_isStr_bool, k_isStr_int, k_isStr_str, k_isStr_list, k_isStr_tuple, k_isStr_dict, lRg1, lRg2, lLc2, iEm, lSeq, lOf, lRet, lRetO, lDis, lIf, lFn, sApp, sFor_eq, sPar2P, lLc, and_self, lMulL, wRevT, lList]
                exact hN2 _ _ ⟨_, _, _, _, _, _, _, _, _, _, _, _, _, _, _, rfl, rfl⟩
            · rintro x m acc g3 N2 _ ⟨hal, hacc, hg3⟩ hN2
              refine ⟨rfl, ?_⟩
              show spBent 1 [.pen, .val (.tuple pL)] g3 _
              exact ⟨_, rfl, hpn, by show g3 + 12 ≤ 4000000000; omega, fun e he => hN2 _ _ ⟨by rw [List.length_append, List.length_singleton]; omega, fun y hy => (List.mem_append.mp hy).elim (hacc y) fun h => by rw [List.mem_singleton.mp h]; exact okp_bd he (by decide), by omega⟩⟩
          · rintro e m ρ g2 N2 ⟨L, s5, s6, s7, s8, s9, s10, s11, s12, s13, s14, s15, s16, s17, s18, s19, rfl, hO, hL, hg2⟩ hN2
            refine seq_gen fun t2 h2 => ?_
            simp only [sSeq, sIf, sSet, sOwn, sRet, sRetN, sNext, sDis, sSetIx, sApp, sAsg, sPar, sPar2O, sPar3, wB, wOp, wVar, wC, wNil, wCons, pNil, pCons, pPen, wTup, lLst, wL, wCall, wChain, Vl.wAnd, Vl.wOr, Vl.wNot, wAndV, wOrV, wNotV, wIf, wNeg, wIsN, wIsa, wFn, wSl, oNo, oPt, lList, wRevL, wIxO, wEqE, gN, gsNil, gsCons, gT, iL, iT, iR1, iR2, iZp, iEn, wYes, wipeV, endV, startV, e_fII, e_addI, e_addT, e_addL, e_intI, e_intB, e_mulT, e_mulL, e_lenL, e_lenT, e_tupL, e_tupT, e_eqI, e_neI, e_eqB, e_neB, e_eqS, e_neS, e_ix0T, e_ix1T, e_ix2T, e_ix3T, e_ix4T, e_ix0L, e_ix1L, e_ix2L, List.length_cons, List.length_nil, List.replicate, List.cons_append, List.nil_append, List.getElem?_cons_zero, List.getElem?_cons_succ, List.set_cons_zero, List.set_cons_succ, Nat.reduceAdd, Nat.reduceSub, List.replicate_succ, List.replicate_zero, true_and, if_true, if_false, Bool.false_eq_true, reduceIte, Int.toNat_natCast, fGt, fLtI, fLe, fGe, wFn, startV_one, isIntStr, isTupList, Bool.not_true, Bool.not_false, k_isInt_none, k_isInt_bool, k_isInt_int, k_isInt_str, k_isInt_list, k_isInt_tuple, k_isInt_dict, k_isBool_none, k_isBool_bool, k_isBool_int, k_isBool_str, k_isBool_list, k_isBool_tuple, k_isBool_dict, k_isTuple_none, k_isTuple_bool, k_isTuple_int, k_isTuple_str, k_isTuple_list, k_isTuple_tuple, k_isTuple_dict, k_isList_none, k_isList_bool, k_isList_int, k_isList_str, k_isList_list, k_isList_tuple, k_isList_dict, k_isStr_none, k_isStr_bool, k_isStr_int, k_isStr_str, k_isStr_list, k_isStr_tuple, k_isStr_dict, lRg1, lRg2, lLc2, iEm, lSeq, lOf, lRet, lRetO, lDis, lIf, lFn, sApp, sFor_eq, sPar2P, lLc, and_self, lMulL, wRevT, lList]
            refine ⟨8, rfl, ⟨by decide, by decide⟩, by show g2 < 4000000000; omega, fun k k0 k1 => ?_⟩
            subst h2
            refine seq_gen fun t2 h2 => ?_
            simp only [sSeq, sIf, sSet, sOwn, sRet, sRetN, sNext, sDis, sSetIx, sApp, sAsg, sPar, sPar2O, sPar3, wB, wOp, wVar, wC, wNil, wCons, pNil, pCons, pPen, wTup, lLst, wL, wCall, wChain, Vl.wAnd, Vl.wOr, Vl.wNot, wAndV, wOrV, wNotV, wIf, wNeg, wIsN, wIsa, wFn, wSl, oNo, oPt, lList, wRevL, wIxO, wEqE, gN, gsNil, gsCons, gT, iL, iT, iR1, iR2, iZp, iEn, wYes, wipeV, endV, startV, e_fII, e_addI, e_addT, e_addL, e_intI, e_intB, e_mulT, e_mulL, e_lenL, e_lenT, e_tupL, e_tupT, e_eqI, e_neI, e_eqB, e_neB, e_eqS, e_neS, e_ix0T, e_ix1T, e_ix2T, e_ix3T, e_ix4T, e_ix0L, e_ix1L, e_ix2L, List.length_cons, List.length_nil, List.replicate, List.cons_append, List.nil_append, List.getElem?_cons_zero, List.getElem?_cons_succ, List.set_cons_zero, List.set_cons_succ, Nat.reduceAdd, Nat.reduceSub, List.replicate_succ, List.replicate_zero, true_and, if_true, if_false, Bool.false_eq_true, reduceIte, Int.toNat_natCast, fGt, fLtI, fLe, fGe, wFn, startV_one, isIntStr, isTupList, Bool.not_true, Bool.not_false, k_isInt_none, k_isInt_bool, k_isInt_int, k_isInt_str, k_isInt_list, k_isInt_tuple, k_isInt_dict, k_isBool_none, k_isBool_bool, k_isBool_int, k_isBool_str, k_isBool_list, k_isBool_tuple, k_isBool_dict, k_isTuple_none, k_isTuple_bool, k_isTuple_int, k_isTuple_str, k_isTuple_list, k_isTuple_tuple, k_isTuple_dict, k_isList_none, k_isList_bool, k_isList_int, k_isList_str, k_isList_list, k_isList_tuple, k_isList_dict, k_isStr_none, k_isStr_bool, k_isStr_int, k_isStr_str, k_isStr_list, k_isStr_tuple, k_isStr_dict, lRg1, lRg2, lLc2, iEm, lSeq, lOf, lRet, lRetO, lDis, lIf, lFn, sApp, sFor_eq, sPar2P, lLc, and_self, lMulL, wRevT, lList]
            refine ⟨by decide, by decide, ?_⟩
            subst h2
            refine seq_gen fun t2 h2 => ?_
            simp only [sSeq, sIf, sSet, sOwn, sRet, sRetN, sNext, sDis, sSetIx, sApp, sAsg, sPar, sPar2O, sPar3, wB, wOp, wVar, wC, wNil, wCons, pNil, pCons, pPen, wTup, lLst, wL, wCall, wChain, Vl.wAnd, Vl.wOr, Vl.wNot, wAndV, wOrV, wNotV, wIf, wNeg, wIsN, wIsa, wFn, wSl, oNo, oPt, lList, wRevL, wIxO, wEqE, gN, gsNil, gsCons, gT, iL, iT, iR1, iR2, iZp, iEn, wYes, wipeV, endV, startV, e_fII, e_addI, e_addT, e_addL, e_intI, e_intB, e_mulT, e_mulL, e_lenL, e_lenT, e_tupL, e_tupT, e_eqI, e_neI, e_eqB, e_neB, e_eqS, e_neS, e_ix0T, e_ix1T, e_ix2T, e_ix3T, e_ix4T, e_ix0L, e_ix1L, e_ix2L, List.length_cons, List.length_nil, List.replicate, List.cons_append, List.nil_append, List.getElem?_cons_zero, List.getElem?_cons_succ, List.set_cons_zero, List.set_cons_succ, Nat.reduceAdd, Nat.reduceSub, List.replicate_succ, List.replicate_zero, true_and, if_true, if_false, Bool.false_eq_true, reduceIte, Int.toNat_natCast, fGt, fLtI, fLe, fGe, wFn, startV_one, isIntStr, isTupList, Bool.not_true, Bool.not_false, k_isInt_none, k_isInt_bool, k_isInt_int, k_isInt_str, k_isInt_list, k_isInt_tuple, k_isInt_dict, k_isBool_none, k_isBool_bool, k_isBool_int, k_isBool_str, k_isBool_list, k_isBool_tuple, k_isBool_dict, k_isTuple_none, k_isTuple_bool, k_isTuple_int, k_isTuple_str, k_isTuple_list, k_isTuple_tuple, k_isTuple_dict, k_isList_none, k_isList_bool, k_isList_int, k_isList_str, k_isList_list, k_isList_tuple, k_isList_dict, k_isStr_none, k_isStr_bool, k_isStr_int, k_isStr_str, k_isStr_list, k_isStr_tuple, k_isStr_dict, lRg1, lRg2, lLc2, iEm, lSeq, lOf, lRet, lRetO, lDis, lIf, lFn, sApp, sFor_eq, sPar2P, lLc, and_self, lMulL, wRevT, lList]
            refine ⟨by decide, by decide, ?_⟩
            obtain ⟨q, rfl⟩ := Int.eq_ofNat_of_zero_le k0
            have hq : q < 8 := by omega
            have hone : ∀ (g3 : Nat) (S : PyData → Nat → Prop), g3 < 4000000000 → (∀ x, Pt x → S x (g3 + 1)) → spOneOf [.pen, .val (.list partsP)] g3 S := fun g3 S h0 h => ⟨_, rfl, ⟨by decide, by decide⟩, h0, fun x hx => h x (parts_pt x hx)⟩
            have kp : ∀ (bk : Rho → Nat → Prop), t2 { nx := N2, rt := fun d x => d = PyData.bool true, bk := bk, ct := N2 } [.un, .pen, .val d, .val (.tuple pL), .own L, .val e, .val (.int (q : Int)), .val (.list partsP), s8, s9, s10, s11, s12, s13, s14, s15, s16, s17, s18, s19] (g2 + 1) := fun bk => by
              generalize partsP = ps at hone
              subst h2
              refine seq_gen fun t2 h2 => ?_
              simp only [sSeq, sIf, sSet, sOwn, sRet, sRetN, sNext, sDis, sSetIx, sApp, sAsg, sPar, sPar2O, sPar3, wB, wOp, wVar, wC, wNil, wCons, pNil, pCons, pPen, wTup, lLst, wL, wCall, wChain, Vl.wAnd, Vl.wOr, Vl.wNot, wAndV, wOrV, wNotV, wIf, wNeg, wIsN, wIsa, wFn, wSl, oNo, oPt, lList, wRevL, wIxO, wEqE, gN, gsNil, gsCons, gT, iL, iT, iR1, iR2, iZp, iEn, wYes, wipeV, endV, startV, e_fII, e_addI, e_addT, e_addL, e_intI, e_intB, e_mulT, e_mulL, e_lenL, e_lenT, e_tupL, e_tupT, e_eqI, e_neI, e_eqB, e_neB, e_eqS, e_neS, e_ix0T, e_ix1T, e_ix2T, e_ix3T, e_ix4T, e_ix0L, e_ix1L, e_ix2L, List.length_cons, List.length_nil, List.replicate, List.cons_append, List.nil_append, List.getElem?_cons_zero, List.getElem?_cons_succ, List.set_cons_zero, List.set_cons_succ, Nat.reduceAdd, Nat.reduceSub, List.replicate_succ, List.replicate_zero, true_and, if_true, if_false, Bool.false_eq_true, reduceIte, Int.toNat_natCast, fGt, fLtI, fLe, fGe, wFn, startV_one, isIntStr, isTupList, Bool.not_true, Bool.not_false, k_isInt_none, k_isInt_bool, k_isInt_int, k_isInt_str, k_isInt_list, k_isInt_tuple, k_isInt_dict, k_isBool_none, k_isBool_bool, k_isBool_int, k_isBool_str, k_isBool_list, k_isBool_tuple, k_isBool_dict, k_isTuple_none, k_isTuple_bool, k_isTuple_int, k_isTuple_str, k_isTuple_list, k_isTuple_tuple, k_isTuple_dict, k_isList_none, k_isList_bool, k_isList_int, k_isList_str, k_isList_list, k_isList_tuple, k_isList_dict, k_isStr_none, k_isStr_bool, k_isStr_int, k_isStr_str, k_isStr_list, k_isStr_tuple, k_isStr_dict, lRg1, lRg2, lLc2, iEm, lSeq, lOf, lRet, lRetO, lDis, lIf, lFn, sApp, sFor_eq, sPar2P, lLc, and_self, lMulL, wRevT, lList]
              refine hone (g2 + 1) _ (by omega) fun x hx => ?_
              obtain ⟨pb1, pb2⟩ := put_bd hpp hx hpl hq
              refine ⟨by decide, by show _ ≤ 16777216; omega, by rw [List.length_append, List.length_singleton]; show _ ≤ 16777216; omega, ?_⟩
              have hyl : (Vl.cutD pL none (some (q : Int)) ++ [x] ++ Vl.cutD pL (some ((q : Int) + 1)) none).length = 8 := by rw [List.length_append, List.length_append, List.length_singleton]; omega
              generalize Vl.cutD pL none (some (q : Int)) ++ [x] ++ Vl.cutD pL (some ((q : Int) + 1)) none = yL at pb1 hyl ⊢
              have oky := okp_tup pb1 hyl
              subst h2
              refine seq_gen fun t2 h2 => ?_
              have kj : ∀ j : Int, 0 ≤ j → t2 { nx := N2, rt := fun d x => d = PyData.bool true, bk := bk, ct := N2 } [.un, .pen, .val d, .val (.tuple pL), .own L, .val e, .val (.int (q : Int)), .val (.list ps), .val (.tuple yL), .val (.int j), s10, s11, s12, s13, s14, s15, s16, s17, s18, s19] (g2 + 1 + 1 + 1) := fun j j0 => by
                obtain ⟨z, rfl⟩ := Int.eq_ofNat_of_zero_le j0
                subst h2
                refine seq_gen fun t2 h2 => ?_
                have ka : ∀ (v : PyData) (g3 : Nat), OkP v → g3 ≤ g2 + 4 → t2 { nx := N2, rt := fun d x => d = PyData.bool true, bk := bk, ct := N2 } [.un, .pen, .val d, .val (.tuple pL), .own (L ++ [v]), .val e, .val (.int (q : Int)), .val (.list ps), .val (.tuple yL), .val (.int (z : Int)), s10, s11, s12, s13, s14, s15, s16, s17, s18, s19] g3 := fun v g3 hv hg3 => by
                  subst h2
                  simp only [sSeq, sIf, sSet, sOwn, sRet, sRetN, sNext, sDis, sSetIx, sApp, sAsg, sPar, sPar2O, sPar3, wB, wOp, wVar, wC, wNil, wCons, pNil, pCons, pPen, wTup, lLst, wL, wCall, wChain, Vl.wAnd, Vl.wOr, Vl.wNot, wAndV, wOrV, wNotV, wIf, wNeg, wIsN, wIsa, wFn, wSl, oNo, oPt, lList, wRevL, wIxO, wEqE, gN, gsNil, gsCons, gT, iL, iT, iR1, iR2, iZp, iEn, wYes, wipeV, endV, startV, e_fII, e_addI, e_addT, e_addL, e_intI, e_intB, e_mulT, e_mulL, e_lenL, e_lenT, e_tupL, e_tupT, e_eqI, e_neI, e_eqB, e_neB, e_eqS, e_neS, e_ix0T, e_ix1T, e_ix2T, e_ix3T, e_ix4T, e_ix0L, e_ix1L, e_ix2L, List.length_cons, List.length_nil, List.replicate, List.cons_append, List.nil_append, List.getElem?_cons_zero, List.getElem?_cons_succ, List.set_cons_zero, List.set_cons_succ, Nat.reduceAdd, Nat.reduceSub, List.replicate_succ, List.replicate_zero, true_and, if_true, if_false, Bool.false_eq_true, reduceIte, Int.toNat_natCast, fGt, fLtI, fLe, fGe, wFn, startV_one, isIntStr, isTupList, Bool.not_true, Bool.not_false, k_isInt_none, k_isInt_bool, k_isInt_int, k_isInt_str, k_isInt_list, k_isInt_tuple, k_isInt_dict, k_isBool_none, k_isBool_bool, k_isBool_int, k_isBool_str, k_isBool_list, k_isBool_tuple, k_isBool_dict, k_isTuple_none, k_isTuple_bool, k_isTuple_int, k_isTuple_str, k_isTuple_list, k_isTuple_tuple, k_isTuple_dict, k_isList_none, k_isList_bool, k_isList_int, k_isList_str, k_isList_list, k_isList_tuple, k_isList_dict, k_isStr_none, k_isStr_bool, k_isStr_int, k_isStr_str, k_isStr_list, k_isStr_tuple, k_isStr_dict, lRg1, lRg2, lLc2, iEm, lSeq, lOf, lRet, lRetO, lDis, lIf, lFn, sApp, sFor_eq, sPar2P, lLc, and_self, lMulL, wRevT, lList]
                  refine ⟨_, rfl, by rw [List.length_append, List.length_singleton]; show _ < 16777216; omega, hN2 _ _ ⟨L ++ [v] ++ [.tuple yL], _, _, _, _, _, _, _, _, _, _, _, _, _, _, _, rfl, fun y hy => ?_, by rw [List.length_append, List.length_append, List.length_singleton, List.length_singleton]; omega, by omega⟩⟩
                  rcases List.mem_append.mp hy with hy | hy
                  · rcases List.mem_append.mp hy with hy | hy
                    · exact hO y hy
                    · rw [List.mem_singleton.mp hy]; exact hv
                  · rw [List.mem_singleton.mp hy]; exact oky
                simp only [sSeq, sIf, sSet, sOwn, sRet, sRetN, sNext, sDis, sSetIx, sApp, sAsg, sPar, sPar2O, sPar3, wB, wOp, wVar, wC, wNil, wCons, pNil, pCons, pPen, wTup, lLst, wL, wCall, wChain, Vl.wAnd, Vl.wOr, Vl.wNot, wAndV, wOrV, wNotV, wIf, wNeg, wIsN, wIsa, wFn, wSl, oNo, oPt, lList, wRevL, wIxO, wEqE, gN, gsNil, gsCons, gT, iL, iT, iR1, iR2, iZp, iEn, wYes, wipeV, endV, startV, e_fII, e_addI, e_addT, e_addL, e_intI, e_intB, e_mulT, e_mulL, e_lenL, e_lenT, e_tupL, e_tupT, e_eqI, e_neI, e_eqB, e_neB, e_eqS, e_neS, e_ix0T, e_ix1T, e_ix2T, e_ix3T, e_ix4T, e_ix0L, e_ix1L, e_ix2L, List.length_cons, List.length_nil, List.replicate, List.cons_append, List.nil_append, List.getElem?_cons_zero, List.getElem?_cons_succ, List.set_cons_zero, List.set_cons_succ, Nat.reduceAdd, Nat.reduceSub, List.replicate_succ, List.replicate_zero, true_and, if_true, if_false, Bool.false_eq_true, reduceIte, Int.toNat_natCast, fGt, fLtI, fLe, fGe, wFn, startV_one, isIntStr, isTupList, Bool.not_true, Bool.not_false, k_isInt_none, k_isInt_bool, k_isInt_int, k_isInt_str, k_isInt_list, k_isInt_tuple, k_isInt_dict, k_isBool_none, k_isBool_bool, k_isBool_int, k_isBool_str, k_isBool_list, k_isBool_tuple, k_isBool_dict, k_isTuple_none, k_isTuple_bool, k_isTuple_int, k_isTuple_str, k_isTuple_list, k_isTuple_tuple, k_isTuple_dict, k_isList_none, k_isList_bool, k_isList_int, k_isList_str, k_isList_list, k_isList_tuple, k_isList_dict, k_isStr_none, k_isStr_bool, k_isStr_int, k_isStr_str, k_isStr_list, k_isStr_tuple, k_isStr_dict, lRg1, lRg2, lLc2, iEm, lSeq, lOf, lRet, lRetO, lDis, lIf, lFn, sApp, sFor_eq, sPar2P, lLc, and_self, lMulL, wRevT, lList]
                refine ⟨L, rfl, ?_⟩
                by_cases hz : (z : Int) < 8
                · rw [if_pos (decide_eq_true hz)]
                  refine hone (g2 + 1 + 1 + 1) _ (by omega) fun x2 hx2 => ?_
                  obtain ⟨pc1, pc2⟩ := put_bd pb1 hx2 hyl (q := z) (by omega)
                  refine ⟨by decide, by show _ ≤ 16777216; omega, by rw [List.length_append, List.length_singleton]; show _ ≤ 16777216; omega, by show _ < 16777216; omega, ?_⟩
                  have hzl : (Vl.cutD yL none (some (z : Int)) ++ [x2] ++ Vl.cutD yL (some ((z : Int) + 1)) none).length = 8 := by rw [List.length_append, List.length_append, List.length_singleton]; omega
                  exact ka _ _ (okp_tup pc1 hzl) (by omega)
                · rw [if_neg (by rw [decide_eq_false hz]; exact Bool.false_ne_true)]
                  exact ⟨by show _ < 16777216; omega, ka _ _ oky (by omega)⟩
              simp only [sSeq, sIf, sSet, sOwn, sRet, sRetN, sNext, sDis, sSetIx, sApp, sAsg, sPar, sPar2O, sPar3, wB, wOp, wVar, wC, wNil, wCons, pNil, pCons, pPen, wTup, lLst, wL, wCall, wChain, Vl.wAnd, Vl.wOr, Vl.wNot, wAndV, wOrV, wNotV, wIf, wNeg, wIsN, wIsa, wFn, wSl, oNo, oPt, lList, wRevL, wIxO, wEqE, gN, gsNil, gsCons, gT, iL, iT, iR1, iR2, iZp, iEn, wYes, wipeV, endV, startV, e_fII, e_addI, e_addT, e_addL, e_intI, e_intB, e_mulT, e_mulL, e_lenL, e_lenT, e_tupL, e_tupT, e_eqI, e_neI, e_eqB, e_neB, e_eqS, e_neS, e_ix0T, e_ix1T, e_ix2T, e_ix3T, e_ix4T, e_ix0L, e_ix1L, e_ix2L, List.length_cons, List.length_nil, List.replicate, List.cons_append, List.nil_append, List.getElem?_cons_zero, List.getElem?_cons_succ, List.set_cons_zero, List.set_cons_succ, Nat.reduceAdd, Nat.reduceSub, List.replicate_succ, List.replicate_zero, true_and, if_true, if_false, Bool.false_eq_true, reduceIte, Int.toNat_natCast, fGt, fLtI, fLe, fGe, wFn, startV_one, isIntStr, isTupList, Bool.not_true, Bool.not_false, k_isInt_none, k_isInt_bool, k_isInt_int, k_isInt_str, k_isInt_list, k_isInt_tuple, k_isInt_dict, k_isBool_none, k_isBool_bool, k_isBool_int, k_isBool_str, k_isBool_list, k_isBool_tuple, k_isBool_dict, k_isTuple_none, k_isTuple_bool, k_isTuple_int, k_isTuple_str, k_isTuple_list, k_isTuple_tuple, k_isTuple_dict, k_isList_none, k_isList_bool, k_isList_int, k_isList_str, k_isList_list, k_isList_tuple, k_isList_dict, k_isStr_none, k_isStr_bool, k_isStr_int, k_isStr_str, k_isStr_list, k_isStr_tuple, k_isStr_dict, lRg1, lRg2, lLc2, iEm, lSeq, lOf, lRet, lRetO, lDis, lIf, lFn, sApp, sFor_eq, sPar2P, lLc, and_self, lMulL, wRevT, lList]
              split
              · exact ⟨16, rfl, ⟨by decide, by decide⟩, by show g2 + 1 + 1 < 4000000000; omega, fun j j0 _ => kj j j0⟩
              · exact ⟨2, rfl, ⟨by decide, by decide⟩, by show g2 + 1 + 1 < 4000000000; omega, fun j j0 _ => kj j j0⟩
            exact kp _
        refine ⟨by decide, _, rfl, by decide, by show pL.length + 1 ≤ 16777216; omega, by decide, key _ _ rfl fun x hx => ?_⟩
        have c7 := cutD_le pL none (some 7)
        simp only [List.mem_cons, List.not_mem_nil, or_false] at hx
        rcases hx with rfl | rfl | rfl | rfl | rfl | rfl | rfl
        · exact okp_bd bt (by decide)
        · exact okp_bd (n := 0) (.non _) (by decide)
        · exact okp_bd (Bd.tup (n := 0) (xs := []) (fun x hx => by cases hx) (by decide)) (by decide)
        · exact okp_bd (Bd.lst (hpb 0) (by omega)) (by decide)
        · exact okp_bd (Bd.tup (fun x hx => hpb 0 x (cutD_mem hx)) (by omega)) (by decide)
        · exact okp_bd (Bd.tup (n := 0) (fun x hx => (List.mem_append.mp hx).elim (hpb 0 x) fun h => by rw [List.mem_singleton.mp h]; exact .int _ _ (by decide)) (by rw [List.length_append, List.length_singleton]; omega)) (by decide)
        · exact okp_bd (Bd.tup (fun x hx => hpb 0 x (List.mem_reverse.mp hx)) (by rw [List.length_reverse]; omega)) (by decide)

    · exact ⟨fun _ _ _ _ _ _ _ h => h.elim, fun _ _ _ _ _ _ _ h => h.elim, fun _ _ _ _ _ _ _ h => h.elim, fun d g' v H' _ _ hd e => by
        have e' : d = .bool true := e
        subst e'
        cases hd
        exact q H'⟩

end
end Law
namespace Law
open PySem PySem.Spec PyProof.Rows L2 Vl
theorem all_mk {w : World} {K : PySem.W.Frag} {h : Heap} {mg : Str → Option Value} {fa : Addr} (X : K.In h) (G : h.Ns mainGlobals mg) (hfa : mg "law" = some (.ref fa))
    {fa_dis_integer_within : Addr} {od_dis_integer_within an_dis_integer_within : Option Addr} {sl_dis_integer_within : Array (Option Value)} {oc_dis_integer_within kV_dis_integer_within dc_dis_integer_within pm_dis_integer_within cd_dis_integer_within ct_dis_integer_within : Value}
    {fa_dis_tuple_of : Addr} {od_dis_tuple_of an_dis_tuple_of : Option Addr} {sl_dis_tuple_of : Array (Option Value)} {oc_dis_tuple_of kV_dis_tuple_of dc_dis_tuple_of pm_dis_tuple_of cd_dis_tuple_of ct_dis_tuple_of : Value}
    {fa_dis_plan : Addr} {od_dis_plan an_dis_plan : Option Addr} {sl_dis_plan : Array (Option Value)} {oc_dis_plan kV_dis_plan dc_dis_plan pm_dis_plan cd_dis_plan ct_dis_plan : Value}
    {fa_dall_plans : Addr} {od_dall_plans an_dall_plans : Option Addr} {sl_dall_plans : Array (Option Value)} {oc_dall_plans kV_dall_plans dc_dall_plans pm_dall_plans cd_dall_plans ct_dall_plans : Value}
    {fa_d_law_open : Addr} {od_d_law_open an_d_law_open : Option Addr} {sl_d_law_open : Array (Option Value)} {oc_d_law_open kV_d_law_open dc_d_law_open pm_d_law_open cd_d_law_open ct_d_law_open : Value}
    {fa_d_law_spread : Addr} {od_d_law_spread an_d_law_spread : Option Addr} {sl_d_law_spread : Array (Option Value)} {oc_d_law_spread kV_d_law_spread dc_d_law_spread pm_d_law_spread cd_d_law_spread ct_d_law_spread : Value}
    {fa_d_law_take : Addr} {od_d_law_take an_d_law_take : Option Addr} {sl_d_law_take : Array (Option Value)} {oc_d_law_take kV_d_law_take dc_d_law_take pm_d_law_take cd_d_law_take ct_d_law_take : Value}
    {fa_d_law_same : Addr} {od_d_law_same an_d_law_same : Option Addr} {sl_d_law_same : Array (Option Value)} {oc_d_law_same kV_d_law_same dc_d_law_same pm_d_law_same cd_d_law_same ct_d_law_same : Value}
    {fa_d_law_one_of : Addr} {od_d_law_one_of an_d_law_one_of : Option Addr} {sl_d_law_one_of : Array (Option Value)} {oc_d_law_one_of kV_d_law_one_of dc_d_law_one_of pm_d_law_one_of cd_d_law_one_of ct_d_law_one_of : Value}
    {fa_d_law_is_integer : Addr} {od_d_law_is_integer an_d_law_is_integer : Option Addr} {sl_d_law_is_integer : Array (Option Value)} {oc_d_law_is_integer kV_d_law_is_integer dc_d_law_is_integer pm_d_law_is_integer cd_d_law_is_integer ct_d_law_is_integer : Value}
    {fa_d_law_odd : Addr} {od_d_law_odd an_d_law_odd : Option Addr} {sl_d_law_odd : Array (Option Value)} {oc_d_law_odd kV_d_law_odd dc_d_law_odd pm_d_law_odd cd_d_law_odd ct_d_law_odd : Value}
    {fa_d_law_bent : Addr} {od_d_law_bent an_d_law_bent : Option Addr} {sl_d_law_bent : Array (Option Value)} {oc_d_law_bent kV_d_law_bent dc_d_law_bent pm_d_law_bent cd_d_law_bent ct_d_law_bent : Value}
    {fa_d_law_draw_plan : Addr} {od_d_law_draw_plan an_d_law_draw_plan : Option Addr} {sl_d_law_draw_plan : Array (Option Value)} {oc_d_law_draw_plan kV_d_law_draw_plan dc_d_law_draw_plan pm_d_law_draw_plan cd_d_law_draw_plan ct_d_law_draw_plan : Value}
    {fa_d_law_is_plan : Addr} {od_d_law_is_plan an_d_law_is_plan : Option Addr} {sl_d_law_is_plan : Array (Option Value)} {oc_d_law_is_plan kV_d_law_is_plan dc_d_law_is_plan pm_d_law_is_plan cd_d_law_is_plan ct_d_law_is_plan : Value}
    {fa_dlaw : Addr} {od_dlaw an_dlaw : Option Addr} {sl_dlaw : Array (Option Value)} {oc_dlaw kV_dlaw dc_dlaw pm_dlaw cd_dlaw ct_dlaw : Value}
    {tk_LANES : Tok}
    {tk_LATE : Tok}
    {tk_CHILDREN : Tok}
    {tk_PARENTS : Tok}
    {tk_TELLS_VALUE : Tok}
    {tk_TELLS_CHILDREN : Tok}
    {tk_LOOKS_AGAIN : Tok}
    {tk_ANEW : Tok}
    {ca_SENDINGS : Addr} {co_SENDINGS : Option Addr} {cs_SENDINGS : Array (Option Value)} {ci_SENDINGS : Array Value} {cn_SENDINGS : Nat}
    {ca_BOOLS : Addr} {co_BOOLS : Option Addr} {cs_BOOLS : Array (Option Value)} {ci_BOOLS : Array Value} {cn_BOOLS : Nat}
    {ca_BEGINNINGS_ANEW : Addr} {co_BEGINNINGS_ANEW : Option Addr} {cs_BEGINNINGS_ANEW : Array (Option Value)} {ci_BEGINNINGS_ANEW : Array Value} {cn_BEGINNINGS_ANEW : Nat}
    (a_dis_integer_within : PySem.W.nsIn K mainGlobals "is_integer_within" = some (some (.ref fa_dis_integer_within)))
    (l_dis_integer_within : K.lookup fa_dis_integer_within = some ⟨oc_dis_integer_within, od_dis_integer_within, .func (PySem.W.fnOf "is_integer_within" "is_integer_within" (defArgs s_is_integer_within) (defBody s_is_integer_within) (defScope s_is_integer_within) .none kV_dis_integer_within dc_dis_integer_within pm_dis_integer_within an_dis_integer_within cd_dis_integer_within ct_dis_integer_within), sl_dis_integer_within⟩)
    (c_dis_integer_within : PySem.W.codeIn K cd_dis_integer_within "is_integer_within" = true)
    (p_dis_integer_within : PySem.W.keepIn K (.ref fa_dis_integer_within) = true)
    (a_dis_tuple_of : PySem.W.nsIn K mainGlobals "is_tuple_of" = some (some (.ref fa_dis_tuple_of)))
    (l_dis_tuple_of : K.lookup fa_dis_tuple_of = some ⟨oc_dis_tuple_of, od_dis_tuple_of, .func (PySem.W.fnOf "is_tuple_of" "is_tuple_of" (defArgs s_is_tuple_of) (defBody s_is_tuple_of) (defScope s_is_tuple_of) .none kV_dis_tuple_of dc_dis_tuple_of pm_dis_tuple_of an_dis_tuple_of cd_dis_tuple_of ct_dis_tuple_of), sl_dis_tuple_of⟩)
    (c_dis_tuple_of : PySem.W.codeIn K cd_dis_tuple_of "is_tuple_of" = true)
    (p_dis_tuple_of : PySem.W.keepIn K (.ref fa_dis_tuple_of) = true)
    (a_dis_plan : PySem.W.nsIn K mainGlobals "is_plan" = some (some (.ref fa_dis_plan)))
    (l_dis_plan : K.lookup fa_dis_plan = some ⟨oc_dis_plan, od_dis_plan, .func (PySem.W.fnOf "is_plan" "is_plan" (defArgs s_is_plan) (defBody s_is_plan) (defScope s_is_plan) .none kV_dis_plan dc_dis_plan pm_dis_plan an_dis_plan cd_dis_plan ct_dis_plan), sl_dis_plan⟩)
    (c_dis_plan : PySem.W.codeIn K cd_dis_plan "is_plan" = true)
    (p_dis_plan : PySem.W.keepIn K (.ref fa_dis_plan) = true)
    (a_dall_plans : PySem.W.nsIn K mainGlobals "all_plans" = some (some (.ref fa_dall_plans)))
    (l_dall_plans : K.lookup fa_dall_plans = some ⟨oc_dall_plans, od_dall_plans, .func (PySem.W.fnOf "all_plans" "all_plans" (defArgs s_all_plans) (defBody s_all_plans) (defScope s_all_plans) .none kV_dall_plans dc_dall_plans pm_dall_plans an_dall_plans cd_dall_plans ct_dall_plans), sl_dall_plans⟩)
    (c_dall_plans : PySem.W.codeIn K cd_dall_plans "all_plans" = true)
    (p_dall_plans : PySem.W.keepIn K (.ref fa_dall_plans) = true)
    (a_d_law_open : PySem.W.nsIn K mainGlobals "_law_open" = some (some (.ref fa_d_law_open)))
    (l_d_law_open : K.lookup fa_d_law_open = some ⟨oc_d_law_open, od_d_law_open, .func (PySem.W.fnOf "_law_open" "_law_open" (defArgs s__law_open) (defBody s__law_open) (defScope s__law_open) .none kV_d_law_open dc_d_law_open pm_d_law_open an_d_law_open cd_d_law_open ct_d_law_open), sl_d_law_open⟩)
    (c_d_law_open : PySem.W.codeIn K cd_d_law_open "_law_open" = true)
    (p_d_law_open : PySem.W.keepIn K (.ref fa_d_law_open) = true)
    (a_d_law_spread : PySem.W.nsIn K mainGlobals "_law_spread" = some (some (.ref fa_d_law_spread)))
    (l_d_law_spread : K.lookup fa_d_law_spread = some ⟨oc_d_law_spread, od_d_law_spread, .func (PySem.W.fnOf "_law_spread" "_law_spread" (defArgs s__law_spread) (defBody s__law_spread) (defScope s__law_spread) .none kV_d_law_spread dc_d_law_spread pm_d_law_spread an_d_law_spread cd_d_law_spread ct_d_law_spread), sl_d_law_spread⟩)
    (c_d_law_spread : PySem.W.codeIn K cd_d_law_spread "_law_spread" = true)
    (p_d_law_spread : PySem.W.keepIn K (.ref fa_d_law_spread) = true)
    (a_d_law_take : PySem.W.nsIn K mainGlobals "_law_take" = some (some (.ref fa_d_law_take)))
    (l_d_law_take : K.lookup fa_d_law_take = some ⟨oc_d_law_take, od_d_law_take, .func (PySem.W.fnOf "_law_take" "_law_take" (defArgs s__law_take) (defBody s__law_take) (defScope s__law_take) .none kV_d_law_take dc_d_law_take pm_d_law_take an_d_law_take cd_d_law_take ct_d_law_take), sl_d_law_take⟩)
    (c_d_law_take : PySem.W.codeIn K cd_d_law_take "_law_take" = true)
    (p_d_law_take : PySem.W.keepIn K (.ref fa_d_law_take) = true)
    (a_d_law_same : PySem.W.nsIn K mainGlobals "_law_same" = some (some (.ref fa_d_law_same)))
    (l_d_law_same : K.lookup fa_d_law_same = some ⟨oc_d_law_same, od_d_law_same, .func (PySem.W.fnOf "_law_same" "_law_same" (defArgs s__law_same) (defBody s__law_same) (defScope s__law_same) .none kV_d_law_same dc_d_law_same pm_d_law_same an_d_law_same cd_d_law_same ct_d_law_same), sl_d_law_same⟩)
    (c_d_law_same : PySem.W.codeIn K cd_d_law_same "_law_same" = true)
    (p_d_law_same : PySem.W.keepIn K (.ref fa_d_law_same) = true)
    (a_d_law_one_of : PySem.W.nsIn K mainGlobals "_law_one_of" = some (some (.ref fa_d_law_one_of)))
    (l_d_law_one_of : K.lookup fa_d_law_one_of = some ⟨oc_d_law_one_of, od_d_law_one_of, .func (PySem.W.fnOf "_law_one_of" "_law_one_of" (defArgs s__law_one_of) (defBody s__law_one_of) (defScope s__law_one_of) .none kV_d_law_one_of dc_d_law_one_of pm_d_law_one_of an_d_law_one_of cd_d_law_one_of ct_d_law_one_of), sl_d_law_one_of⟩)
    (c_d_law_one_of : PySem.W.codeIn K cd_d_law_one_of "_law_one_of" = true)
    (p_d_law_one_of : PySem.W.keepIn K (.ref fa_d_law_one_of) = true)
    (a_d_law_is_integer : PySem.W.nsIn K mainGlobals "_law_is_integer" = some (some (.ref fa_d_law_is_integer)))
    (l_d_law_is_integer : K.lookup fa_d_law_is_integer = some ⟨oc_d_law_is_integer, od_d_law_is_integer, .func (PySem.W.fnOf "_law_is_integer" "_law_is_integer" (defArgs s__law_is_integer) (defBody s__law_is_integer) (defScope s__law_is_integer) .none kV_d_law_is_integer dc_d_law_is_integer pm_d_law_is_integer an_d_law_is_integer cd_d_law_is_integer ct_d_law_is_integer), sl_d_law_is_integer⟩)
    (c_d_law_is_integer : PySem.W.codeIn K cd_d_law_is_integer "_law_is_integer" = true)
    (p_d_law_is_integer : PySem.W.keepIn K (.ref fa_d_law_is_integer) = true)
    (a_d_law_odd : PySem.W.nsIn K mainGlobals "_law_odd" = some (some (.ref fa_d_law_odd)))
    (l_d_law_odd : K.lookup fa_d_law_odd = some ⟨oc_d_law_odd, od_d_law_odd, .func (PySem.W.fnOf "_law_odd" "_law_odd" (defArgs s__law_odd) (defBody s__law_odd) (defScope s__law_odd) .none kV_d_law_odd dc_d_law_odd pm_d_law_odd an_d_law_odd cd_d_law_odd ct_d_law_odd), sl_d_law_odd⟩)
    (c_d_law_odd : PySem.W.codeIn K cd_d_law_odd "_law_odd" = true)
    (p_d_law_odd : PySem.W.keepIn K (.ref fa_d_law_odd) = true)
    (a_d_law_bent : PySem.W.nsIn K mainGlobals "_law_bent" = some (some (.ref fa_d_law_bent)))
    (l_d_law_bent : K.lookup fa_d_law_bent = some ⟨oc_d_law_bent, od_d_law_bent, .func (PySem.W.fnOf "_law_bent" "_law_bent" (defArgs s__law_bent) (defBody s__law_bent) (defScope s__law_bent) .none kV_d_law_bent dc_d_law_bent pm_d_law_bent an_d_law_bent cd_d_law_bent ct_d_law_bent), sl_d_law_bent⟩)
    (c_d_law_bent : PySem.W.codeIn K cd_d_law_bent "_law_bent" = true)
    (p_d_law_bent : PySem.W.keepIn K (.ref fa_d_law_bent) = true)
    (a_d_law_draw_plan : PySem.W.nsIn K mainGlobals "_law_draw_plan" = some (some (.ref fa_d_law_draw_plan)))
    (l_d_law_draw_plan : K.lookup fa_d_law_draw_plan = some ⟨oc_d_law_draw_plan, od_d_law_draw_plan, .func (PySem.W.fnOf "_law_draw_plan" "_law_draw_plan" (defArgs s__law_draw_plan) (defBody s__law_draw_plan) (defScope s__law_draw_plan) .none kV_d_law_draw_plan dc_d_law_draw_plan pm_d_law_draw_plan an_d_law_draw_plan cd_d_law_draw_plan ct_d_law_draw_plan), sl_d_law_draw_plan⟩)
    (c_d_law_draw_plan : PySem.W.codeIn K cd_d_law_draw_plan "_law_draw_plan" = true)
    (p_d_law_draw_plan : PySem.W.keepIn K (.ref fa_d_law_draw_plan) = true)
    (a_d_law_is_plan : PySem.W.nsIn K mainGlobals "_law_is_plan" = some (some (.ref fa_d_law_is_plan)))
    (l_d_law_is_plan : K.lookup fa_d_law_is_plan = some ⟨oc_d_law_is_plan, od_d_law_is_plan, .func (PySem.W.fnOf "_law_is_plan" "_law_is_plan" (defArgs s__law_is_plan) (defBody s__law_is_plan) (defScope s__law_is_plan) .none kV_d_law_is_plan dc_d_law_is_plan pm_d_law_is_plan an_d_law_is_plan cd_d_law_is_plan ct_d_law_is_plan), sl_d_law_is_plan⟩)
    (c_d_law_is_plan : PySem.W.codeIn K cd_d_law_is_plan "_law_is_plan" = true)
    (p_d_law_is_plan : PySem.W.keepIn K (.ref fa_d_law_is_plan) = true)
    (a_dlaw : PySem.W.nsIn K mainGlobals "law" = some (some (.ref fa_dlaw)))
    (l_dlaw : K.lookup fa_dlaw = some ⟨oc_dlaw, od_dlaw, .func (PySem.W.fnOf "law" "law" (defArgs s_law) (defBody s_law) (defScope s_law) .none kV_dlaw dc_dlaw pm_dlaw an_dlaw cd_dlaw ct_dlaw), sl_dlaw⟩)
    (c_dlaw : PySem.W.codeIn K cd_dlaw "law" = true)
    (p_dlaw : PySem.W.keepIn K (.ref fa_dlaw) = true)
    (b_len : PySem.W.nsIn K mainGlobals "len" = some none)
    (b_int : PySem.W.nsIn K mainGlobals "int" = some none)
    (b_tuple : PySem.W.nsIn K mainGlobals "tuple" = some none)
    (b_list : PySem.W.nsIn K mainGlobals "list" = some none)
    (b_repr : PySem.W.nsIn K mainGlobals "repr" = some none)
    (b_isinstance : PySem.W.nsIn K mainGlobals "isinstance" = some none)
    (b_range : PySem.W.nsIn K mainGlobals "range" = some none)
    (b_zip : PySem.W.nsIn K mainGlobals "zip" = some none)
    (b_enumerate : PySem.W.nsIn K mainGlobals "enumerate" = some none)
    (b_any : PySem.W.nsIn K mainGlobals "any" = some none)
    (b_all : PySem.W.nsIn K mainGlobals "all" = some none)
    (b_sorted : PySem.W.nsIn K mainGlobals "sorted" = some none)
    (b_set : PySem.W.nsIn K mainGlobals "set" = some none)
    (b_bool : PySem.W.nsIn K mainGlobals "bool" = some none)
    (b_str : PySem.W.nsIn K mainGlobals "str" = some none)
    (g_LANES : PySem.W.nsIn K mainGlobals "LANES" = some (some (.int (0) tk_LANES)))
    (g_LATE : PySem.W.nsIn K mainGlobals "LATE" = some (some (.int (1) tk_LATE)))
    (g_CHILDREN : PySem.W.nsIn K mainGlobals "CHILDREN" = some (some (.int (2) tk_CHILDREN)))
    (g_PARENTS : PySem.W.nsIn K mainGlobals "PARENTS" = some (some (.int (3) tk_PARENTS)))
    (g_TELLS_VALUE : PySem.W.nsIn K mainGlobals "TELLS_VALUE" = some (some (.int (4) tk_TELLS_VALUE)))
    (g_TELLS_CHILDREN : PySem.W.nsIn K mainGlobals "TELLS_CHILDREN" = some (some (.int (5) tk_TELLS_CHILDREN)))
    (g_LOOKS_AGAIN : PySem.W.nsIn K mainGlobals "LOOKS_AGAIN" = some (some (.int (6) tk_LOOKS_AGAIN)))
    (g_ANEW : PySem.W.nsIn K mainGlobals "ANEW" = some (some (.int (7) tk_ANEW)))
    (g_SENDINGS : PySem.W.nsIn K mainGlobals "SENDINGS" = some (some (.ref ca_SENDINGS)))
    (h_SENDINGS : K.lookup ca_SENDINGS = some ⟨.type "tuple", co_SENDINGS, .seq ci_SENDINGS cn_SENDINGS, cs_SENDINGS⟩)
    (s_SENDINGS : Cs ci_SENDINGS.toList [.str "all", .str "either", .str "now"])
    (z_SENDINGS : ci_SENDINGS.size ≤ sizeLine)
    (g_BOOLS : PySem.W.nsIn K mainGlobals "BOOLS" = some (some (.ref ca_BOOLS)))
    (h_BOOLS : K.lookup ca_BOOLS = some ⟨.type "tuple", co_BOOLS, .seq ci_BOOLS cn_BOOLS, cs_BOOLS⟩)
    (s_BOOLS : Cs ci_BOOLS.toList [.bool false, .bool true])
    (z_BOOLS : ci_BOOLS.size ≤ sizeLine)
    (g_BEGINNINGS_ANEW : PySem.W.nsIn K mainGlobals "BEGINNINGS_ANEW" = some (some (.ref ca_BEGINNINGS_ANEW)))
    (h_BEGINNINGS_ANEW : K.lookup ca_BEGINNINGS_ANEW = some ⟨.type "tuple", co_BEGINNINGS_ANEW, .seq ci_BEGINNINGS_ANEW cn_BEGINNINGS_ANEW, cs_BEGINNINGS_ANEW⟩)
    (s_BEGINNINGS_ANEW : Cs ci_BEGINNINGS_ANEW.toList [.str "never", .str "cut", .str "kept"])
    (z_BEGINNINGS_ANEW : ci_BEGINNINGS_ANEW.size ≤ sizeLine)
    : ∃ fd : FuncData, (∀ (s : Shared) (v : Value), BindsTo s fd ⟨[v], []⟩ [("script", v)]) ∧ ∀ base : Heap, K.In base → base.Ns mainGlobals mg → SysD base → FnG PySem.Challenge.pw_somerows_k04_plans_recognized w K mg base 7 fa fd ["script"] (spLaw K) := by
  have e := hfa.symm.trans (PySem.W.mg_of X G a_dlaw)
  cases e
  have F_is_integer_within := fun_mk (st := s_is_integer_within) l_dis_integer_within c_dis_integer_within p_dis_integer_within
  have D_is_integer_within : Df K mg "is_integer_within" s_is_integer_within ["value", "low", "high"] := ⟨fa_dis_integer_within, _, F_is_integer_within, F_is_integer_within.binds (ps := ["value", "low", "high"]) fun _ _ _ _ _ _ us hl => match us, hl with | [_, _, _], _ => rfl, PySem.W.mg_of X G a_dis_integer_within⟩
  have F_is_tuple_of := fun_mk (st := s_is_tuple_of) l_dis_tuple_of c_dis_tuple_of p_dis_tuple_of
  have D_is_tuple_of : Df K mg "is_tuple_of" s_is_tuple_of ["value", "length"] := ⟨fa_dis_tuple_of, _, F_is_tuple_of, F_is_tuple_of.binds (ps := ["value", "length"]) fun _ _ _ _ _ _ us hl => match us, hl with | [_, _], _ => rfl, PySem.W.mg_of X G a_dis_tuple_of⟩
  have F_is_plan := fun_mk (st := s_is_plan) l_dis_plan c_dis_plan p_dis_plan
  have D_is_plan : Df K mg "is_plan" s_is_plan ["value"] := ⟨fa_dis_plan, _, F_is_plan, F_is_plan.binds (ps := ["value"]) fun _ _ _ _ _ _ us hl => match us, hl with | [_], _ => rfl, PySem.W.mg_of X G a_dis_plan⟩
  have F_all_plans := fun_mk (st := s_all_plans) l_dall_plans c_dall_plans p_dall_plans
  have D_all_plans : Df K mg "all_plans" s_all_plans ["lanes", "late", "anew"] := ⟨fa_dall_plans, _, F_all_plans, F_all_plans.binds (ps := ["lanes", "late", "anew"]) fun _ _ _ _ _ _ us hl => match us, hl with | [_, _, _], _ => rfl, PySem.W.mg_of X G a_dall_plans⟩
  have F__law_open := fun_mk (st := s__law_open) l_d_law_open c_d_law_open p_d_law_open
  have D__law_open : Df K mg "_law_open" s__law_open ["script"] := ⟨fa_d_law_open, _, F__law_open, F__law_open.binds (ps := ["script"]) fun _ _ _ _ _ _ us hl => match us, hl with | [_], _ => rfl, PySem.W.mg_of X G a_d_law_open⟩
  have F__law_spread := fun_mk (st := s__law_spread) l_d_law_spread c_d_law_spread p_d_law_spread
  have D__law_spread : Df K mg "_law_spread" s__law_spread ["cell", "at"] := ⟨fa_d_law_spread, _, F__law_spread, F__law_spread.binds (ps := ["cell", "at"]) fun _ _ _ _ _ _ us hl => match us, hl with | [_, _], _ => rfl, PySem.W.mg_of X G a_d_law_spread⟩
  have F__law_take := fun_mk (st := s__law_take) l_d_law_take c_d_law_take p_d_law_take
  have D__law_take : Df K mg "_law_take" s__law_take ["pen", "amount"] := ⟨fa_d_law_take, _, F__law_take, F__law_take.binds (ps := ["pen", "amount"]) fun _ _ _ _ _ _ us hl => match us, hl with | [_, _], _ => rfl, PySem.W.mg_of X G a_d_law_take⟩
  have F__law_same := fun_mk (st := s__law_same) l_d_law_same c_d_law_same p_d_law_same
  have D__law_same : Df K mg "_law_same" s__law_same ["found", "due"] := ⟨fa_d_law_same, _, F__law_same, F__law_same.binds (ps := ["found", "due"]) fun _ _ _ _ _ _ us hl => match us, hl with | [_, _], _ => rfl, PySem.W.mg_of X G a_d_law_same⟩
  have F__law_one_of := fun_mk (st := s__law_one_of) l_d_law_one_of c_d_law_one_of p_d_law_one_of
  have D__law_one_of : Df K mg "_law_one_of" s__law_one_of ["pen", "some"] := ⟨fa_d_law_one_of, _, F__law_one_of, F__law_one_of.binds (ps := ["pen", "some"]) fun _ _ _ _ _ _ us hl => match us, hl with | [_, _], _ => rfl, PySem.W.mg_of X G a_d_law_one_of⟩
  have F__law_is_integer := fun_mk (st := s__law_is_integer) l_d_law_is_integer c_d_law_is_integer p_d_law_is_integer
  have D__law_is_integer : Df K mg "_law_is_integer" s__law_is_integer ["value", "low", "high"] := ⟨fa_d_law_is_integer, _, F__law_is_integer, F__law_is_integer.binds (ps := ["value", "low", "high"]) fun _ _ _ _ _ _ us hl => match us, hl with | [_, _, _], _ => rfl, PySem.W.mg_of X G a_d_law_is_integer⟩
  have F__law_odd := fun_mk (st := s__law_odd) l_d_law_odd c_d_law_odd p_d_law_odd
  have D__law_odd : Df K mg "_law_odd" s__law_odd ["pen"] := ⟨fa_d_law_odd, _, F__law_odd, F__law_odd.binds (ps := ["pen"]) fun _ _ _ _ _ _ us hl => match us, hl with | [_], _ => rfl, PySem.W.mg_of X G a_d_law_odd⟩
  have F__law_bent := fun_mk (st := s__law_bent) l_d_law_bent c_d_law_bent p_d_law_bent
  have D__law_bent : Df K mg "_law_bent" s__law_bent ["pen", "value"] := ⟨fa_d_law_bent, _, F__law_bent, F__law_bent.binds (ps := ["pen", "value"]) fun _ _ _ _ _ _ us hl => match us, hl with | [_, _], _ => rfl, PySem.W.mg_of X G a_d_law_bent⟩
  have F__law_draw_plan := fun_mk (st := s__law_draw_plan) l_d_law_draw_plan c_d_law_draw_plan p_d_law_draw_plan
  have D__law_draw_plan : Df K mg "_law_draw_plan" s__law_draw_plan ["pen", "late"] := ⟨fa_d_law_draw_plan, _, F__law_draw_plan, F__law_draw_plan.binds (ps := ["pen", "late"]) fun _ _ _ _ _ _ us hl => match us, hl with | [_, _], _ => rfl, PySem.W.mg_of X G a_d_law_draw_plan⟩
  have F__law_is_plan := fun_mk (st := s__law_is_plan) l_d_law_is_plan c_d_law_is_plan p_d_law_is_plan
  have D__law_is_plan : Df K mg "_law_is_plan" s__law_is_plan ["value"] := ⟨fa_d_law_is_plan, _, F__law_is_plan, F__law_is_plan.binds (ps := ["value"]) fun _ _ _ _ _ _ us hl => match us, hl with | [_], _ => rfl, PySem.W.mg_of X G a_d_law_is_plan⟩
  have F_law := fun_mk (st := s_law) l_dlaw c_dlaw p_dlaw
  have B : Bi mg := ⟨PySem.W.mg_none_of X G b_len, PySem.W.mg_none_of X G b_int, PySem.W.mg_none_of X G b_tuple, PySem.W.mg_none_of X G b_list, PySem.W.mg_none_of X G b_repr, PySem.W.mg_none_of X G b_isinstance, PySem.W.mg_none_of X G b_range, PySem.W.mg_none_of X G b_zip, PySem.W.mg_none_of X G b_enumerate, PySem.W.mg_none_of X G b_any, PySem.W.mg_none_of X G b_all, PySem.W.mg_none_of X G b_sorted, PySem.W.mg_none_of X G b_set, PySem.W.mg_none_of X G b_bool, PySem.W.mg_none_of X G b_str⟩
  refine ⟨PySem.W.fnOf "law" "law" (defArgs s_law) (defBody s_law) (defScope s_law) .none kV_dlaw dc_dlaw pm_dlaw an_dlaw cd_dlaw ct_dlaw, fun s v => .of_eq rfl, fun base KB GB SB => ?_⟩
  have GC : Gs K mg := ⟨gc_int X G g_LANES, gc_int X G g_LATE, gc_int X G g_CHILDREN, gc_int X G g_PARENTS, gc_int X G g_TELLS_VALUE, gc_int X G g_TELLS_CHILDREN, gc_int X G g_LOOKS_AGAIN, gc_int X G g_ANEW, gc_tup X G g_SENDINGS h_SENDINGS s_SENDINGS z_SENDINGS, gc_tup X G g_BOOLS h_BOOLS s_BOOLS z_BOOLS, gc_tup X G g_BEGINNINGS_ANEW h_BEGINNINGS_ANEW s_BEGINNINGS_ANEW z_BEGINNINGS_ANEW⟩
  have C__law_spread := ok_spread (P := PySem.Challenge.pw_somerows_k04_plans_recognized) (w := w) (base := base) B D__law_spread
  have C__law_take := ok_take B C__law_spread D__law_take
  have C__law_one_of := ok_one_of B C__law_take D__law_one_of
  have C__law_odd := ok_odd B C__law_one_of D__law_odd
  have C__law_bent := ok_bent (P := PySem.Challenge.pw_somerows_k04_plans_recognized) (w := w) (base := base) B C__law_take C__law_one_of C__law_odd D__law_bent 1
  have C__law_draw_plan := ok__law_draw_plan (P := PySem.Challenge.pw_somerows_k04_plans_recognized) (w := w) (base := base) B C__law_take C__law_one_of D__law_draw_plan
  have C__law_same := ok_same (P := PySem.Challenge.pw_somerows_k04_plans_recognized) (w := w) (base := base) B D__law_same 2
  have C_is_integer_within := ok_is_integer_within (P := PySem.Challenge.pw_somerows_k04_plans_recognized) (w := w) (base := base) B  D_is_integer_within
  have C__law_is_integer := ok__law_is_integer (P := PySem.Challenge.pw_somerows_k04_plans_recognized) (w := w) (base := base) B  D__law_is_integer
  have C_is_tuple_of := ok_is_tuple_of (P := PySem.Challenge.pw_somerows_k04_plans_recognized) (w := w) (base := base) B  D_is_tuple_of
  have C_is_plan := ok_is_plan (P := PySem.Challenge.pw_somerows_k04_plans_recognized) (w := w) (base := base) B GC C_is_tuple_of C_is_integer_within D_is_plan
  have C__law_is_plan := ok__law_is_plan (P := PySem.Challenge.pw_somerows_k04_plans_recognized) (w := w) (base := base) B C__law_is_integer D__law_is_plan
  have C_all_plans := ok_all_plans (P := PySem.Challenge.pw_somerows_k04_plans_recognized) (w := w) (base := base) B GC D_all_plans
  exact ok_law B SB F_law (ok_open B D__law_open) C__law_take C__law_draw_plan C__law_one_of C__law_bent C__law_same C_is_plan C__law_is_plan C_all_plans
end Law
open PySem PySem.W PyProof.Rows in
set_option maxHeartbeats 0 in
local macro_rules | `(tactic| o_head (kHook $a $b $c)) => `(tactic| o_head (Vl.hookS (kHook $a $b $c)))
open PySem PySem.W PyProof.Rows in
set_option maxRecDepth 100000 in
set_option maxHeartbeats 0 in
theorem PySem.Challenge.cw_somerows_k04_plans_recognized_holds : PySem.Challenge.rw_somerows_k04_plans_recognized.Holds := by
  w_on; o_law; k_head; (case hw => w_witness2)
  k_fill
  refine Vl.walk_g (l := PySem.Challenge.rw_somerows_k04_plans_recognized) (n := 63) (k := 7) (x := "script") (sp := Law.spLaw) rfl (by decide) rfl ⟨rfl, by decide, by decide⟩ (fun w h Y => ⟨PySem.W.kIn_of Y.1, Y.2⟩) ?F (fun K H a ns h1 h2 h3 => ⟨a, ns, rfl, h3, h1, fun _ => rfl⟩)
  case F =>
    intro w mg fa h KX G hmg
    refine' Law.all_mk KX G hmg ?a_dis_integer_within ?l_dis_integer_within ?c_dis_integer_within ?p_dis_integer_within ?a_dis_tuple_of ?l_dis_tuple_of ?c_dis_tuple_of ?p_dis_tuple_of ?a_dis_plan ?l_dis_plan ?c_dis_plan ?p_dis_plan ?a_dall_plans ?l_dall_plans ?c_dall_plans ?p_dall_plans ?a_d_law_open ?l_d_law_open ?c_d_law_open ?p_d_law_open ?a_d_law_spread ?l_d_law_spread ?c_d_law_spread ?p_d_law_spread ?a_d_law_take ?l_d_law_take ?c_d_law_take ?p_d_law_take ?a_d_law_same ?l_d_law_same ?c_d_law_same ?p_d_law_same ?a_d_law_one_of ?l_d_law_one_of ?c_d_law_one_of ?p_d_law_one_of ?a_d_law_is_integer ?l_d_law_is_integer ?c_d_law_is_integer ?p_d_law_is_integer ?a_d_law_odd ?l_d_law_odd ?c_d_law_odd ?p_d_law_odd ?a_d_law_bent ?l_d_law_bent ?c_d_law_bent ?p_d_law_bent ?a_d_law_draw_plan ?l_d_law_draw_plan ?c_d_law_draw_plan ?p_d_law_draw_plan ?a_d_law_is_plan ?l_d_law_is_plan ?c_d_law_is_plan ?p_d_law_is_plan ?a_dlaw ?l_dlaw ?c_dlaw ?p_dlaw ?b_len ?b_int ?b_tuple ?b_list ?b_repr ?b_isinstance ?b_range ?b_zip ?b_enumerate ?b_any ?b_all ?b_sorted ?b_set ?b_bool ?b_str ?g_LANES ?g_LATE ?g_CHILDREN ?g_PARENTS ?g_TELLS_VALUE ?g_TELLS_CHILDREN ?g_LOOKS_AGAIN ?g_ANEW ?g_SENDINGS ?h_SENDINGS ?s_SENDINGS ?z_SENDINGS ?g_BOOLS ?h_BOOLS ?s_BOOLS ?z_BOOLS ?g_BEGINNINGS_ANEW ?h_BEGINNINGS_ANEW ?s_BEGINNINGS_ANEW ?z_BEGINNINGS_ANEW

    (case a_dis_integer_within => k_is)
    (case l_dis_integer_within => k_is)
    (case c_dis_integer_within => k_is)
    (case p_dis_integer_within => k_is)
    (case a_dis_tuple_of => k_is)
    (case l_dis_tuple_of => k_is)
    (case c_dis_tuple_of => k_is)
    (case p_dis_tuple_of => k_is)
    (case a_dis_plan => k_is)
    (case l_dis_plan => k_is)
    (case c_dis_plan => k_is)
    (case p_dis_plan => k_is)
    (case a_dall_plans => k_is)
    (case l_dall_plans => k_is)
    (case c_dall_plans => k_is)
    (case p_dall_plans => k_is)
    (case a_d_law_open => k_is)
    (case l_d_law_open => k_is)
    (case c_d_law_open => k_is)
    (case p_d_law_open => k_is)
    (case a_d_law_spread => k_is)
    (case l_d_law_spread => k_is)
    (case c_d_law_spread => k_is)
    (case p_d_law_spread => k_is)
    (case a_d_law_take => k_is)
    (case l_d_law_take => k_is)
    (case c_d_law_take => k_is)
    (case p_d_law_take => k_is)
    (case a_d_law_same => k_is)
    (case l_d_law_same => k_is)
    (case c_d_law_same => k_is)
    (case p_d_law_same => k_is)
    (case a_d_law_one_of => k_is)
    (case l_d_law_one_of => k_is)
    (case c_d_law_one_of => k_is)
    (case p_d_law_one_of => k_is)
    (case a_d_law_is_integer => k_is)
    (case l_d_law_is_integer => k_is)
    (case c_d_law_is_integer => k_is)
    (case p_d_law_is_integer => k_is)
    (case a_d_law_odd => k_is)
    (case l_d_law_odd => k_is)
    (case c_d_law_odd => k_is)
    (case p_d_law_odd => k_is)
    (case a_d_law_bent => k_is)
    (case l_d_law_bent => k_is)
    (case c_d_law_bent => k_is)
    (case p_d_law_bent => k_is)
    (case a_d_law_draw_plan => k_is)
    (case l_d_law_draw_plan => k_is)
    (case c_d_law_draw_plan => k_is)
    (case p_d_law_draw_plan => k_is)
    (case a_d_law_is_plan => k_is)
    (case l_d_law_is_plan => k_is)
    (case c_d_law_is_plan => k_is)
    (case p_d_law_is_plan => k_is)
    (case a_dlaw => k_is)
    (case l_dlaw => k_is)
    (case c_dlaw => k_is)
    (case p_dlaw => k_is)
    (case b_len => k_is)
    (case b_int => k_is)
    (case b_tuple => k_is)
    (case b_list => k_is)
    (case b_repr => k_is)
    (case b_isinstance => k_is)
    (case b_range => k_is)
    (case b_zip => k_is)
    (case b_enumerate => k_is)
    (case b_any => k_is)
    (case b_all => k_is)
    (case b_sorted => k_is)
    (case b_set => k_is)
    (case b_bool => k_is)
    (case b_str => k_is)
    (case g_LANES => k_is)
    (case g_LATE => k_is)
    (case g_CHILDREN => k_is)
    (case g_PARENTS => k_is)
    (case g_TELLS_VALUE => k_is)
    (case g_TELLS_CHILDREN => k_is)
    (case g_LOOKS_AGAIN => k_is)
    (case g_ANEW => k_is)
    (case g_SENDINGS => k_is)
    (case h_SENDINGS => k_is)
    (case s_SENDINGS => exact (.str (.str (.str .nil))))
    (case z_SENDINGS => decide)
    (case g_BOOLS => k_is)
    (case h_BOOLS => k_is)
    (case s_BOOLS => exact (.bl (.bl .nil)))
    (case z_BOOLS => decide)
    (case g_BEGINNINGS_ANEW => k_is)
    (case h_BEGINNINGS_ANEW => k_is)
    (case s_BEGINNINGS_ANEW => exact (.str (.str (.str .nil))))
    (case z_BEGINNINGS_ANEW => decide)
