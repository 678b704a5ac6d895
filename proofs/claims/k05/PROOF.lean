import PyProof.Rows.All
import Wide.All
import OpenK.AllK
import Wide.FinOn
import HandS.ForMost
import HandS.TupAny
import HandS.TupMul
import HandS.IsInst
import HandS.Zip
import HandS.Style
import HandS.Flow
import HandS.ExcInit
import KE.DataEq
import KE.DataCmp
import KE.SortData
import PyProof.Rows.ReprR
import HandS.Dict
import HandS.TupSets
import KE.DataIsa
import HandS.ExcField
import HandS.ExcIs
import KE.KExcIs
import KE.LtSeq
import KE.LtData
import HandS.Sort
import PyProof.EqKinds
import PyProof.Rows.IntBool
import HandS.SortOrd
import KE.GoesEnum
import HandS.Conv
import PySem.Challenge.RW_somerows_k05_messages_told
set_option Elab.async false
set_option linter.all false
set_option maxRecDepth 100000
set_option maxHeartbeats 3990000
/-! V0: a layer of plain data over the hand layer: what a value reads as (Dq), a heap with some addresses hidden (Off), slots (Sl), the state's relation (Rl), judgements. -/
namespace Vl
open PySem PySem.Spec PyProof.Rows L2

/-- all that H has, H' has -/
abbrev Sub (H H' : Hp) : Prop := ∀ b o, H b = some o → H' b = some o
theorem Sub.refl (H : Hp) : Sub H H := fun _ _ h => h
theorem Sub.trans {H H1 H2 : Hp} (a : Sub H H1) (b : Sub H1 H2) : Sub H H2 := fun x o h => b x o (a x o h)
/-- all but what stands at a is kept -/
def Kp (a : Addr) (H H' : Hp) : Prop := ∀ b o, b ≠ a → H b = some o → H' b = some o
theorem Kp.refl (a : Addr) (H : Hp) : Kp a H H := fun _ _ _ h => h
theorem Kp.trans {a : Addr} {H H1 H2 : Hp} (x : Kp a H H1) (y : Kp a H1 H2) : Kp a H H2 := fun b o n h => y b o n (x b o n h)
theorem Kp.of {a : Addr} {H H' : Hp} (s : Sub H H') : Kp a H H' := fun b o _ h => s b o h
theorem sub_upd {H : Hp} {p : Addr} {o : HO} (h : H p = none) : Sub H (upd H p o) := fun b u e => by
  rw [upd_ne (ne_of_none e h)]
  exact e
/-- the heap without what stands at O -/
def Off (O : List Addr) (H : Hp) : Hp := fun b => if b ∈ O then none else H b
theorem off_some {O : List Addr} {H : Hp} {b : Addr} {o : HO} : Off O H b = some o ↔ b ∉ O ∧ H b = some o := by
  unfold Off
  by_cases h : b ∈ O
  · rw [if_pos h]
    constructor
    · intro e; cases e
    · intro e; exact absurd h e.1
  · rw [if_neg h]
    constructor
    · intro e; exact ⟨h, e⟩
    · intro e; exact e.2
theorem off_in {O : List Addr} {H : Hp} {b : Addr} {o : HO} (h : b ∉ O) (e : H b = some o) : Off O H b = some o := off_some.mpr ⟨h, e⟩
theorem off_out {O : List Addr} {H : Hp} : Sub (Off O H) H := fun b o e => (off_some.mp e).2
theorem off_kp {a : Addr} {O : List Addr} {H H' : Hp} (k : Kp a H H') : Sub (Off (a :: O) H) (Off (a :: O) H') := fun b o e => by
  obtain ⟨n, e⟩ := off_some.mp e
  exact off_in n (k b o (fun z => n (by rw [z]; exact List.mem_cons_self)) e)
theorem off_sub {O O' : List Addr} {H : Hp} (h : ∀ b ∈ O', b ∈ O) : Sub (Off O H) (Off O' H) := fun b o e => by
  obtain ⟨n, e⟩ := off_some.mp e
  exact off_in (fun z => n (h b z)) e
theorem off_mono {O : List Addr} {H H' : Hp} (s : Sub H H') : Sub (Off O H) (Off O H') := fun b o e => by
  obtain ⟨n, e⟩ := off_some.mp e
  exact off_in n (s b o e)

/-! ### what a value reads as -/
/-- the mark of an exception, told as data -/
def exMark : Int := 2 ^ 2000
def exD (C : Addr) (fs : List (PyData × PyData)) : List (PyData × PyData) := (.int exMark, .int (C : Nat)) :: fs
mutual
inductive Dq (K : PySem.W.Frag) (H : Hp) : V → PyData → Prop
  | non : Dq K H .non .none
  | bl (b : Bool) : Dq K H (.bl b) (.bool b)
  | int (i : Int) : Dq K H (.int i) (.int i)
  | str (x : Str) : Dq K H (.str x) (.str x)
  | lst {a : Addr} {xs : List V} {ds : List PyData} : H a = some (.lst xs) → DqAll K H xs ds → Dq K H (.ref a) (.list ds)
  | tup {a : Addr} {xs : List V} {ds : List PyData} : SqT K H a xs → DqAll K H xs ds → Dq K H (.ref a) (.tuple ds)
  | emp {a : Addr} : H a = some (.dK []) → Dq K H (.ref a) (.dict [])
  | exc0 {e C : Addr} : H e = some (exo e C none) → Dq K H (.ref e) (.dict (exD C []))
  | exc1 {e C dx : Addr} {f : Str} {y : V} {d : PyData} : H e = some (exo e C (some dx)) → H dx = some (exd dx [(f, y)]) → Dq K H y d → Dq K H (.ref e) (.dict (exD C [(.str f, d)]))
inductive DqAll (K : PySem.W.Frag) (H : Hp) : List V → List PyData → Prop
  | nil : DqAll K H [] []
  | cons {v : V} {vs : List V} {d : PyData} {ds : List PyData} : Dq K H v d → DqAll K H vs ds → DqAll K H (v :: vs) (d :: ds)
end
theorem sqt_mono {K : PySem.W.Frag} {H H' : Hp} {a : Addr} {xs : List V} (s : Sub H H') (h : SqT K H a xs) : SqT K H' a xs := by
  rcases h with (h | ⟨o, h⟩) | h
  · exact .inl (.inl (s _ _ h))
  · exact .inl (.inr ⟨o, s _ _ h⟩)
  · exact .inr h
theorem sql_mono {K : PySem.W.Frag} {H H' : Hp} {a : Addr} {xs : List V} (s : Sub H H') (h : SqL K H a xs) : SqL K H' a xs := by
  rcases h with (h | ⟨o, h⟩) | h
  · exact .inl (.inl (s _ _ h))
  · exact .inl (.inr ⟨o, s _ _ h⟩)
  · exact .inr h
mutual
theorem Dq.mono {K : PySem.W.Frag} {H H' : Hp} (s : Sub H H') : ∀ {d : PyData} {v : V}, Dq K H v d → Dq K H' v d
  | _, _, .non => .non
  | _, _, .bl _ => .bl _
  | _, _, .int _ => .int _
  | _, _, .str _ => .str _
  | _, _, .lst h1 h2 => .lst (s _ _ h1) (DqAll.mono s h2)
  | _, _, .tup h1 h2 => .tup (sqt_mono s h1) (DqAll.mono s h2)
  | _, _, .emp h => .emp (s _ _ h)
  | _, _, .exc0 h => .exc0 (s _ _ h)
  | _, _, .exc1 h1 h2 h3 => .exc1 (s _ _ h1) (s _ _ h2) (Dq.mono s h3)
theorem DqAll.mono {K : PySem.W.Frag} {H H' : Hp} (s : Sub H H') : ∀ {ds : List PyData} {vs : List V}, DqAll K H vs ds → DqAll K H' vs ds
  | _, _, .nil => .nil
  | _, _, .cons h1 h2 => .cons (Dq.mono s h1) (DqAll.mono s h2)
end
/-! no exception within -/
mutual
def noX : PyData → Bool
  | .none | .bool _ | .int _ | .str _ => true
  | .list xs | .tuple xs => noXs xs
  | .dict [] => true
  | .dict (_ :: _) => false
def noXs : List PyData → Bool
  | [] => true
  | d :: ds => noX d && noXs ds
end
mutual
theorem noX_plain : ∀ d : PyData, d.plain = true → noX d = true
  | .none, _ | .bool _, _ | .int _, _ | .str _, _ => by simp only [noX]
  | .list xs, h | .tuple xs, h => by
    simp only [PyData.plain] at h
    simp only [noX]
    exact noXs_plain xs h
  | .dict _, h => by simp only [PyData.plain] at h; cases h
theorem noXs_plain : ∀ xs : List PyData, PyData.plainAll xs = true → noXs xs = true
  | [], _ => by simp only [noXs]
  | d :: ds, h => by
    simp only [PyData.plainAll, Bool.and_eq_true] at h
    simp only [noXs, Bool.and_eq_true]
    exact ⟨noX_plain d h.1, noXs_plain ds h.2⟩
end
theorem mark_not : decide (exMark.natAbs.log2 < 1920) = false := by decide +kernel
mutual
theorem Dq.clean {K : PySem.W.Frag} {H : Hp} : ∀ {d : PyData} {v : V}, Dq K H v d → d.showable = true → noX d = true
  | _, _, .non, _ | _, _, .bl _, _ | _, _, .int _, _ | _, _, .str _, _ => by simp only [noX]
  | _, _, .lst _ h2, h => by
    simp only [PyData.showable] at h
    simp only [noX]
    exact DqAll.clean h2 h
  | _, _, .tup _ h2, h => by
    simp only [PyData.showable] at h
    simp only [noX]
    exact DqAll.clean h2 h
  | _, _, .emp _, _ => by simp only [noX]
  | _, _, .exc0 _, h => by
    simp only [exD, PyData.showable, PyData.showableKv, mark_not, Bool.false_and] at h
    cases h
  | _, _, .exc1 _ _ _, h => by
    simp only [exD, PyData.showable, PyData.showableKv, mark_not, Bool.false_and] at h
    cases h
theorem DqAll.clean {K : PySem.W.Frag} {H : Hp} : ∀ {ds : List PyData} {vs : List V}, DqAll K H vs ds → PyData.showableAll ds = true → noXs ds = true
  | _, _, .nil, _ => by simp only [noXs]
  | _, _, .cons h1 h2, h => by
    simp only [PyData.showableAll, Bool.and_eq_true] at h
    simp only [noXs, Bool.and_eq_true]
    exact ⟨Dq.clean h1 h.1, DqAll.clean h2 h.2⟩
end
theorem Dq.to {K : PySem.W.Frag} {H H' : Hp} {d : PyData} {v : V} (h : Dq K H v d) (s : Sub H H') : Dq K H' v d := Dq.mono s h
theorem DqAll.to {K : PySem.W.Frag} {H H' : Hp} {d : List PyData} {v : List V} (h : DqAll K H v d) (s : Sub H H') : DqAll K H' v d := DqAll.mono s h
theorem DqAll.len {K : PySem.W.Frag} {H : Hp} : ∀ {vs : List V} {ds : List PyData}, DqAll K H vs ds → vs.length = ds.length
  | _, _, .nil => rfl
  | _, _, .cons _ t => congrArg (· + 1) (DqAll.len t)
theorem DqAll.app {K : PySem.W.Frag} {H : Hp} : ∀ {vs ws : List V} {ds es : List PyData}, DqAll K H vs ds → DqAll K H ws es → DqAll K H (vs ++ ws) (ds ++ es)
  | _, _, _, _, .nil, h => h
  | _, _, _, _, .cons a t, h => .cons a (DqAll.app t h)
theorem DqAll.at {K : PySem.W.Frag} {H : Hp} : ∀ {vs : List V} {ds : List PyData} {i : Nat} {d : PyData}, DqAll K H vs ds → ds[i]? = some d → ∃ v, vs[i]? = some v ∧ Dq K H v d
  | _, _, _, _, .nil, e => by simp at e
  | _, _, 0, _, .cons h _, e => by simp at e; subst e; exact ⟨_, rfl, h⟩
  | _, _, i + 1, d, .cons _ t, e => by
    obtain ⟨v, h1, h2⟩ := DqAll.at (i := i) (d := d) t (by simpa using e)
    exact ⟨v, by simpa using h1, h2⟩
theorem DqAll.at' {K : PySem.W.Frag} {H : Hp} : ∀ {vs : List V} {ds : List PyData} {i : Nat} {v : V}, DqAll K H vs ds → vs[i]? = some v → ∃ d, ds[i]? = some d ∧ Dq K H v d
  | _, _, _, _, .nil, e => by simp at e
  | _, _, 0, _, .cons h _, e => by simp at e; subst e; exact ⟨_, rfl, h⟩
  | _, _, i + 1, v, .cons _ t, e => by
    obtain ⟨d, h1, h2⟩ := DqAll.at' (i := i) (v := v) t (by simpa using e)
    exact ⟨d, by simpa using h1, h2⟩
theorem DqAll.take {K : PySem.W.Frag} {H : Hp} : ∀ {vs : List V} {ds : List PyData} (n : Nat), DqAll K H vs ds → DqAll K H (vs.take n) (ds.take n)
  | _, _, 0, _ => .nil
  | _, _, _ + 1, .nil => .nil
  | _, _, n + 1, .cons a t => .cons a (DqAll.take n t)
theorem DqAll.drop {K : PySem.W.Frag} {H : Hp} : ∀ {vs : List V} {ds : List PyData} (n : Nat), DqAll K H vs ds → DqAll K H (vs.drop n) (ds.drop n)
  | _, _, 0, h => h
  | _, _, _ + 1, .nil => .nil
  | _, _, n + 1, .cons _ t => DqAll.drop n t
theorem DqAll.set {K : PySem.W.Frag} {H : Hp} {v : V} {d : PyData} (h : Dq K H v d) : ∀ {vs : List V} {ds : List PyData} (n : Nat), DqAll K H vs ds → DqAll K H (vs.set n v) (ds.set n d)
  | _, _, _, .nil => .nil
  | _, _, 0, .cons _ t => .cons h t
  | _, _, n + 1, .cons a t => .cons a (DqAll.set h n t)
theorem DqAll.rev {K : PySem.W.Frag} {H : Hp} : ∀ {vs : List V} {ds : List PyData}, DqAll K H vs ds → DqAll K H vs.reverse ds.reverse
  | _, _, .nil => .nil
  | _, _, .cons a t => by
    rw [List.reverse_cons, List.reverse_cons]
    exact DqAll.app (DqAll.rev t) (.cons a .nil)
theorem DqAll.rep {K : PySem.W.Frag} {H : Hp} {vs : List V} {ds : List PyData} (h : DqAll K H vs ds) : ∀ k : Nat, DqAll K H (List.replicate k vs).flatten (List.replicate k ds).flatten
  | 0 => .nil
  | k + 1 => by
    rw [List.replicate_succ, List.replicate_succ, List.flatten_cons, List.flatten_cons]
    exact DqAll.app h (DqAll.rep h k)

/-! ### the pen, the slots, the relation -/
inductive Sl where
  | un | val (d : PyData) | own (ds : List PyData) | pen
abbrev Rho := List Sl
/-- most takes -/
abbrev LIM : Nat := 4000000000
/-- the pen at a: a list of its cells, how many were begun (at most g), the rest of the last -/
def Pen (K : PySem.W.Frag) (a : Addr) (O : List Addr) (g : Nat) (H : Hp) : Prop :=
  ∃ (c : Addr) (cells : List Int) (k : Nat) (rest : Int), H a = some (.lst [.ref c, .int (k : Int), .int rest]) ∧ Off (a :: O) H c = some (.lst (cells.map V.int)) ∧ cells.length ≤ 12 ∧ k ≤ g
theorem Pen.mono {K : PySem.W.Frag} {a : Addr} {O : List Addr} {g g' : Nat} {H : Hp} (h : Pen K a O g H) (l : g ≤ g') : Pen K a O g' H := by
  obtain ⟨c, cells, k, rest, h1, h2, h3, h4⟩ := h
  exact ⟨c, cells, k, rest, h1, h2, h3, Nat.le_trans h4 l⟩
theorem Pen.to {K : PySem.W.Frag} {a : Addr} {O O' : List Addr} {g : Nat} {H H' : Hp} (h : Pen K a O g H) (s : Sub (Off (a :: O) H) (Off (a :: O') H')) (e : H' a = H a) : Pen K a O' g H' := by
  obtain ⟨c, cells, k, rest, h1, h2, h3, h4⟩ := h
  exact ⟨c, cells, k, rest, by rw [e]; exact h1, s _ _ h2, h3, h4⟩
theorem Pen.live {K : PySem.W.Frag} {a : Addr} {O : List Addr} {g : Nat} {H : Hp} (h : Pen K a O g H) : H a ≠ none := by
  obtain ⟨c, cells, k, rest, h1, _⟩ := h
  rw [h1]
  exact fun z => nomatch z

def SlotR (K : PySem.W.Frag) (a : Addr) (H0 : Hp) (O : List Addr) (H : Hp) : Sl → Option (Option V) → Prop
  | .un, _ => True
  | .val d, o => ∃ v, o = some (some v) ∧ Dq K (Off (a :: O) H) v d
  | .own ds, o => ∃ p xs, o = some (some (.ref p)) ∧ p ∈ O ∧ H0 p = none ∧ H p = some (.lst xs) ∧ DqAll K (Off (a :: O) H) xs ds
  | .pen, o => o = some (some (.ref a))
/-- the state: a the pen, H0 the heap at the entry, O0 what is hidden at the entry; O what is hidden now, ρ the slots' data -/
structure Rl (K : PySem.W.Frag) (a : Addr) (H0 : Hp) (O0 O : List Addr) (ρ : Rho) (g : Nat) (σ : L2.St) (H : Hp) : Prop where
  keep : Kp a H0 H
  pen : Pen K a O g H
  sub : ∀ p ∈ O0, p ∈ O
  new : ∀ p ∈ O, p ∈ O0 ∨ H0 p = none
  noA : a ∉ O
  live : ∀ p ∈ O, H p ≠ none
  live0 : ∀ p ∈ O0, H0 p ≠ none
  len : ρ.length = σ.length
  slot : ∀ (i : Nat) (s : Sl), ρ[i]? = some s → SlotR K a H0 O H s σ[i]?
  inj : ∀ (i j : Nat) (ds es : List PyData) (o : Option V), ρ[i]? = some (Sl.own ds) → ρ[j]? = some (Sl.own es) → σ[i]? = some o → σ[j]? = some o → i = j
section
variable {K : PySem.W.Frag} {a : Addr} {H0 H H' : Hp} {O0 O : List Addr} {ρ : Rho} {g g' : Nat} {σ : L2.St}
theorem Rl.liveA (r : Rl K a H0 O0 O ρ g σ H) : ∀ p ∈ a :: O, H p ≠ none := fun p hp => by
  rcases List.mem_cons.mp hp with rfl | hp
  · exact r.pen.live
  · exact r.live p hp
theorem Rl.freshA (r : Rl K a H0 O0 O ρ g σ H) {p : Addr} (h : H p = none) : p ∉ a :: O := fun hp => r.liveA p hp h
/-- the heap goes on, the pen may have turned -/
theorem Rl.step (r : Rl K a H0 O0 O ρ g σ H) (k : Kp a H H') (p : Pen K a O g' H') : Rl K a H0 O0 O ρ g' σ H' where
  keep := r.keep.trans k
  pen := p
  sub := r.sub
  new := r.new
  noA := r.noA
  live := fun q hq e => by
    cases h : H q with
    | none => exact r.live q hq h
    | some o =>
      rw [k q o (fun z => r.noA (z ▸ hq)) h] at e
      cases e
  live0 := r.live0
  len := r.len
  slot := fun i s hs => by
    have h := r.slot i s hs
    cases s with
    | un => trivial
    | val d =>
      obtain ⟨v, e, h⟩ := h
      exact ⟨v, e, h.to (off_kp k)⟩
    | own ds =>
      obtain ⟨q, xs, e, hq, hn, hx, h⟩ := h
      exact ⟨q, xs, e, hq, hn, k q _ (fun z => r.noA (z ▸ hq)) hx, h.to (off_kp k)⟩
    | pen => exact h
  inj := r.inj
theorem Rl.ext (r : Rl K a H0 O0 O ρ g σ H) (s : Sub H H') : Rl K a H0 O0 O ρ g σ H' :=
  r.step (Kp.of s) (r.pen.to (off_kp (Kp.of s)) (by
    cases h : H a with
    | none => exact absurd h r.pen.live
    | some o => exact s a o h))
theorem Rl.more (r : Rl K a H0 O0 O ρ g σ H) (l : g ≤ g') : Rl K a H0 O0 O ρ g' σ H := r.step (Kp.refl _ _) (r.pen.mono l)
theorem Rl.val (r : Rl K a H0 O0 O ρ g σ H) {i : Nat} {d : PyData} (h : ρ[i]? = some (Sl.val d)) : ∃ v, σ[i]? = some (some v) ∧ Dq K (Off (a :: O) H) v d := r.slot i _ h
/-- a slot gets a value -/
theorem Rl.setVal (r : Rl K a H0 O0 O ρ g σ H) {i : Nat} {v : V} {d : PyData} (h : Dq K (Off (a :: O) H) v d) : Rl K a H0 O0 O (ρ.set i (.val d)) g (σ.set i (some v)) H where
  keep := r.keep
  pen := r.pen
  sub := r.sub
  new := r.new
  noA := r.noA
  live := r.live
  live0 := r.live0
  len := by rw [List.length_set, List.length_set]; exact r.len
  slot := fun j s hs => by
    by_cases hj : i = j
    · subst hj
      have hl : i < ρ.length := by
        have := (List.getElem?_eq_some_iff.mp hs).1
        rw [List.length_set] at this
        exact this
      rw [List.getElem?_set_self hl] at hs
      cases hs
      rw [List.getElem?_set_self (by rw [← r.len]; exact hl)]
      exact ⟨v, rfl, h⟩
    · rw [List.getElem?_set_ne hj] at hs
      rw [List.getElem?_set_ne hj]
      exact r.slot j s hs
  inj := fun j k ds es o h1 h2 e1 e2 => by
    have nj : i ≠ j := fun z => by
      subst z
      have hl : i < ρ.length := by
        have := (List.getElem?_eq_some_iff.mp h1).1
        rw [List.length_set] at this
        exact this
      rw [List.getElem?_set_self hl] at h1
      cases h1
    have nk : i ≠ k := fun z => by
      subst z
      have hl : i < ρ.length := by
        have := (List.getElem?_eq_some_iff.mp h2).1
        rw [List.length_set] at this
        exact this
      rw [List.getElem?_set_self hl] at h2
      cases h2
    rw [List.getElem?_set_ne nj] at h1 e1
    rw [List.getElem?_set_ne nk] at h2 e2
    exact r.inj j k ds es o h1 h2 e1 e2
theorem Rl.freshH (r : Rl K a H0 O0 O ρ g σ H) {p : Addr} (h : H p = none) : H0 p = none := by
  cases e : H0 p with
  | none => rfl
  | some o =>
    have n : p ≠ a := fun z => r.pen.live (z ▸ h)
    rw [r.keep p o n e] at h
    cases h
theorem off_new {o : HO} {p : Addr} (hp : H p = none) : Sub (Off (a :: O) H) (Off (a :: p :: O) (upd H p o)) := fun b u e => by
  obtain ⟨n, e⟩ := off_some.mp e
  have nb : b ≠ p := ne_of_none e hp
  refine off_in (fun z => ?_) (by rw [upd_ne nb]; exact e)
  rcases List.mem_cons.mp z with z | z
  · exact n (by rw [z]; exact List.mem_cons_self)
  · rcases List.mem_cons.mp z with z | z
    · exact nb z
    · exact n (List.mem_cons_of_mem _ z)
theorem off_shed {p : Addr} : Sub (Off (a :: p :: O) H) (Off (a :: O) H) := off_sub fun b hb => by
  rcases List.mem_cons.mp hb with z | z
  · rw [z]; exact List.mem_cons_self
  · exact List.mem_cons_of_mem _ (List.mem_cons_of_mem _ z)
/-- a new object is laid and hidden -/
theorem Rl.hide (r : Rl K a H0 O0 O ρ g σ H) {p : Addr} {o : HO} (hp : H p = none) : Rl K a H0 O0 (p :: O) ρ g σ (upd H p o) where
  keep := r.keep.trans (Kp.of (sub_upd hp))
  pen := r.pen.to (off_new hp) (upd_ne fun z => r.pen.live (by rw [z]; exact hp))
  sub := fun q hq => List.mem_cons_of_mem _ (r.sub q hq)
  new := fun q hq => by
    rcases List.mem_cons.mp hq with rfl | hq
    · exact .inr (r.freshH hp)
    · exact r.new q hq
  noA := fun hq => by
    rcases List.mem_cons.mp hq with e | hq
    · exact r.pen.live (by rw [e]; exact hp)
    · exact r.noA hq
  live := fun q hq => by
    rcases List.mem_cons.mp hq with rfl | hq
    · rw [upd_same]; exact fun z => nomatch z
    · intro e
      by_cases z : q = p
      · exact r.live q hq (by rw [z]; exact hp)
      · rw [upd_ne z] at e
        exact r.live q hq e
  live0 := r.live0
  len := r.len
  slot := fun i s hs => by
    have h := r.slot i s hs
    cases s with
    | un => trivial
    | val d =>
      obtain ⟨v, e, h⟩ := h
      exact ⟨v, e, h.to (off_new hp)⟩
    | own ds =>
      obtain ⟨q, xs, e, hq, hn, hx, h⟩ := h
      exact ⟨q, xs, e, List.mem_cons_of_mem _ hq, hn, by rw [upd_ne (ne_of_none hx hp)]; exact hx, h.to (off_new hp)⟩
    | pen => exact h
  inj := r.inj
/-- what was hidden for a time is hidden no more -/
theorem Rl.unhide {p : Addr} {g0 : Nat} (r0 : Rl K a H0 O0 O ρ g0 σ H) (r : Rl K a H0 O0 (p :: O) ρ g σ H') : Rl K a H0 O0 O ρ g σ H' where
  keep := r.keep
  pen := r.pen.to off_shed rfl
  sub := r0.sub
  new := r0.new
  noA := r0.noA
  live := fun q hq => r.live q (List.mem_cons_of_mem _ hq)
  live0 := r.live0
  len := r.len
  slot := fun i s hs => by
    have h := r.slot i s hs
    cases s with
    | un => trivial
    | val d =>
      obtain ⟨v, e, h⟩ := h
      exact ⟨v, e, h.to off_shed⟩
    | own ds =>
      obtain ⟨q, xs, e, hq, hn, hx, h⟩ := h
      obtain ⟨q', _, e', hq', _⟩ := r0.slot i _ hs
      rw [e] at e'
      cases e'
      exact ⟨q, xs, e, hq', hn, hx, h.to off_shed⟩
    | pen => exact h
  inj := r.inj
theorem set_slot {ρ : Rho} {i j : Nat} {s t : Sl} (hj : (ρ.set i t)[j]? = some s) : (i = j ∧ s = t ∧ i < ρ.length) ∨ (i ≠ j ∧ ρ[j]? = some s) := by
  by_cases h : i = j
  · subst h
    have hl : i < ρ.length := by
      have := (List.getElem?_eq_some_iff.mp hj).1
      rw [List.length_set] at this
      exact this
    rw [List.getElem?_set_self hl] at hj
    cases hj
    exact .inl ⟨rfl, rfl, hl⟩
  · rw [List.getElem?_set_ne h] at hj
    exact .inr ⟨h, hj⟩
/-- a hidden list that no slot has becomes a slot's own -/
theorem Rl.setOwn (r : Rl K a H0 O0 O ρ g σ H) {i : Nat} {p : Addr} {xs : List V} {ds : List PyData} (hO : p ∈ O) (hn : H0 p = none) (hp : H p = some (.lst xs)) (h : DqAll K (Off (a :: O) H) xs ds)
    (hno : ∀ (j : Nat) (es : List PyData), j ≠ i → ρ[j]? = some (Sl.own es) → σ[j]? ≠ some (some (.ref p))) : Rl K a H0 O0 O (ρ.set i (.own ds)) g (σ.set i (some (.ref p))) H where
  keep := r.keep
  pen := r.pen
  sub := r.sub
  new := r.new
  noA := r.noA
  live := r.live
  live0 := r.live0
  len := by rw [List.length_set, List.length_set]; exact r.len
  slot := fun j s hs => by
    rcases set_slot hs with ⟨rfl, rfl, hl⟩ | ⟨hj, hs⟩
    · rw [List.getElem?_set_self (by rw [← r.len]; exact hl)]
      exact ⟨p, xs, rfl, hO, hn, hp, h⟩
    · rw [List.getElem?_set_ne hj]
      exact r.slot j s hs
  inj := fun j k ds' es o h1 h2 e1 e2 => by
    rcases set_slot h1 with ⟨rfl, _, hl⟩ | ⟨hj, h1⟩
    · rcases set_slot h2 with ⟨rfl, _, _⟩ | ⟨hk, h2⟩
      · rfl
      · rw [List.getElem?_set_self (by rw [← r.len]; exact hl)] at e1
        cases e1
        rw [List.getElem?_set_ne hk] at e2
        exact absurd e2 (hno k es (Ne.symm hk) h2)
    · rcases set_slot h2 with ⟨rfl, _, hl⟩ | ⟨hk, h2⟩
      · rw [List.getElem?_set_self (by rw [← r.len]; exact hl)] at e2
        cases e2
        rw [List.getElem?_set_ne hj] at e1
        exact absurd e1 (hno j ds' (Ne.symm hj) h1)
      · rw [List.getElem?_set_ne hj] at e1
        rw [List.getElem?_set_ne hk] at e2
        exact r.inj j k ds' es o h1 h2 e1 e2
/-- a slot's own list becomes plain data: it is hidden no more -/
theorem Rl.disown (r : Rl K a H0 O0 O ρ g σ H) {i : Nat} {ds : List PyData} (hi : ρ[i]? = some (.own ds)) :
    ∃ O', Sub (Off (a :: O) H) (Off (a :: O') H) ∧ Rl K a H0 O0 O' (ρ.set i (.val (.list ds))) g σ H := by
  obtain ⟨p, xs, e, hp, hn, hx, h⟩ := r.slot i _ hi
  have h0 : p ∉ O0 := fun z => r.live0 p z hn
  have sb : Sub (Off (a :: O) H) (Off (a :: O.filter (fun q => decide (q ≠ p))) H) := off_sub fun b hb => by
    rcases List.mem_cons.mp hb with z | z
    · rw [z]; exact List.mem_cons_self
    · exact List.mem_cons_of_mem _ (List.mem_filter.mp z).1
  have ofil : ∀ {q : Addr}, q ∈ O → q ≠ p → q ∈ O.filter (fun q => decide (q ≠ p)) := fun {q} h1 h2 => List.mem_filter.mpr ⟨h1, decide_eq_true h2⟩
  have fo : ∀ {q : Addr}, q ∈ O.filter (fun q => decide (q ≠ p)) → q ∈ O := fun {q} h1 => (List.mem_filter.mp h1).1
  have npa : p ≠ a := fun z => r.noA (z ▸ hp)
  have out : p ∉ a :: O.filter (fun q => decide (q ≠ p)) := fun hq => by
    rcases List.mem_cons.mp hq with z | z
    · exact npa z
    · exact absurd rfl (of_decide_eq_true (List.mem_filter.mp z).2)
  have hl : i < ρ.length := (List.getElem?_eq_some_iff.mp hi).1
  refine ⟨_, sb, ⟨r.keep, r.pen.to sb rfl, fun q hq => ofil (r.sub q hq) fun z => h0 (z ▸ hq), fun q hq => r.new q (fo hq), fun hq => r.noA (fo hq), fun q hq => r.live q (fo hq), r.live0, by rw [List.length_set]; exact r.len, fun j s hs => ?_, fun j k ds' es o h1 h2 e1 e2 => ?_⟩⟩
  · rcases set_slot hs with ⟨rfl, rfl, _⟩ | ⟨hj, hs⟩
    · exact ⟨.ref p, e, .lst (off_in out hx) (h.to sb)⟩
    · have q := r.slot j s hs
      cases s with
      | un => trivial
      | val d =>
        obtain ⟨v, e', h'⟩ := q
        exact ⟨v, e', h'.to sb⟩
      | own es =>
        obtain ⟨q, ys, e', hq, hn', hx', h'⟩ := q
        refine ⟨q, ys, e', ofil hq fun z => hj ?_, hn', hx', h'.to sb⟩
        exact r.inj i j ds es _ hi hs e (by rw [e', z])
      | pen => exact q
  · rcases set_slot h1 with ⟨_, z, _⟩ | ⟨_, h1⟩
    · cases z
    · rcases set_slot h2 with ⟨_, z, _⟩ | ⟨_, h2⟩
      · cases z
      · exact r.inj j k ds' es o h1 h2 e1 e2
end
end Vl
/-! V1: judgements over data; expressions. -/
namespace Vl
open PySem PySem.Spec PyProof.Rows L2

abbrev WE := Rho → Nat → (PyData → Nat → Prop) → Prop
abbrev WL := Rho → Nat → (List PyData → Nat → Prop) → Prop
abbrev WT := Rho → Nat → (Bool → Nat → Prop) → Prop
abbrev WP := Rho → Nat → (Rho → Nat → Prop) → Prop
/-- an expression's value reads as data -/
def tE (K : PySem.W.Frag) (W : WE) : TE := fun σ H Q => ∃ (a : Addr) (H0 : Hp) (O0 O : List Addr) (ρ : Rho) (g : Nat) (R : PyData → Nat → Prop), Rl K a H0 O0 O ρ g σ H ∧ W ρ g R ∧
  ∀ d g' v H', Kp a H H' → Rl K a H0 O0 O ρ g' σ H' → Dq K (Off (a :: O) H') v d → R d g' → Q v H'
/-- an expression's value is a new list -/
def tL (K : PySem.W.Frag) (W : WL) : TE := fun σ H Q => ∃ (a : Addr) (H0 : Hp) (O0 O : List Addr) (ρ : Rho) (g : Nat) (R : List PyData → Nat → Prop), Rl K a H0 O0 O ρ g σ H ∧ W ρ g R ∧
  ∀ ds g' p xs H', Kp a H H' → Rl K a H0 O0 (p :: O) ρ g' σ H' → H p = none → H' p = some (.lst xs) → DqAll K (Off (a :: p :: O) H') xs ds → R ds g' → Q (.ref p) H'
def tT (K : PySem.W.Frag) (W : WT) : TT := fun σ H Q => ∃ (a : Addr) (H0 : Hp) (O0 O : List Addr) (ρ : Rho) (g : Nat) (R : Bool → Nat → Prop), Rl K a H0 O0 O ρ g σ H ∧ W ρ g R ∧
  ∀ b g' H', Kp a H H' → Rl K a H0 O0 O ρ g' σ H' → R b g' → Q b H'
/-- items, arguments -/
def tA (K : PySem.W.Frag) (W : WL) : TA := fun σ H Q => ∃ (a : Addr) (H0 : Hp) (O0 O : List Addr) (ρ : Rho) (g : Nat) (R : List PyData → Nat → Prop), Rl K a H0 O0 O ρ g σ H ∧ W ρ g R ∧
  ∀ ds g' vs H', Kp a H H' → Rl K a H0 O0 O ρ g' σ H' → DqAll K (Off (a :: O) H') vs ds → R ds g' → Q vs H'
/-- arguments of a call of a def: data, or the pen -/
inductive ArgsR (K : PySem.W.Frag) (a : Addr) (H : Hp) : List V → Rho → Prop
  | nil : ArgsR K a H [] []
  | val {v : V} {d : PyData} {vs : List V} {as : Rho} : Dq K H v d → ArgsR K a H vs as → ArgsR K a H (v :: vs) (.val d :: as)
  | pen {vs : List V} {as : Rho} : ArgsR K a H vs as → ArgsR K a H (.ref a :: vs) (.pen :: as)
theorem ArgsR.to {K : PySem.W.Frag} {a : Addr} {H H' : Hp} (s : Sub H H') : ∀ {vs : List V} {as : Rho}, ArgsR K a H vs as → ArgsR K a H' vs as
  | _, _, .nil => .nil
  | _, _, .val h t => .val (h.to s) (ArgsR.to s t)
  | _, _, .pen t => .pen (ArgsR.to s t)
theorem ArgsR.len {K : PySem.W.Frag} {a : Addr} {H : Hp} : ∀ {vs : List V} {as : Rho}, ArgsR K a H vs as → vs.length = as.length
  | _, _, .nil => rfl
  | _, _, .val _ t => congrArg (· + 1) (ArgsR.len t)
  | _, _, .pen t => congrArg (· + 1) (ArgsR.len t)
def tP (K : PySem.W.Frag) (W : WP) : TA := fun σ H Q => ∃ (a : Addr) (H0 : Hp) (O0 O : List Addr) (ρ : Rho) (g : Nat) (R : Rho → Nat → Prop), Rl K a H0 O0 O ρ g σ H ∧ W ρ g R ∧
  ∀ as g' vs H', Kp a H H' → Rl K a H0 O0 O ρ g' σ H' → ArgsR K a (Off (a :: O) H') vs as → R as g' → Q vs H'

abbrev VE (X : Cx) (e : Expr) (W : WE) : Prop := PE X e (tE X.K W)
abbrev VL (X : Cx) (e : Expr) (W : WL) : Prop := PE X e (tL X.K W)
abbrev VT (X : Cx) (e : Expr) (W : WT) : Prop := PT X e (tT X.K W)
abbrev VW (X : Cx) (e : Expr) (W : WT) : Prop := PW X e (tT X.K W)
abbrev VA (X : Cx) (es : List Expr) (W : WL) : Prop := PA X es (tA X.K W)
abbrev VP (X : Cx) (es : List Expr) (W : WP) : Prop := PA X es (tP X.K W)

section
variable {X : Cx} {e a b c : Expr} {es rest : List Expr} {pos : Pos} {t t' : TE} {W Wa Wb Wc : WE}
theorem pe_weak (h : PE X e t) (w : ∀ σ H Q, t' σ H Q → t σ H Q) : PE X e t' := ⟨fun pins s σ H Q I q => h.run pins s σ H Q I (w σ H Q q)⟩
theorem pt_weak {t t' : TT} (h : PT X e t) (w : ∀ σ H Q, t' σ H Q → t σ H Q) : PT X e t' := ⟨fun pins s σ H Q I q => h.run pins s σ H Q I (w σ H Q q)⟩
theorem pw_weak {t t' : TT} (h : PW X e t) (w : ∀ σ H Q, t' σ H Q → t σ H Q) : PW X e t' := ⟨fun whole pins s σ H Q I q => h.run whole pins s σ H Q I (w σ H Q q)⟩
theorem pa_weak {t t' : TA} (h : PA X es t) (w : ∀ σ H Q, t' σ H Q → t σ H Q) : PA X es t' := ⟨fun pos pins s σ H Q I q => h.run pos pins s σ H Q I (w σ H Q q)⟩

/-! ### names, constants -/
def wVar (i : Nat) : WE := fun ρ g R => match ρ[i]? with
  | some (.val d) => R d g
  | _ => False
theorem wVar_of {i : Nat} {ρ : Rho} {g : Nat} {R : PyData → Nat → Prop} (h : wVar i ρ g R) : ∃ d, ρ[i]? = some (.val d) ∧ R d g := by
  unfold wVar at h
  split at h
  · rename_i d e
    exact ⟨d, e, h⟩
  · exact h.elim
theorem v_of_var {i : Nat} (h : PE X e (tVar i)) : VE X e (wVar i) := pe_weak h fun σ H Q ⟨a, H0, O0, O, ρ, g, R, r, w, q⟩ => by
  obtain ⟨d, hd, hR⟩ := wVar_of w
  obtain ⟨v, hv, dv⟩ := r.val hd
  exact ⟨v, hv, q d g v H (Kp.refl _ _) r dv hR⟩
theorem vv (i : Nat) {x : Str} {pos : Pos} (hN : X.N[i]? = some x := by rfl) (hv : Vis X.env.scope x := by first | exact Or.inl rfl | exact Or.inr (Or.inl rfl) | exact Or.inr (Or.inr rfl)) (hd : (x == ("__debug__" : Str)) = false := by decide)
    (hcd : (x == ("__classdict__" : Str)) = false := by decide) : VE X (.Name x pos) (wVar i) := v_of_var (pe_var hN hv hd hcd)
def wC (d : PyData) : WE := fun _ g R => R d g
theorem v_of_c {v : V} {d : PyData} (h : PE X e (tC v)) (hd : ∀ K H, Dq K H v d) : VE X e (wC d) := pe_weak h fun σ H Q ⟨a, H0, O0, O, ρ, g, R, r, w, q⟩ => q d g v H (Kp.refl _ _) r (hd _ _) w
theorem v_int {i : Int} {j pos} : VE X (.Constant (.int i) j pos) (wC (.int i)) := v_of_c pe_int fun _ _ => .int i
theorem v_bl {i : Bool} {j pos} : VE X (.Constant (.bool i) j pos) (wC (.bool i)) := v_of_c pe_bl fun _ _ => .bl i
theorem v_non {j pos} : VE X (.Constant .none j pos) (wC .none) := v_of_c pe_non fun _ _ => .non
theorem v_str {x : Str} {j pos} : VE X (.Constant (.str x) j pos) (wC (.str x)) := v_of_c pe_str fun _ _ => .str x

/-! ### items, arguments, displays -/
def wNil : WL := fun _ g R => R [] g
def wCons (W : WE) (V : WL) : WL := fun ρ g R => W ρ g fun d g1 => V ρ g1 fun ds g2 => R (d :: ds) g2
theorem va_nil : VA X [] wNil := pa_weak pa_nil fun σ H Q ⟨a, H0, O0, O, ρ, g, R, r, w, q⟩ => q [] g [] H (Kp.refl _ _) r .nil w
theorem va_cons {V : WL} (h : VE X e W) (t : VA X es V) (hs : starEach (e :: es) X.env = (false, eval e X.env) :: starEach es X.env := by rfl) : VA X (e :: es) (wCons W V) :=
  pa_weak (pa_cons h t hs) fun σ H Q ⟨a, H0, O0, O, ρ, g, R, r, w, q⟩ => ⟨a, H0, O0, O, ρ, g, _, r, w, fun d g1 v H1 k1 r1 d1 w1 => ⟨a, H0, O0, O, ρ, g1, _, r1, w1, fun ds g2 vs H2 k2 r2 d2 w2 =>
    q (d :: ds) g2 (v :: vs) H2 (k1.trans k2) r2 (.cons (d1.to (off_kp k2)) d2) w2⟩⟩
def pNil : WP := fun _ g R => R [] g
def pCons (W : WE) (V : WP) : WP := fun ρ g R => W ρ g fun d g1 => V ρ g1 fun ds g2 => R (.val d :: ds) g2
def pPen (i : Nat) (V : WP) : WP := fun ρ g R => ρ[i]? = some .pen ∧ V ρ g fun ds g2 => R (.pen :: ds) g2
theorem vp_nil : VP X [] pNil := pa_weak pa_nil fun σ H Q ⟨a, H0, O0, O, ρ, g, R, r, w, q⟩ => q [] g [] H (Kp.refl _ _) r .nil w
theorem vp_cons {V : WP} (h : VE X e W) (t : VP X es V) (hs : starEach (e :: es) X.env = (false, eval e X.env) :: starEach es X.env := by rfl) : VP X (e :: es) (pCons W V) :=
  pa_weak (pa_cons h t hs) fun σ H Q ⟨a, H0, O0, O, ρ, g, R, r, w, q⟩ => ⟨a, H0, O0, O, ρ, g, _, r, w, fun d g1 v H1 k1 r1 d1 w1 => ⟨a, H0, O0, O, ρ, g1, _, r1, w1, fun ds g2 vs H2 k2 r2 d2 w2 =>
    q (.val d :: ds) g2 (v :: vs) H2 (k1.trans k2) r2 (.val (d1.to (off_kp k2)) d2) w2⟩⟩
theorem vp_pen (i : Nat) {V : WP} {x : Str} {pos : Pos} (t : VP X es V) (hN : X.N[i]? = some x := by rfl) (hv : Vis X.env.scope x := by first | exact Or.inl rfl | exact Or.inr (Or.inl rfl) | exact Or.inr (Or.inr rfl)) (hd : (x == ("__debug__" : Str)) = false := by decide)
    (hcd : (x == ("__classdict__" : Str)) = false := by decide) (hs : starEach (.Name x pos :: es) X.env = (false, eval (.Name x pos) X.env) :: starEach es X.env := by rfl) : VP X (.Name x pos :: es) (pPen i V) :=
  pa_weak (pa_cons (pe_var hN hv hd hcd) t hs) fun σ H Q ⟨a, H0, O0, O, ρ, g, R, r, w, q⟩ => ⟨.ref a, r.slot i _ w.1, a, H0, O0, O, ρ, g, _, r, w.2, fun ds g2 vs H2 k2 r2 d2 w2 =>
    q (.pen :: ds) g2 (.ref a :: vs) H2 k2 r2 (.pen d2) w2⟩
def wTup (V : WL) : WE := fun ρ g R => V ρ g fun ds g1 => ds.length ≤ sizeLine ∧ R (.tuple ds) g1
theorem v_tup {V : WL} {x1} (h : VA X es V) : VE X (.Tuple es x1 pos) (wTup V) :=
  pe_weak (pe_tup h) fun σ H Q ⟨a, H0, O0, O, ρ, g, R, r, w, q⟩ => ⟨a, H0, O0, O, ρ, g, _, r, w, fun ds g1 vs H1 k1 r1 d1 w1 => ⟨by rw [d1.len]; exact w1.1, fun p hp => by
    have s := sub_upd (o := .tup vs) hp
    exact q (.tuple ds) g1 (.ref p) _ (k1.trans (Kp.of s)) (r1.ext s) (.tup (.inl (.inl (off_in (r1.freshA hp) upd_same))) (d1.to (off_mono s))) w1.2⟩⟩
def lLst (V : WL) : WL := fun ρ g R => V ρ g fun ds g1 => ds.length ≤ sizeLine ∧ R ds g1
theorem vl_lst {V : WL} (h : VA X es V) : VL X (.List es pos) (lLst V) :=
  pe_weak (pe_lst h) fun σ H Q ⟨a, H0, O0, O, ρ, g, R, r, w, q⟩ => ⟨a, H0, O0, O, ρ, g, _, r, w, fun ds g1 vs H1 k1 r1 d1 w1 => ⟨by rw [d1.len]; exact w1.1, fun p hp => by
    have s := sub_upd (o := .lst vs) hp
    have hp0 : H p = none := by
      cases e : H p with
      | none => rfl
      | some o =>
        by_cases z : p = a
        · exact absurd hp (r1.liveA p (by rw [z]; exact List.mem_cons_self))
        · rw [k1 p o z e] at hp
          cases hp
    exact q ds g1 p vs _ (k1.trans (Kp.of s)) (r1.hide hp) hp0 upd_same (d1.to (off_new hp)) w1.2⟩⟩
/-- a new list, as data -/
def wL (V : WL) : WE := fun ρ g R => V ρ g fun ds g1 => R (.list ds) g1
theorem v_l {V : WL} (h : VL X e V) : VE X e (wL V) :=
  pe_weak h fun σ H Q ⟨a, H0, O0, O, ρ, g, R, r, w, q⟩ => ⟨a, H0, O0, O, ρ, g, _, r, w, fun ds g1 p xs H1 k1 r1 hp hx d1 w1 => by
    exact q (.list ds) g1 (.ref p) H1 k1 (r.unhide r1) (.lst (off_in (r.freshA hp) hx) (d1.to off_shed)) w1⟩
theorem v_lst {V : WL} (h : VA X es V) : VE X (.List es pos) (wL (lLst V)) := v_l (vl_lst h)

/-! ### operators by data -/
abbrev F2 := PyData → PyData → (PyData → Prop) → Prop
/-- the operation r, told over data by f -/
def OpS (K : PySem.W.Frag) (r : R2) (f : F2) : Prop := ∀ (A : List Addr) (H : Hp) (x y : V) (dx dy : PyData) (R : PyData → Prop) (Q : VK), (∀ p ∈ A, H p ≠ none) → Dq K (Off A H) x dx → Dq K (Off A H) y dy → f dx dy R →
  (∀ z dz H', Sub H H' → Dq K (Off A H') z dz → R dz → Q z H') → r x y H Q
theorem OpS.or1 {K : PySem.W.Frag} {r r' : R2} {f f' : F2} (h : OpS K r f) (h' : OpS K r' f') : OpS K (fun x y H Q => r x y H Q ∨ r' x y H Q) (fun x y R => f x y R ∨ f' x y R) :=
  fun A H x y dx dy R Q hA hx hy w q => by
    rcases w with w | w
    · exact .inl (h A H x y dx dy R Q hA hx hy w q)
    · exact .inr (h' A H x y dx dy R Q hA hx hy w q)
theorem OpS.weak {K : PySem.W.Frag} {r : R2} {f f' : F2} (h : OpS K r f) (w : ∀ x y R, f' x y R → f x y R) : OpS K r f' := fun A H x y dx dy R Q hA hx hy wf q => h A H x y dx dy R Q hA hx hy (w _ _ _ wf) q
def wOp (f : F2) (Wa Wb : WE) : WE := fun ρ g R => Wa ρ g fun x g1 => Wb ρ g1 fun y g2 => f x y fun z => R z g2
theorem tE_op {K : PySem.W.Frag} {r : R2} {f : F2} (hf : OpS K r f) {Wa Wb : WE} : ∀ σ H Q, tE K (wOp f Wa Wb) σ H Q → tOp r (tE K Wa) (tE K Wb) σ H Q :=
  fun σ H Q ⟨a, H0, O0, O, ρ, g, R, r, w, q⟩ => ⟨a, H0, O0, O, ρ, g, _, r, w, fun d g1 v H1 k1 r1 d1 w1 => ⟨a, H0, O0, O, ρ, g1, _, r1, w1, fun d' g2 v' H2 k2 r2 d2 w2 =>
    hf (a :: O) H2 v v' d d' _ Q r2.liveA (d1.to (off_kp k2)) d2 w2 fun z dz H3 s hz hR => q dz g2 z H3 ((k1.trans k2).trans (Kp.of s)) (r2.ext s) hz hR⟩⟩
theorem v_bin {op : Operator} {r : R2} {f : F2} (ho : OpR X (binaryOp op) r) (hf : OpS X.K r f) (ha : VE X a Wa) (hb : VE X b Wb) : VE X (.BinOp a op b pos) (wOp f Wa Wb) := pe_weak (pe_op ho ha hb) (tE_op hf)
theorem v_cmp {op : CmpOp} {r : R2} {f : F2} (ho : OpR X (compareOp op) r) (hf : OpS X.K r f) (ha : VE X a Wa) (hb : VE X b Wb) (hm : behindInMarks op b = false) : VE X (.Compare a [op] [b] pos) (wOp f Wa Wb) := pe_weak (pe_cmpR ho ha hb hm) (tE_op hf)
/-- a bool, as a test -/
def wB (W : WE) : WT := fun ρ g R => W ρ g fun d g1 => match d with
  | .bool k => R k g1
  | _ => False
theorem tT_of {K : PySem.W.Frag} {W : WE} : ∀ σ H Q, tT K (wB W) σ H Q → tE K W σ H fun x H' => ∃ k, x = .bl k ∧ Q k H' :=
  fun σ H Q ⟨a, H0, O0, O, ρ, g, R, r, w, q⟩ => ⟨a, H0, O0, O, ρ, g, _, r, w, fun d g1 v H1 k1 r1 d1 w1 => by
    cases d with
    | bool k =>
      cases d1
      exact ⟨k, rfl, q k g1 H1 k1 r1 w1⟩
    | _ => exact w1.elim⟩
theorem tE_mono {K : PySem.W.Frag} {W : WE} {σ : L2.St} {H : Hp} {Q Q' : VK} (h : tE K W σ H Q) (k : ∀ v H', Q v H' → Q' v H') : tE K W σ H Q' := by
  obtain ⟨a, H0, O0, O, ρ, g, R, r, w, q⟩ := h
  exact ⟨a, H0, O0, O, ρ, g, R, r, w, fun d g' v H' h1 h2 h3 h4 => k _ _ (q d g' v H' h1 h2 h3 h4)⟩
theorem t_cmp {op : CmpOp} {r : R2} {f : F2} (ho : OpR X (compareOp op) r) (hf : OpS X.K r f) (ha : VE X a Wa) (hb : VE X b Wb) (hm : behindInMarks op b = false) : VT X (.Compare a [op] [b] pos) (wB (wOp f Wa Wb)) :=
  pt_weak (pt_cmpR ho ha hb hm) fun σ H Q h => tE_op hf σ H _ (tT_of σ H Q h)
/-- a value of which the test is its truth (a name, a call) -/
theorem t_val (h : VE X e W) (he : ∀ whole, isTrue e X.env whole = (do let v ← whole; standAt e.pos; holding [v] (truthy v)) := by intro _; rfl) : VT X e (wB W) := pt_weak (pt_val h he) tT_of
/-- a < b < c -/
def wChain (f f' : F2) (Wa Wb Wc : WE) : WE := fun ρ g R => Wa ρ g fun x g1 => Wb ρ g1 fun y g2 => f x y fun z => match z with
  | .bool true => Wc ρ g2 fun w g3 => f' y w fun u => R u g3
  | .bool false => R (.bool false) g2
  | _ => False
theorem tE_chain {K : PySem.W.Frag} {r r' : R2} {f f' : F2} (hf : OpS K r f) (hf' : OpS K r' f') {Wa Wb Wc : WE} : ∀ σ H Q, tE K (wChain f f' Wa Wb Wc) σ H Q → tChain r r' (tE K Wa) (tE K Wb) (tE K Wc) σ H Q :=
  fun σ H Q ⟨a, H0, O0, O, ρ, g, R, r, w, q⟩ => ⟨a, H0, O0, O, ρ, g, _, r, w, fun d g1 v H1 k1 r1 d1 w1 => ⟨a, H0, O0, O, ρ, g1, _, r1, w1, fun d' g2 v' H2 k2 r2 d2 w2 =>
    hf (a :: O) H2 v v' d d' _ _ r2.liveA (d1.to (off_kp k2)) d2 w2 fun z dz H3 s hz hR => by
      cases dz with
      | bool k =>
        cases hz
        refine ⟨k, rfl, ?_⟩
        cases k with
        | false =>
          rw [if_neg Bool.false_ne_true]
          exact q _ g2 _ H3 ((k1.trans k2).trans (Kp.of s)) (r2.ext s) (.bl false) hR
        | true =>
          rw [if_pos rfl]
          exact ⟨a, H0, O0, O, ρ, g2, _, r2.ext s, hR, fun d3 g3 v3 H4 k3 r3 d3' w3 =>
            hf' (a :: O) H4 v' v3 d' d3 _ Q r3.liveA ((d2.to (off_mono s)).to (off_kp k3)) d3' w3 fun z dz H5 s5 hz hR => q dz g3 z H5 (((k1.trans k2).trans (Kp.of s)).trans (k3.trans (Kp.of s5))) (r3.ext s5) hz hR⟩
      | _ => exact hR.elim⟩⟩
theorem v_chain {op op' : CmpOp} {r r' : R2} {f f' : F2} (ho : OpR X (compareOp op) r) (hf : OpS X.K r f) (ho' : OpR X (compareOp op') r') (hf' : OpS X.K r' f') (ha : VE X a Wa) (hb : VE X b Wb) (hc : VE X c Wc)
    (hm : lastMarks [op, op'] [b, c] = false := by with_unfolding_all rfl) : VE X (.Compare a [op, op'] [b, c] pos) (wChain f f' Wa Wb Wc) := pe_weak (pe_chain ho ho' ha hb hc hm) (tE_chain hf hf')
theorem t_chain {op op' : CmpOp} {r r' : R2} {f f' : F2} (ho : OpR X (compareOp op) r) (hf : OpS X.K r f) (ho' : OpR X (compareOp op') r') (hf' : OpS X.K r' f') (ha : VE X a Wa) (hb : VE X b Wb) (hc : VE X c Wc)
    (hm : lastMarks [op, op'] [b, c] = false := by with_unfolding_all rfl) : VT X (.Compare a [op, op'] [b, c] pos) (wB (wChain f f' Wa Wb Wc)) :=
  pt_weak (pt_chain ho ho' ha hb hc hm) fun σ H Q h => tE_chain hf hf' σ H _ (tT_of σ H Q h)

/-! ### and, or, not -/
def wAnd (Wa Wb : WT) : WT := fun ρ g R => Wa ρ g fun k g1 => if k = true then Wb ρ g1 R else R false g1
def wOr (Wa Wb : WT) : WT := fun ρ g R => Wa ρ g fun k g1 => if k = true then R true g1 else Wb ρ g1 R
def wNot (Wa : WT) : WT := fun ρ g R => Wa ρ g fun k g1 => R (!k) g1
theorem tT_and {K : PySem.W.Frag} {Wa Wb : WT} : ∀ σ H Q, tT K (wAnd Wa Wb) σ H Q → tAnd (tT K Wa) (tT K Wb) σ H Q :=
  fun σ H Q ⟨a, H0, O0, O, ρ, g, R, r, w, q⟩ => ⟨a, H0, O0, O, ρ, g, _, r, w, fun b g1 H1 k1 r1 w1 => by
    cases b with
    | true =>
      rw [if_pos rfl] at w1 ⊢
      exact ⟨a, H0, O0, O, ρ, g1, R, r1, w1, fun b g2 H2 k2 r2 w2 => q b g2 H2 (k1.trans k2) r2 w2⟩
    | false =>
      rw [if_neg Bool.false_ne_true] at w1 ⊢
      exact q false g1 H1 k1 r1 w1⟩
theorem tT_or {K : PySem.W.Frag} {Wa Wb : WT} : ∀ σ H Q, tT K (wOr Wa Wb) σ H Q → tOr (tT K Wa) (tT K Wb) σ H Q :=
  fun σ H Q ⟨a, H0, O0, O, ρ, g, R, r, w, q⟩ => ⟨a, H0, O0, O, ρ, g, _, r, w, fun b g1 H1 k1 r1 w1 => by
    cases b with
    | true =>
      rw [if_pos rfl] at w1 ⊢
      exact q true g1 H1 k1 r1 w1
    | false =>
      rw [if_neg Bool.false_ne_true] at w1 ⊢
      exact ⟨a, H0, O0, O, ρ, g1, R, r1, w1, fun b g2 H2 k2 r2 w2 => q b g2 H2 (k1.trans k2) r2 w2⟩⟩
theorem w_and1 {Wa : WT} (h : VT X a Wa) : VW X (.BoolOp .And [a] pos) Wa := pw_and1 h
theorem w_or1 {Wa : WT} (h : VT X a Wa) : VW X (.BoolOp .Or [a] pos) Wa := pw_or1 h
theorem w_and {Wa Wb : WT} (h : VT X a Wa) (h2 : VW X (.BoolOp .And (b :: rest) pos) Wb) : VW X (.BoolOp .And (a :: b :: rest) pos) (wAnd Wa Wb) := pw_weak (pw_and h h2) tT_and
theorem w_or {Wa Wb : WT} (h : VT X a Wa) (h2 : VW X (.BoolOp .Or (b :: rest) pos) Wb) : VW X (.BoolOp .Or (a :: b :: rest) pos) (wOr Wa Wb) := pw_weak (pw_or h h2) tT_or
theorem t_w {Wa : WT} (h : VW X e Wa) : VT X e Wa := PW.pt h
theorem t_not {Wa : WT} (h : VT X a Wa) : VT X (.UnaryOp .Not a pos) (wNot Wa) := pt_weak (pt_not h) fun σ H Q ⟨a, H0, O0, O, ρ, g, R, r, w, q⟩ => ⟨a, H0, O0, O, ρ, g, _, r, w, fun b g1 H1 k1 r1 w1 => q (!b) g1 H1 k1 r1 w1⟩
/-- as values, of bools -/
def wAndV (Wa Wb : WE) : WE := fun ρ g R => wB Wa ρ g fun k g1 => if k = true then Wb ρ g1 R else R (.bool false) g1
def wOrV (Wa Wb : WE) : WE := fun ρ g R => wB Wa ρ g fun k g1 => if k = true then R (.bool true) g1 else Wb ρ g1 R
def wNotV (Wa : WE) : WE := fun ρ g R => wB Wa ρ g fun k g1 => R (.bool (!k)) g1
theorem v_one {op} (h : VE X a Wa) : VE X (.BoolOp op [a] pos) Wa := pe_one h
theorem v_and (h : VE X a Wa) (h2 : VE X (.BoolOp .And (b :: rest) pos) Wb) : VE X (.BoolOp .And (a :: b :: rest) pos) (wAndV Wa Wb) :=
  pe_weak (pe_and h h2) fun σ H Q ⟨a, H0, O0, O, ρ, g, R, r, w, q⟩ => ⟨a, H0, O0, O, ρ, g, _, r, w, fun d g1 v H1 k1 r1 d1 w1 => by
    cases d with
    | bool k =>
      cases d1
      refine ⟨k, rfl, ?_⟩
      have w1 : if k = true then Wb ρ g1 R else R (.bool false) g1 := w1
      cases k with
      | true =>
        rw [if_pos rfl] at w1 ⊢
        exact ⟨a, H0, O0, O, ρ, g1, R, r1, w1, fun b g2 v2 H2 k2 r2 d2 w2 => q b g2 v2 H2 (k1.trans k2) r2 d2 w2⟩
      | false =>
        rw [if_neg Bool.false_ne_true] at w1 ⊢
        exact q _ g1 _ H1 k1 r1 (.bl false) w1
    | _ => exact w1.elim⟩
theorem v_or (h : VE X a Wa) (h2 : VE X (.BoolOp .Or (b :: rest) pos) Wb) : VE X (.BoolOp .Or (a :: b :: rest) pos) (wOrV Wa Wb) :=
  pe_weak (pe_or h h2) fun σ H Q ⟨a, H0, O0, O, ρ, g, R, r, w, q⟩ => ⟨a, H0, O0, O, ρ, g, _, r, w, fun d g1 v H1 k1 r1 d1 w1 => by
    cases d with
    | bool k =>
      cases d1
      refine ⟨k, rfl, ?_⟩
      have w1 : if k = true then R (.bool true) g1 else Wb ρ g1 R := w1
      cases k with
      | true =>
        rw [if_pos rfl] at w1 ⊢
        exact q _ g1 _ H1 k1 r1 (.bl true) w1
      | false =>
        rw [if_neg Bool.false_ne_true] at w1 ⊢
        exact ⟨a, H0, O0, O, ρ, g1, R, r1, w1, fun b g2 v2 H2 k2 r2 d2 w2 => q b g2 v2 H2 (k1.trans k2) r2 d2 w2⟩
    | _ => exact w1.elim⟩
theorem v_not (h : VE X a Wa) : VE X (.UnaryOp .Not a pos) (wNotV Wa) :=
  pe_weak (pe_not h) fun σ H Q ⟨a, H0, O0, O, ρ, g, R, r, w, q⟩ => ⟨a, H0, O0, O, ρ, g, _, r, w, fun d g1 v H1 k1 r1 d1 w1 => by
    cases d with
    | bool k =>
      cases d1
      exact ⟨k, rfl, q _ g1 _ H1 k1 r1 (.bl _) w1⟩
    | _ => exact w1.elim⟩
def wIf (T : WT) (Wa Wb : WE) : WE := fun ρ g R => T ρ g fun k g1 => if k = true then Wa ρ g1 R else Wb ρ g1 R
theorem v_if {T : WT} (h : VT X c T) (ha : VE X a Wa) (hb : VE X b Wb) : VE X (.IfExp c a b pos) (wIf T Wa Wb) :=
  pe_weak (pe_ifExp h ha hb) fun σ H Q ⟨a, H0, O0, O, ρ, g, R, r, w, q⟩ => ⟨a, H0, O0, O, ρ, g, _, r, w, fun k g1 H1 k1 r1 w1 => by
    cases k with
    | true =>
      rw [if_pos rfl] at w1 ⊢
      exact ⟨a, H0, O0, O, ρ, g1, R, r1, w1, fun b g2 v2 H2 k2 r2 d2 w2 => q b g2 v2 H2 (k1.trans k2) r2 d2 w2⟩
    | false =>
      rw [if_neg Bool.false_ne_true] at w1 ⊢
      exact ⟨a, H0, O0, O, ρ, g1, R, r1, w1, fun b g2 v2 H2 k2 r2 d2 w2 => q b g2 v2 H2 (k1.trans k2) r2 d2 w2⟩⟩
end
end Vl
/-! V2: data in the machine's heap; operators and built-ins over data. -/
namespace Vl
open PySem PySem.Spec PyProof.Rows L2

section
variable {X : Cx} {pins : List (Addr × Obj)} {σ : L2.St} {H : Hp} {s : Shared}
mutual
theorem Dq.reads (I : Inv X pins σ H s) : ∀ (d : PyData) (v : V) (u : Value), noX d = true → Dq X.K H v d → RelV v u → ∃ as, Reads s.heap u d as
  | .none, _, _, _, h, r => by
    cases h
    cases r
    exact ⟨_, Reads.none⟩
  | .bool b, _, _, _, h, r => by
    cases h
    cases r
    exact ⟨_, Reads.bool b⟩
  | .int i, _, _, _, h, r => by
    cases h
    obtain ⟨t, rfl⟩ := r
    exact ⟨_, Reads.int i t⟩
  | .str x, _, _, _, h, r => by
    cases h
    obtain ⟨t, rfl⟩ := r
    exact ⟨_, Reads.str x t⟩
  | .list ds, _, _, nx, h, r => by
    simp only [noX] at nx
    cases h with
    | lst hs ha =>
      cases r
      obtain ⟨its, rv, ⟨o, n, ho, hc, _, hd⟩, _⟩ := I.list (SqL.of hs)
      obtain ⟨as, hr⟩ := DqAll.reads I ds _ its nx ha rv
      exact ⟨_, Reads.list ho hc hd hr⟩
  | .tuple ds, _, _, nx, h, r => by
    simp only [noX] at nx
    cases h with
    | tup hs ha =>
      cases r
      obtain ⟨its, rv, ⟨o, ho, hc, n, hd⟩, _⟩ := I.tuple hs
      obtain ⟨as, hr⟩ := DqAll.reads I ds _ its nx ha rv
      exact ⟨_, Reads.tuple ho hc hd hr⟩
  | .dict _, _, _, nx, h, r => by
    cases h with
    | exc0 => simp only [exD, noX] at nx; cases nx
    | exc1 => simp only [exD, noX] at nx; cases nx
    | emp e =>
      cases r
      obtain ⟨_, _, vs, rel, o, es, ep, h1, h2, h3, _, h5, _⟩ := dk_of I.hok e
      cases rel
      have he : es.toList = [] := by
        generalize es.toList = l at h5
        cases h5
        rfl
      exact ⟨_, Reads.dict (kvs := []) h1 h2.1 h3 (by rw [he]; exact .nil) (by rw [he]; exact .nil)⟩
theorem DqAll.reads (I : Inv X pins σ H s) : ∀ (ds : List PyData) (vs : List V) (us : List Value), noXs ds = true → DqAll X.K H vs ds → Vals vs us → ∃ as, ReadsAll s.heap us ds as
  | [], _, _, _, h, r => by
    cases h
    cases r
    exact ⟨_, .nil⟩
  | d :: ds, _, _, nx, h, r => by
    simp only [noXs, Bool.and_eq_true] at nx
    cases h with
    | cons h1 h2 =>
      cases r with
      | cons r1 r2 =>
        obtain ⟨as, q1⟩ := Dq.reads I d _ _ nx.1 h1 r1
        obtain ⟨bs, q2⟩ := DqAll.reads I ds _ _ nx.2 h2 r2
        exact ⟨_, .cons q1 q2⟩
end
end

/-! ### ints -/
def fII (g : Int → Int → PyData) (C : Int → Int → Prop) : F2 := fun x y R => match x, y with
  | .int i, .int j => C i j ∧ R (g i j)
  | _, _ => False
theorem opS_I {K : PySem.W.Frag} {C : Int → Int → Prop} {f : Int → Int → Int} : OpS K (rI C fun i j => .int (f i j)) (fII (fun i j => .int (f i j)) C) := fun A H x y dx dy R Q _ hx hy w q => by
  cases dx <;> try exact w.elim
  cases dy <;> try exact w.elim
  cases hx
  cases hy
  exact ⟨_, _, rfl, rfl, w.1, q _ _ H (Sub.refl _) (.int _) w.2⟩
theorem opS_I0 {K : PySem.W.Frag} {f : Int → Int → Int} : OpS K (rI0 fun i j => .int (f i j)) (fII (fun i j => .int (f i j)) fun _ _ => True) := fun A H x y dx dy R Q _ hx hy w q => by
  cases dx <;> try exact w.elim
  cases dy <;> try exact w.elim
  cases hx
  cases hy
  exact ⟨_, _, rfl, rfl, q _ _ H (Sub.refl _) (.int _) w.2⟩
theorem opS_B0 {K : PySem.W.Frag} {f : Int → Int → Bool} : OpS K (rI0 fun i j => .bl (f i j)) (fII (fun i j => .bool (f i j)) fun _ _ => True) := fun A H x y dx dy R Q _ hx hy w q => by
  cases dx <;> try exact w.elim
  cases dy <;> try exact w.elim
  cases hx
  cases hy
  exact ⟨_, _, rfl, rfl, q _ _ H (Sub.refl _) (.bl _) w.2⟩
abbrev fSub : F2 := fII (fun i j => .int (i - j)) fun _ _ => True
abbrev fMulI : F2 := fII (fun i j => .int (i * j)) CMul
abbrev fDiv : F2 := fII (fun i j => .int (i / j)) CDiv
abbrev fMod : F2 := fII (fun i j => .int (i % j)) fun _ j => 0 < j
abbrev fPow : F2 := fII (fun i j => .int (i ^ j.toNat)) CPow
abbrev fLtI : F2 := fII (fun i j => .bool (decide (i < j))) fun _ _ => True
abbrev fLe : F2 := fII (fun i j => .bool (decide (i ≤ j))) fun _ _ => True
abbrev fGt : F2 := fII (fun i j => .bool (decide (j < i))) fun _ _ => True
abbrev fGe : F2 := fII (fun i j => .bool (decide (j ≤ i))) fun _ _ => True

/-! ### + -/
def fAdd : F2 := fun x y R => match x, y with
  | .int i, .int j => R (.int (i + j))
  | .tuple xs, .tuple ys => xs.length + ys.length ≤ sizeLine ∧ R (.tuple (xs ++ ys))
  | .list xs, .list ys => xs.length + ys.length ≤ sizeLine ∧ R (.list (xs ++ ys))
  | _, _ => False
def rAddA (K : PySem.W.Frag) : R2 := fun x y H Q => (rI0 (fun i j => .int (i + j)) x y H Q ∨ rCatA K x y H Q) ∨ rCat x y H Q
theorem op_addA {X : Cx} : OpR X (binaryOp .Add) (rAddA X.K) := (op_add.or op_catA).or op_cat
theorem off_upd {A : List Addr} {H : Hp} {p : Addr} {o : HO} (hA : ∀ q ∈ A, H q ≠ none) (hp : H p = none) : Off A (upd H p o) p = some o := off_in (fun z => hA p z hp) upd_same
theorem opS_add {K : PySem.W.Frag} : OpS K (rAddA K) fAdd := fun A H x y dx dy R Q hA hx hy w q => by
  cases dx <;> try exact w.elim
  · cases dy <;> try exact w.elim
    cases hx
    cases hy
    exact .inl (.inl ⟨_, _, rfl, rfl, q _ _ H (Sub.refl _) (.int _) w⟩)
  · rename_i xs
    cases dy <;> try exact w.elim
    rename_i ys
    cases hx with
    | @lst a vs _ ha hv =>
      cases hy with
      | @lst b ws _ hb hw =>
        refine .inr ⟨_, _, _, _, rfl, rfl, off_out _ _ ha, off_out _ _ hb, by rw [hv.len, hw.len]; exact w.1, fun p hp => ?_⟩
        have s := sub_upd (o := .lst (vs ++ ws)) hp
        exact q _ _ _ s (.lst (off_upd hA hp) ((hv.app hw).to (off_mono s))) w.2
  · rename_i xs
    cases dy <;> try exact w.elim
    rename_i ys
    cases hx with
    | @tup a vs _ ha hv =>
      cases hy with
      | @tup b ws _ hb hw =>
        refine .inl (.inr ⟨_, _, _, _, rfl, rfl, sqt_mono off_out ha, sqt_mono off_out hb, by rw [hv.len, hw.len]; exact w.1, fun e => ?_, fun n e => ?_, fun n1 n2 p hp => ?_⟩)
        · subst e
          cases hv
          exact q _ _ H (Sub.refl _) (.tup hb hw) (by simpa using w.2)
        · subst e
          cases hw
          exact q _ _ H (Sub.refl _) (.tup ha hv) (by simpa using w.2)
        · have s := sub_upd (o := .tup (vs ++ ws)) hp
          exact q _ _ _ s (.tup (.inl (.inl (off_upd hA hp))) ((hv.app hw).to (off_mono s))) w.2

/-! ### == and in, plain data (without dicts) -/
def rEqP (K : PySem.W.Frag) (neg : Bool) : R2 := fun x y H Q => ∃ d e, Dq K H x d ∧ Dq K H y e ∧ d.plain = true ∧ e.plain = true ∧ min d.depth e.depth ≤ 60 ∧ Q (.bl (if neg = true then !PyData.eqv d e else PyData.eqv d e)) H
theorem op_eqP {X : Cx} (hu : X.A.units + 64 < cLine) : OpR X (compareOp .Eq) (rEqP X.K false) := by
  intro pins s σ H x y v u Q I rx ry h
  obtain ⟨d, e, hd, he, pd, pe, hz, q⟩ := h
  obtain ⟨as, r1⟩ := Dq.reads I d x v (noX_plain d pd) hd rx
  obtain ⟨bs, r2⟩ := Dq.reads I e y u (noX_plain e pe) he ry
  exact PySem.SeqAt.eq_plain r1 r2 pd pe (by omega) ⟨.bl _, H, I, rfl, q⟩
theorem op_neP {X : Cx} (hu : X.A.units + 64 < cLine) : OpR X (compareOp .NotEq) (rEqP X.K true) := by
  intro pins s σ H x y v u Q I rx ry h
  obtain ⟨d, e, hd, he, pd, pe, hz, q⟩ := h
  obtain ⟨as, r1⟩ := Dq.reads I d x v (noX_plain d pd) hd rx
  obtain ⟨bs, r2⟩ := Dq.reads I e y u (noX_plain e pe) he ry
  exact PySem.SeqAt.ne_plain r1 r2 pd pe (by omega) ⟨.bl _, H, I, rfl, q⟩
def fEq : F2 := fun d e R => (d.plain = true ∧ e.plain = true ∧ min d.depth e.depth ≤ 60) ∧ R (.bool (PyData.eqv d e))
def fNe : F2 := fun d e R => (d.plain = true ∧ e.plain = true ∧ min d.depth e.depth ≤ 60) ∧ R (.bool (!PyData.eqv d e))
theorem opS_eq {K : PySem.W.Frag} : OpS K (rEqP K false) fEq := fun A H x y dx dy R Q hA hx hy w q =>
  ⟨dx, dy, hx.to off_out, hy.to off_out, w.1.1, w.1.2.1, w.1.2.2, q _ _ H (Sub.refl _) (.bl _) w.2⟩
theorem opS_ne {K : PySem.W.Frag} : OpS K (rEqP K true) fNe := fun A H x y dx dy R Q hA hx hy w q =>
  ⟨dx, dy, hx.to off_out, hy.to off_out, w.1.1, w.1.2.1, w.1.2.2, q _ _ H (Sub.refl _) (.bl _) w.2⟩
def itemsD : PyData → Option (List PyData)
  | .list xs => some xs
  | .tuple xs => some xs
  | _ => none
def rInP (K : PySem.W.Frag) (neg : Bool) : R2 := fun x y H Q => ∃ d c xs, Dq K H x d ∧ Dq K H y c ∧ itemsD c = some xs ∧ PyData.plainAll xs = true ∧ d.plain = true ∧ min (PyData.depthAll xs) d.depth ≤ 60 ∧
  Q (.bl (if neg = true then !(xs.any fun y => PyData.eqv y d) else xs.any fun y => PyData.eqv y d)) H
theorem op_inP {X : Cx} (hu : X.A.units + 64 < cLine) : OpR X (compareOp .In) (rInP X.K false) := by
  intro pins s σ H x y v u Q I rx ry h
  obtain ⟨d, c, xs, hd, hc, hi, pa, pd, hz, q⟩ := h
  obtain ⟨as, r1⟩ := Dq.reads I d x v (noX_plain d pd) hd rx
  have nc : noX c = true := by
    cases c <;> cases hi <;> (simp only [noX]; exact noXs_plain _ pa)
  obtain ⟨bs, r2⟩ := Dq.reads I c y u nc hc ry
  cases c <;> cases hi
  · exact PySem.SeqAt.in_list_data r2 r1 pa pd (by omega) ⟨.bl _, H, I, rfl, q⟩
  · exact PySem.SeqAt.in_tuple_data r2 r1 pa pd (by omega) ⟨.bl _, H, I, rfl, q⟩
theorem op_niP {X : Cx} (hu : X.A.units + 64 < cLine) : OpR X (compareOp .NotIn) (rInP X.K true) := by
  intro pins s σ H x y v u Q I rx ry h
  obtain ⟨d, c, xs, hd, hc, hi, pa, pd, hz, q⟩ := h
  obtain ⟨as, r1⟩ := Dq.reads I d x v (noX_plain d pd) hd rx
  have nc : noX c = true := by
    cases c <;> cases hi <;> (simp only [noX]; exact noXs_plain _ pa)
  obtain ⟨bs, r2⟩ := Dq.reads I c y u nc hc ry
  cases c <;> cases hi
  · exact PySem.SeqAt.notIn_list_data r2 r1 pa pd (by omega) ⟨.bl _, H, I, rfl, q⟩
  · exact PySem.SeqAt.notIn_tuple_data r2 r1 pa pd (by omega) ⟨.bl _, H, I, rfl, q⟩
def fIn : F2 := fun d c R => ∃ xs, itemsD c = some xs ∧ (PyData.plainAll xs = true ∧ d.plain = true ∧ min (PyData.depthAll xs) d.depth ≤ 60) ∧ R (.bool (xs.any fun y => PyData.eqv y d))
def fNi : F2 := fun d c R => ∃ xs, itemsD c = some xs ∧ (PyData.plainAll xs = true ∧ d.plain = true ∧ min (PyData.depthAll xs) d.depth ≤ 60) ∧ R (.bool (!(xs.any fun y => PyData.eqv y d)))
theorem opS_in {K : PySem.W.Frag} : OpS K (rInP K false) fIn := fun A H x y dx dy R Q hA hx hy ⟨xs, h1, h2, w⟩ q =>
  ⟨dx, dy, xs, hx.to off_out, hy.to off_out, h1, h2.1, h2.2.1, h2.2.2, q _ _ H (Sub.refl _) (.bl _) w⟩
theorem opS_ni {K : PySem.W.Frag} : OpS K (rInP K true) fNi := fun A H x y dx dy R Q hA hx hy ⟨xs, h1, h2, w⟩ q =>
  ⟨dx, dy, xs, hx.to off_out, hy.to off_out, h1, h2.1, h2.2.1, h2.2.2, q _ _ H (Sub.refl _) (.bl _) w⟩

/-! ### the rules, by the sign -/
section
variable {X : Cx} {e a b c : Expr} {es rest : List Expr} {pos : Pos} {W Wa Wb Wc : WE}
theorem v_add (ha : VE X a Wa) (hb : VE X b Wb) : VE X (.BinOp a .Add b pos) (wOp fAdd Wa Wb) := v_bin op_addA opS_add ha hb
theorem v_sub (ha : VE X a Wa) (hb : VE X b Wb) : VE X (.BinOp a .Sub b pos) (wOp fSub Wa Wb) := v_bin op_sub opS_I0 ha hb
theorem v_mulI (ha : VE X a Wa) (hb : VE X b Wb) : VE X (.BinOp a .Mult b pos) (wOp fMulI Wa Wb) := v_bin op_mul opS_I ha hb
theorem v_div (ha : VE X a Wa) (hb : VE X b Wb) : VE X (.BinOp a .FloorDiv b pos) (wOp fDiv Wa Wb) := v_bin op_fdiv opS_I ha hb
theorem v_mod (ha : VE X a Wa) (hb : VE X b Wb) : VE X (.BinOp a .Mod b pos) (wOp fMod Wa Wb) := v_bin op_mod opS_I ha hb
theorem v_pow (ha : VE X a Wa) (hb : VE X b Wb) : VE X (.BinOp a .Pow b pos) (wOp fPow Wa Wb) := v_bin op_pow opS_I ha hb
theorem v_lt (ha : VE X a Wa) (hb : VE X b Wb) : VE X (.Compare a [.Lt] [b] pos) (wOp fLtI Wa Wb) := v_cmp op_lt opS_B0 ha hb (nomark _)
theorem v_le (ha : VE X a Wa) (hb : VE X b Wb) : VE X (.Compare a [.LtE] [b] pos) (wOp fLe Wa Wb) := v_cmp op_le opS_B0 ha hb (nomark _)
theorem v_gt (ha : VE X a Wa) (hb : VE X b Wb) : VE X (.Compare a [.Gt] [b] pos) (wOp fGt Wa Wb) := v_cmp op_gt opS_B0 ha hb (nomark _)
theorem v_ge (ha : VE X a Wa) (hb : VE X b Wb) : VE X (.Compare a [.GtE] [b] pos) (wOp fGe Wa Wb) := v_cmp op_ge opS_B0 ha hb (nomark _)
theorem v_eq (hu : X.A.units + 64 < cLine) (ha : VE X a Wa) (hb : VE X b Wb) : VE X (.Compare a [.Eq] [b] pos) (wOp fEq Wa Wb) := v_cmp (op_eqP hu) opS_eq ha hb (nomark _)
theorem v_ne (hu : X.A.units + 64 < cLine) (ha : VE X a Wa) (hb : VE X b Wb) : VE X (.Compare a [.NotEq] [b] pos) (wOp fNe Wa Wb) := v_cmp (op_neP hu) opS_ne ha hb (nomark _)
theorem v_in (hu : X.A.units + 64 < cLine) (ha : VE X a Wa) (hb : VE X b Wb) (hm : behindInMarks .In b = false := by rfl) : VE X (.Compare a [.In] [b] pos) (wOp fIn Wa Wb) := v_cmp (op_inP hu) opS_in ha hb hm
theorem v_ni (hu : X.A.units + 64 < cLine) (ha : VE X a Wa) (hb : VE X b Wb) (hm : behindInMarks .NotIn b = false := by rfl) : VE X (.Compare a [.NotIn] [b] pos) (wOp fNi Wa Wb) := v_cmp (op_niP hu) opS_ni ha hb hm
theorem t_lt (ha : VE X a Wa) (hb : VE X b Wb) : VT X (.Compare a [.Lt] [b] pos) (wB (wOp fLtI Wa Wb)) := t_cmp op_lt opS_B0 ha hb (nomark _)
theorem t_le (ha : VE X a Wa) (hb : VE X b Wb) : VT X (.Compare a [.LtE] [b] pos) (wB (wOp fLe Wa Wb)) := t_cmp op_le opS_B0 ha hb (nomark _)
theorem t_gt (ha : VE X a Wa) (hb : VE X b Wb) : VT X (.Compare a [.Gt] [b] pos) (wB (wOp fGt Wa Wb)) := t_cmp op_gt opS_B0 ha hb (nomark _)
theorem t_ge (ha : VE X a Wa) (hb : VE X b Wb) : VT X (.Compare a [.GtE] [b] pos) (wB (wOp fGe Wa Wb)) := t_cmp op_ge opS_B0 ha hb (nomark _)
theorem t_eq (hu : X.A.units + 64 < cLine) (ha : VE X a Wa) (hb : VE X b Wb) : VT X (.Compare a [.Eq] [b] pos) (wB (wOp fEq Wa Wb)) := t_cmp (op_eqP hu) opS_eq ha hb (nomark _)
theorem t_ne (hu : X.A.units + 64 < cLine) (ha : VE X a Wa) (hb : VE X b Wb) : VT X (.Compare a [.NotEq] [b] pos) (wB (wOp fNe Wa Wb)) := t_cmp (op_neP hu) opS_ne ha hb (nomark _)
theorem t_in (hu : X.A.units + 64 < cLine) (ha : VE X a Wa) (hb : VE X b Wb) (hm : behindInMarks .In b = false := by rfl) : VT X (.Compare a [.In] [b] pos) (wB (wOp fIn Wa Wb)) := t_cmp (op_inP hu) opS_in ha hb hm
theorem t_ni (hu : X.A.units + 64 < cLine) (ha : VE X a Wa) (hb : VE X b Wb) (hm : behindInMarks .NotIn b = false := by rfl) : VT X (.Compare a [.NotIn] [b] pos) (wB (wOp fNi Wa Wb)) := t_cmp (op_niP hu) opS_ni ha hb hm
theorem v_lele (ha : VE X a Wa) (hb : VE X b Wb) (hc : VE X c Wc) (hm : lastMarks [.LtE, .LtE] [b, c] = false := by with_unfolding_all rfl) : VE X (.Compare a [.LtE, .LtE] [b, c] pos) (wChain fLe fLe Wa Wb Wc) := v_chain op_le opS_B0 op_le opS_B0 ha hb hc hm
theorem v_lelt (ha : VE X a Wa) (hb : VE X b Wb) (hc : VE X c Wc) (hm : lastMarks [.LtE, .Lt] [b, c] = false := by with_unfolding_all rfl) : VE X (.Compare a [.LtE, .Lt] [b, c] pos) (wChain fLe fLtI Wa Wb Wc) := v_chain op_le opS_B0 op_lt opS_B0 ha hb hc hm
theorem t_lele (ha : VE X a Wa) (hb : VE X b Wb) (hc : VE X c Wc) (hm : lastMarks [.LtE, .LtE] [b, c] = false := by with_unfolding_all rfl) : VT X (.Compare a [.LtE, .LtE] [b, c] pos) (wB (wChain fLe fLe Wa Wb Wc)) := t_chain op_le opS_B0 op_le opS_B0 ha hb hc hm
theorem t_lelt (ha : VE X a Wa) (hb : VE X b Wb) (hc : VE X c Wc) (hm : lastMarks [.LtE, .Lt] [b, c] = false := by with_unfolding_all rfl) : VT X (.Compare a [.LtE, .Lt] [b, c] pos) (wB (wChain fLe fLtI Wa Wb Wc)) := t_chain op_le opS_B0 op_lt opS_B0 ha hb hc hm
/-- -a -/
def wNeg (W : WE) : WE := fun ρ g R => W ρ g fun d g1 => match d with
  | .int i => R (.int (-i)) g1
  | _ => False
theorem v_neg (ha : VE X a Wa) : VE X (.UnaryOp .USub a pos) (wNeg Wa) := pe_weak (pe_un un_neg ha) fun σ H Q ⟨a, H0, O0, O, ρ, g, R, r, w, q⟩ => ⟨a, H0, O0, O, ρ, g, _, r, w, fun d g1 v H1 k1 r1 d1 w1 => by
  cases d <;> try exact w1.elim
  cases d1
  exact ⟨_, rfl, q _ g1 _ H1 k1 r1 (.int _) w1⟩⟩
/-- a is None -/
def wIsN (neg : Bool) (W : WE) : WE := fun ρ g R => W ρ g fun d g1 => R (.bool (match d with | .none => !neg | _ => neg)) g1
theorem v_isN {j pos'} (ha : VE X a Wa) : VE X (.Compare a [.Is] [.Constant .none j pos'] pos) (wIsN false Wa) := pe_weak (pe_cmp (pc_isN ha)) fun σ H Q ⟨a, H0, O0, O, ρ, g, R, r, w, q⟩ => ⟨a, H0, O0, O, ρ, g, _, r, w, fun d g1 v H1 k1 r1 d1 w1 => by
  have z := q _ g1 _ H1 k1 r1 (.bl _) w1
  cases d1 <;> exact z⟩
theorem v_notN {j pos'} (ha : VE X a Wa) : VE X (.Compare a [.IsNot] [.Constant .none j pos'] pos) (wIsN true Wa) := pe_weak (pe_cmp (pc_notN ha)) fun σ H Q ⟨a, H0, O0, O, ρ, g, R, r, w, q⟩ => ⟨a, H0, O0, O, ρ, g, _, r, w, fun d g1 v H1 k1 r1 d1 w1 => by
  have z := q _ g1 _ H1 k1 r1 (.bl _) w1
  cases d1 <;> exact z⟩
theorem t_isN {j pos'} (ha : VE X a Wa) : VT X (.Compare a [.Is] [.Constant .none j pos'] pos) (wB (wIsN false Wa)) := pt_weak (pt_cmp (pc_isN ha)) fun σ H Q ⟨a, H0, O0, O, ρ, g, R, r, w, q⟩ => ⟨a, H0, O0, O, ρ, g, _, r, w, fun d g1 v H1 k1 r1 d1 w1 => by
  have z := q _ g1 H1 k1 r1 w1
  cases d1 <;> exact ⟨_, rfl, z⟩⟩
theorem t_notN {j pos'} (ha : VE X a Wa) : VT X (.Compare a [.IsNot] [.Constant .none j pos'] pos) (wB (wIsN true Wa)) := pt_weak (pt_cmp (pc_notN ha)) fun σ H Q ⟨a, H0, O0, O, ρ, g, R, r, w, q⟩ => ⟨a, H0, O0, O, ρ, g, _, r, w, fun d g1 v H1 k1 r1 d1 w1 => by
  have z := q _ g1 H1 k1 r1 w1
  cases d1 <;> exact ⟨_, rfl, z⟩⟩
/-- a[b] -/
def fIx : F2 := fun x y R => match y with
  | .int i => ∃ xs d, itemsD x = some xs ∧ atI xs i = some d ∧ R d
  | _ => False
theorem atI_all {K : PySem.W.Frag} {H : Hp} {vs : List V} {ds : List PyData} {i : Int} {d : PyData} (h : DqAll K H vs ds) (e : atI ds i = some d) : ∃ v, atI vs i = some v ∧ Dq K H v d := by
  unfold atI at e ⊢
  rw [h.len]
  cases hx : ixN ds.length i with
  | none => rw [hx] at e; cases e
  | some j =>
    rw [hx] at e
    obtain ⟨v, h1, h2⟩ := DqAll.at h (show ds[j]? = some d from e)
    exact ⟨v, h1, h2⟩
def rIxLT (K : PySem.W.Frag) : R2 := fun x y H Q => rIxL K x y H Q ∨ rIxT K x y H Q
theorem ix_lt : IxR X (rIxLT X.K) := ix_list.or ix_tup
theorem opS_ix {K : PySem.W.Frag} : OpS K (rIxLT K) fIx := fun A H x y dx dy R Q hA hx hy w q => by
  cases dy <;> try exact w.elim
  cases hy
  obtain ⟨xs, d, h1, h2, w⟩ := w
  cases hx <;> cases h1
  · rename_i ha hv
    obtain ⟨v, e, hd⟩ := atI_all hv h2
    exact .inl ⟨_, _, _, v, rfl, rfl, SqL.of (off_out _ _ ha), e, q v d H (Sub.refl _) hd w⟩
  · rename_i ha hv
    obtain ⟨v, e, hd⟩ := atI_all hv h2
    exact .inr ⟨_, _, _, v, rfl, rfl, sqt_mono off_out ha, e, q v d H (Sub.refl _) hd w⟩
theorem v_ix (ha : VE X a Wa) (hb : VE X b Wb) (hs : PlainIx b := by exact fun _ _ => rfl) : VE X (.Subscript a b pos) (wOp fIx Wa Wb) := pe_weak (pe_ix ix_lt ha hb hs) (tE_op opS_ix)

/-! ### calls of built-ins over data -/
/-- what a call of one argument is told by -/
def CallS (K : PySem.W.Frag) (r : List V → Hp → VK → Prop) (f : List PyData → (PyData → Prop) → Prop) : Prop := ∀ (A : List Addr) (H : Hp) (xs : List V) (ds : List PyData) (R : PyData → Prop) (Q : VK), (∀ p ∈ A, H p ≠ none) → DqAll K (Off A H) xs ds → f ds R →
  (∀ z dz H', Sub H H' → Dq K (Off A H') z dz → R dz → Q z H') → r xs H Q
def wCall (f : List PyData → (PyData → Prop) → Prop) (V : WL) : WE := fun ρ g R => V ρ g fun ds g1 => f ds fun d => R d g1
theorem tE_call {K : PySem.W.Frag} {r : List V → Hp → VK → Prop} {f : List PyData → (PyData → Prop) → Prop} (hf : CallS K r f) {V : WL} : ∀ σ H Q, tE K (wCall f V) σ H Q → tCB r (tA K V) σ H Q :=
  fun σ H Q ⟨a, H0, O0, O, ρ, g, R, r, w, q⟩ => ⟨a, H0, O0, O, ρ, g, _, r, w, fun ds g1 vs H1 k1 r1 d1 w1 => hf (a :: O) H1 vs ds _ Q r1.liveA d1 w1 fun z dz H2 s hz hR => q dz g1 z H2 (k1.trans (Kp.of s)) (r1.ext s) hz hR⟩
theorem v_callB {id : String} {x : Str} {r : List V → Hp → VK → Prop} {f : List PyData → (PyData → Prop) → Prop} {V : WL} {p : Pos} (hc : CallR X (.builtin id) r) (hf : CallS X.K r f) (hg : Gl X x) (hm : X.mg x = none) (hv : bootBuiltins x = some (.builtin id)) (ha : VA X (e :: es) V)
    (hn : x ≠ "__name__" := by decide) (hdb : (x == ("__debug__" : Str)) = false := by decide) (he : starEach (e :: es) X.env = (false, eval e X.env) :: starEach es X.env := by rfl) (hpl : (backTo pos (starEach es X.env)).any (·.1) = false := by rfl) :
    VE X (.Call (.Name x p) (e :: es) [] pos) (wCall f V) := pe_weak (pe_callB hc hg hm hv ha hn hdb he hpl) (tE_call hf)
theorem v_callT {T : String} {x : Str} {r : List V → Hp → VK → Prop} {f : List PyData → (PyData → Prop) → Prop} {V : WL} {p : Pos} (hc : CallR X (.type T) r) (hf : CallS X.K r f) (hg : Gl X x) (hm : X.mg x = none) (hv : bootBuiltins x = some (.type T)) (ha : VA X (e :: es) V)
    (hn : x ≠ "__name__" := by decide) (hdb : (x == ("__debug__" : Str)) = false := by decide) (he : starEach (e :: es) X.env = (false, eval e X.env) :: starEach es X.env := by rfl) (hpl : (backTo pos (starEach es X.env)).any (·.1) = false := by rfl) :
    VE X (.Call (.Name x p) (e :: es) [] pos) (wCall f V) := pe_weak (pe_callTy hc hg hm hv ha hn hdb he hpl) (tE_call hf)
/-- len -/
def fLen : List PyData → (PyData → Prop) → Prop := fun ds R => ∃ d xs, ds = [d] ∧ itemsD d = some xs ∧ R (.int xs.length)
theorem callS_len {K : PySem.W.Frag} : CallS K (fun xs H Q => ∃ p ys, xs = [.ref p] ∧ (SqL K H p ys ∨ SqT K H p ys) ∧ Q (.int ys.length) H) fLen := fun A H xs ds R Q hA hx w q => by
  obtain ⟨d, ys, rfl, h1, w⟩ := w
  cases hx with
  | cons h t =>
    cases t
    cases h <;> cases h1
    · rename_i ha hv
      exact ⟨_, _, rfl, .inl (SqL.of (off_out _ _ ha)), q _ _ H (Sub.refl _) (by rw [hv.len]; exact .int _) w⟩
    · rename_i ha hv
      exact ⟨_, _, rfl, .inr (sqt_mono off_out ha), q _ _ H (Sub.refl _) (by rw [hv.len]; exact .int _) w⟩
theorem v_len {V : WL} {p : Pos} (hg : Gl X "len") (hm : X.mg "len" = none) (ha : VA X [e] V) (he : starEach [e] X.env = (false, eval e X.env) :: starEach [] X.env := by rfl) : VE X (.Call (.Name "len" p) [e] [] pos) (wCall fLen V) := v_callB call_len_seq callS_len hg hm PySem.boot_len ha (he := he) (hpl := rfl)
/-- int(int | bool) -/
def fInt : List PyData → (PyData → Prop) → Prop := fun ds R => match ds with
  | [.int i] => R (.int i)
  | [.bool b] => R (.int (if b = true then 1 else 0))
  | _ => False
theorem callS_int {K : PySem.W.Frag} : CallS K (fun xs H Q => (∃ i, xs = [.int i] ∧ Q (.int i) H) ∨ ∃ k, xs = [.bl k] ∧ Q (.int (if k then 1 else 0)) H) fInt := fun A H xs ds R Q hA hx w q => by
  cases hx with
  | nil => exact w.elim
  | cons h t =>
    cases t with
    | cons _ _ => cases h <;> exact w.elim
    | nil =>
      cases h <;> try exact w.elim
      · exact .inr ⟨_, rfl, q _ _ H (Sub.refl _) (.int _) w⟩
      · exact .inl ⟨_, rfl, q _ _ H (Sub.refl _) (.int _) w⟩
theorem v_toInt {V : WL} {p : Pos} (hg : Gl X "int") (hm : X.mg "int" = none) (ha : VA X [e] V) (hv : bootBuiltins "int" = some (.type "int") := by decide +kernel) (he : starEach [e] X.env = (false, eval e X.env) :: starEach [] X.env := by rfl) : VE X (.Call (.Name "int" p) [e] [] pos) (wCall fInt V) := v_callT call_int1 callS_int hg hm hv ha (he := he) (hpl := rfl)
/-- tuple(list | tuple) -/
def fTuple : List PyData → (PyData → Prop) → Prop := fun ds R => ∃ d xs, ds = [d] ∧ itemsD d = some xs ∧ R (.tuple xs)
theorem callS_tuple {K : PySem.W.Frag} : CallS K (fun xs H Q => ∃ p ys, xs = [.ref p] ∧ ((SqL K H p ys ∧ ∀ l, H l = none → Q (.ref l) (upd H l (.tup ys))) ∨ (SqT K H p ys ∧ Q (.ref p) H))) fTuple := fun A H xs ds R Q hA hx w q => by
  obtain ⟨d, ys, rfl, h1, w⟩ := w
  cases hx with
  | cons h t =>
    cases t
    cases h <;> cases h1
    · rename_i xs ha hv
      refine ⟨_, _, rfl, .inl ⟨SqL.of (off_out _ _ ha), fun l hl => ?_⟩⟩
      have s := sub_upd (o := .tup xs) hl
      exact q _ _ _ s (.tup (.inl (.inl (off_upd hA hl))) (hv.to (off_mono s))) w
    · rename_i ha hv
      exact ⟨_, _, rfl, .inr ⟨sqt_mono off_out ha, q _ _ H (Sub.refl _) (.tup ha hv) w⟩⟩
theorem v_toTuple {V : WL} {p : Pos} (hg : Gl X "tuple") (hm : X.mg "tuple" = none) (ha : VA X [e] V) (hv : bootBuiltins "tuple" = some (.type "tuple") := by decide +kernel) (he : starEach [e] X.env = (false, eval e X.env) :: starEach [] X.env := by rfl) : VE X (.Call (.Name "tuple" p) [e] [] pos) (wCall fTuple V) := v_callT call_tuple_of callS_tuple hg hm hv ha (he := he) (hpl := rfl)
/-- any, all of a list of bools -/
def boolsD : List PyData → Option (List Bool)
  | [] => some []
  | .bool b :: r => (boolsD r).map (b :: ·)
  | _ => none
theorem boolsD_all {K : PySem.W.Frag} {H : Hp} : ∀ {vs : List V} {ds : List PyData} {bs : List Bool}, DqAll K H vs ds → boolsD ds = some bs → vs = bs.map V.bl
  | _, _, bs, .nil, e => by cases e; rfl
  | _, _, bs, .cons h t, e => by
    cases h with
    | bl b =>
      unfold boolsD at e
      obtain ⟨cs, h1, h2⟩ := Option.map_eq_some_iff.mp e
      subst h2
      rw [List.map_cons, ← boolsD_all t h1]
    | _ => cases e
def fAnyAll (k : Bool) : List PyData → (PyData → Prop) → Prop := fun ds R => ∃ xs bs, ds = [.list xs] ∧ boolsD xs = some bs ∧ R (.bool (if k = true then bs.any id else bs.all id))
theorem callS_any {K : PySem.W.Frag} : CallS K (rAny K) (fAnyAll true) := fun A H xs ds R Q hA hx w q => by
  obtain ⟨ys, bs, rfl, h1, w⟩ := w
  cases hx with
  | cons h t =>
    cases t
    cases h with
    | lst ha hv =>
      refine ⟨_, bs, rfl, ?_, q _ _ H (Sub.refl _) (.bl _) w⟩
      rw [← boolsD_all hv h1]
      exact SqL.of (off_out _ _ ha)
theorem callS_all {K : PySem.W.Frag} : CallS K (rAll K) (fAnyAll false) := fun A H xs ds R Q hA hx w q => by
  obtain ⟨ys, bs, rfl, h1, w⟩ := w
  cases hx with
  | cons h t =>
    cases t
    cases h with
    | lst ha hv =>
      refine ⟨_, bs, rfl, ?_, q _ _ H (Sub.refl _) (.bl _) w⟩
      rw [← boolsD_all hv h1]
      exact SqL.of (off_out _ _ ha)
theorem v_any {V : WL} {p : Pos} (hc : X.calm = true) (hg : Gl X "any") (hm : X.mg "any" = none) (ha : VA X [e] V) (hv : bootBuiltins "any" = some (.builtin "any") := by decide +kernel) (he : starEach [e] X.env = (false, eval e X.env) :: starEach [] X.env := by rfl) : VE X (.Call (.Name "any" p) [e] [] pos) (wCall (fAnyAll true) V) := v_callB (cr_any hc) callS_any hg hm hv ha (he := he) (hpl := rfl)
theorem v_all {V : WL} {p : Pos} (hc : X.calm = true) (hg : Gl X "all") (hm : X.mg "all" = none) (ha : VA X [e] V) (hv : bootBuiltins "all" = some (.builtin "all") := by decide +kernel) (he : starEach [e] X.env = (false, eval e X.env) :: starEach [] X.env := by rfl) : VE X (.Call (.Name "all" p) [e] [] pos) (wCall (fAnyAll false) V) := v_callB (cr_all hc) callS_all hg hm hv ha (he := he) (hpl := rfl)
end
end Vl
/-! V3: targets, loops, comprehensions, statements, defs over data. -/
namespace Vl
open PySem PySem.Spec PyProof.Rows L2

section
variable {K : PySem.W.Frag} {a : Addr} {H0 H H' : Hp} {O0 O : List Addr} {ρ : Rho} {g g' : Nat} {σ : L2.St}
theorem Rl.setUn (r : Rl K a H0 O0 O ρ g σ H) (v : Nat) : Rl K a H0 O0 O (ρ.set v .un) g (σ.set v none) H where
  keep := r.keep
  pen := r.pen
  sub := r.sub
  new := r.new
  noA := r.noA
  live := r.live
  live0 := r.live0
  len := by rw [List.length_set, List.length_set]; exact r.len
  slot := fun j s hs => by
    rcases set_slot hs with ⟨rfl, rfl, hl⟩ | ⟨hj, hs⟩
    · trivial
    · rw [List.getElem?_set_ne hj]
      exact r.slot j s hs
  inj := fun j k ds es o h1 h2 e1 e2 => by
    rcases set_slot h1 with ⟨_, z, _⟩ | ⟨hj, h1⟩
    · cases z
    · rcases set_slot h2 with ⟨_, z, _⟩ | ⟨hk, h2⟩
      · cases z
      · rw [List.getElem?_set_ne hj] at e1
        rw [List.getElem?_set_ne hk] at e2
        exact r.inj j k ds es o h1 h2 e1 e2
def wipeV (ρ : Rho) : List Nat → Rho
  | [] => ρ
  | v :: vs => (wipeV ρ vs).set v .un
theorem Rl.wipe (r : Rl K a H0 O0 O ρ g σ H) : ∀ vs : List Nat, Rl K a H0 O0 O (wipeV ρ vs) g (L2.wipe σ vs) H
  | [] => r
  | v :: vs => (Rl.wipe r vs).setUn v
theorem wipeV_own {ρ : Rho} {j : Nat} {es : List PyData} : ∀ {vs : List Nat}, (wipeV ρ vs)[j]? = some (Sl.own es) → ρ[j]? = some (Sl.own es)
  | [], h => h
  | v :: vs, h => by
    rcases set_slot (show ((wipeV ρ vs).set v Sl.un)[j]? = some (Sl.own es) from h) with ⟨_, z, _⟩ | ⟨_, h⟩
    · cases z
    · exact wipeV_own h
/-- a new hidden object, the rest gone on -/
theorem Rl.stepH (r : Rl K a H0 O0 O ρ g σ H) {D : Addr} (k : Kp a H H') (hD : H D = none) (hD' : H' D ≠ none) (p : Pen K a (D :: O) g' H') : Rl K a H0 O0 (D :: O) ρ g' σ H' where
  keep := r.keep.trans k
  pen := p
  sub := fun q hq => List.mem_cons_of_mem _ (r.sub q hq)
  new := fun q hq => by
    rcases List.mem_cons.mp hq with rfl | hq
    · exact .inr (r.freshH hD)
    · exact r.new q hq
  noA := fun hq => by
    rcases List.mem_cons.mp hq with e | hq
    · exact r.pen.live (by rw [e]; exact hD)
    · exact r.noA hq
  live := fun q hq => by
    rcases List.mem_cons.mp hq with rfl | hq
    · exact hD'
    · intro e
      cases h : H q with
      | none => exact r.live q hq h
      | some o =>
        rw [k q o (fun z => r.noA (z ▸ hq)) h] at e
        cases e
  live0 := r.live0
  len := r.len
  slot := fun i s hs => by
    have sb : Sub (Off (a :: O) H) (Off (a :: D :: O) H') := fun b o e => by
      obtain ⟨n, e⟩ := off_some.mp e
      have na : b ≠ a := fun z => n (by rw [z]; exact List.mem_cons_self)
      refine off_in (fun z => ?_) (k b o na e)
      rcases List.mem_cons.mp z with z | z
      · exact na z
      · rcases List.mem_cons.mp z with z | z
        · rw [z, hD] at e
          cases e
        · exact n (List.mem_cons_of_mem _ z)
    have h := r.slot i s hs
    cases s with
    | un => trivial
    | val d =>
      obtain ⟨v, e, h⟩ := h
      exact ⟨v, e, h.to sb⟩
    | own ds =>
      obtain ⟨q, xs, e, hq, hn, hx, h⟩ := h
      exact ⟨q, xs, e, List.mem_cons_of_mem _ hq, hn, k q _ (fun z => r.noA (z ▸ hq)) hx, h.to sb⟩
    | pen => exact h
  inj := r.inj
theorem off_poke {p : Addr} {o : HO} (hp : p ∈ a :: O) : Sub (Off (a :: O) H) (Off (a :: O) (upd H p o)) := fun b u e => by
  obtain ⟨n, e⟩ := off_some.mp e
  exact off_in n (by rw [upd_ne (fun z => n (by rw [z]; exact hp))]; exact e)
/-- a hidden object changes -/
theorem Rl.poke (r : Rl K a H0 O0 O ρ g σ H) {D : Addr} {o : HO} (hD : D ∈ O) (h0 : H0 D = none) (hno : ∀ (j : Nat) (es : List PyData), ρ[j]? = some (Sl.own es) → σ[j]? ≠ some (some (.ref D))) : Rl K a H0 O0 O ρ g σ (upd H D o) where
  keep := fun b u n e => by
    have nb : b ≠ D := fun z => by rw [z, h0] at e; cases e
    rw [upd_ne nb]
    exact r.keep b u n e
  pen := r.pen.to (off_poke (List.mem_cons_of_mem _ hD)) (upd_ne fun z => r.noA (z ▸ hD))
  sub := r.sub
  new := r.new
  noA := r.noA
  live := fun q hq e => by
    by_cases z : q = D
    · rw [z, upd_same] at e; cases e
    · rw [upd_ne z] at e; exact r.live q hq e
  live0 := r.live0
  len := r.len
  slot := fun i s hs => by
    have h := r.slot i s hs
    cases s with
    | un => trivial
    | val d =>
      obtain ⟨v, e, h⟩ := h
      exact ⟨v, e, h.to (off_poke (List.mem_cons_of_mem _ hD))⟩
    | own ds =>
      obtain ⟨q, xs, e, hq, hn, hx, h⟩ := h
      exact ⟨q, xs, e, hq, hn, by rw [upd_ne (fun z => hno i ds hs (by rw [e, z]))]; exact hx, h.to (off_poke (List.mem_cons_of_mem _ hD))⟩
    | pen => exact h
  inj := r.inj
/-- a slot's own list changes -/
theorem Rl.change (r : Rl K a H0 O0 O ρ g σ H) {i : Nat} {p : Addr} {ds es : List PyData} {ys : List V} (hi : ρ[i]? = some (.own ds)) (hp : σ[i]? = some (some (.ref p))) (h : DqAll K (Off (a :: O) H) ys es) :
    Rl K a H0 O0 O (ρ.set i (.own es)) g σ (upd H p (.lst ys)) := by
  obtain ⟨q, xs, e, hq, hn, hx, h'⟩ := r.slot i _ hi
  rw [hp] at e
  cases e
  have sb : Sub (Off (a :: O) H) (Off (a :: O) (upd H p (.lst ys))) := off_poke (List.mem_cons_of_mem _ hq)
  refine ⟨fun b u n e => ?_, r.pen.to sb (upd_ne fun z => r.noA (z ▸ hq)), r.sub, r.new, r.noA, fun q' hq' e => ?_, r.live0, by rw [List.length_set]; exact r.len, fun j s hs => ?_, fun j k ds' es' o h1 h2 e1 e2 => ?_⟩
  · have nb : b ≠ p := fun z => by rw [z, hn] at e; cases e
    rw [upd_ne nb]
    exact r.keep b u n e
  · by_cases z : q' = p
    · rw [z, upd_same] at e; cases e
    · rw [upd_ne z] at e; exact r.live q' hq' e
  · rcases set_slot hs with ⟨rfl, rfl, hl⟩ | ⟨hj, hs⟩
    · exact ⟨p, ys, hp, hq, hn, upd_same, h.to sb⟩
    · have z := r.slot j s hs
      cases s with
      | un => trivial
      | val d =>
        obtain ⟨v, e, z⟩ := z
        exact ⟨v, e, z.to sb⟩
      | own es' =>
        obtain ⟨q', xs', e, hq', hn', hx', z⟩ := z
        exact ⟨q', xs', e, hq', hn', by rw [upd_ne (fun y => hj (r.inj i j ds es' _ hi hs hp (by rw [e, y])))]; exact hx', z.to sb⟩
      | pen => exact z
  · rcases set_slot h1 with ⟨rfl, _, _⟩ | ⟨hj, h1⟩
    · rcases set_slot h2 with ⟨rfl, _, _⟩ | ⟨hk, h2⟩
      · rfl
      · exact r.inj _ _ _ _ o hi h2 e1 e2
    · rcases set_slot h2 with ⟨rfl, _, _⟩ | ⟨hk, h2⟩
      · exact r.inj _ _ _ _ o h1 hi e1 e2
      · exact r.inj j k ds' es' o h1 h2 e1 e2
end

/-! ### targets -/
abbrev WG := PyData → Rho → (Rho → Prop) → Prop
abbrev WGs := List PyData → Rho → (Rho → Prop) → Prop
def tG (K : PySem.W.Frag) (js : List Nat) (G : WG) : TG := fun v σ H Q => ∃ (a : Addr) (H0 : Hp) (O0 O : List Addr) (ρ : Rho) (g : Nat) (d : PyData) (S : Rho → Prop), Rl K a H0 O0 O ρ g σ H ∧ Dq K (Off (a :: O) H) v d ∧ G d ρ S ∧
  ∀ ρ' σ', (∀ vs : List Nat, (∀ j ∈ js, j ∈ vs) → L2.wipe σ' vs = L2.wipe σ vs) → Rl K a H0 O0 O ρ' g σ' H → S ρ' → Q σ' H
def tGs (K : PySem.W.Frag) (js : List Nat) (G : WGs) : TGs := fun vs σ H Q => ∃ (a : Addr) (H0 : Hp) (O0 O : List Addr) (ρ : Rho) (g : Nat) (ds : List PyData) (S : Rho → Prop), Rl K a H0 O0 O ρ g σ H ∧ DqAll K (Off (a :: O) H) vs ds ∧ G ds ρ S ∧
  ∀ ρ' σ', (∀ vs : List Nat, (∀ j ∈ js, j ∈ vs) → L2.wipe σ' vs = L2.wipe σ vs) → Rl K a H0 O0 O ρ' g σ' H → S ρ' → Q σ' H
abbrev VG (X : Cx) (e : Expr) (js : List Nat) (G : WG) : Prop := PG X e (tG X.K js G)
abbrev VGs (X : Cx) (es : List Expr) (js : List Nat) (G : WGs) : Prop := PGs X es (tGs X.K js G)
theorem wipe_set {σ : L2.St} {j : Nat} {x : Option V} : ∀ {vs : List Nat}, j ∈ vs → L2.wipe (σ.set j x) vs = L2.wipe σ vs
  | [], h => absurd h (by simp)
  | v :: vs, h => by
    show (L2.wipe (σ.set j x) vs).set v none = (L2.wipe σ vs).set v none
    by_cases hj : j ∈ vs
    · rw [wipe_set hj]
    · have e : j = v := by
        rcases List.mem_cons.mp h with z | z
        · exact z
        · exact absurd z hj
      subst e
      have q : ∀ ws : List Nat, j ∉ ws → L2.wipe (σ.set j x) ws = (L2.wipe σ ws).set j x := by
        intro ws
        induction ws with
        | nil => intro _; rfl
        | cons u ws ih =>
          intro hn
          show (L2.wipe (σ.set j x) ws).set u none = ((L2.wipe σ ws).set u none).set j x
          rw [ih (fun z => hn (List.mem_cons_of_mem _ z)), List.set_comm _ _ (fun z => hn (by rw [z]; exact List.mem_cons_self))]
      rw [q vs hj, List.set_set]
theorem wipe_wipe {σ : L2.St} {vs : List Nat} : ∀ {us : List Nat}, (∀ j ∈ us, j ∈ vs) → L2.wipe (L2.wipe σ us) vs = L2.wipe σ vs
  | [], _ => rfl
  | u :: us, h => by
    show L2.wipe ((L2.wipe σ us).set u none) vs = L2.wipe σ vs
    rw [wipe_set (h u List.mem_cons_self), wipe_wipe fun j hj => h j (List.mem_cons_of_mem _ hj)]
section
variable {X : Cx} {e : Expr} {es : List Expr} {pos : Pos}
theorem pg_weak {t t' : TG} (h : PG X e t) (w : ∀ v σ H Q, t' v σ H Q → t v σ H Q) : PG X e t' := ⟨fun pins s σ H v u Q I r q => h.run pins s σ H v u Q I r (w v σ H Q q)⟩
theorem pgs_weak {t t' : TGs} (h : PGs X es t) (w : ∀ v σ H Q, t' v σ H Q → t v σ H Q) : PGs X es t' := ⟨fun pins s σ H v u Q I r q => h.run pins s σ H v u Q I r (w v σ H Q q)⟩
def gN (j : Nat) : WG := fun d ρ S => S (ρ.set j (.val d))
theorem vg_n (j : Nat) {x : Str} (hN : X.N.Nodup) (hi : X.N[j]? = some x := by rfl) (hx : Loc X.env.scope x := by first | exact Or.inl rfl | exact Or.inr rfl) (hf : X.fn x = true ∨ X.env.scope.names.lookup x = some .local := by first | exact .inl rfl | exact .inr rfl | assumption) : VG X (.Name x pos) [j] (gN j) :=
  pg_weak (pg_name hN hi hx hf) fun v σ H Q ⟨a, H0, O0, O, ρ, g, d, S, r, hd, w, q⟩ => q _ _ (fun vs hv => wipe_set (hv j (List.mem_singleton.mpr rfl))) (r.setVal hd) w
def gsNil : WGs := fun ds ρ S => ds = [] ∧ S ρ
def gsCons (G : WG) (Gs : WGs) : WGs := fun ds ρ S => match ds with
  | d :: r => G d ρ fun ρ' => Gs r ρ' S
  | [] => False
theorem vgs_nil : VGs X [] [] gsNil := pgs_weak pgs_nil fun vs σ H Q ⟨a, H0, O0, O, ρ, g, ds, S, r, hd, w, q⟩ => by
  obtain ⟨rfl, w⟩ := w
  cases hd
  exact ⟨rfl, q _ _ (fun _ _ => rfl) r w⟩
theorem vgs_cons {js ks : List Nat} {G : WG} {Gs : WGs} (h : VG X e js G) (t : VGs X es ks Gs) (hs : (assignEach (e :: es) X.env).map (·.2) = assign e X.env :: (assignEach es X.env).map (·.2) := by rfl) : VGs X (e :: es) (js ++ ks) (gsCons G Gs) :=
  pgs_weak (pgs_cons h t hs) fun vs σ H Q ⟨a, H0, O0, O, ρ, g, ds, S, r, hd, w, q⟩ => by
    cases hd with
    | nil => exact w.elim
    | @cons v vs d ds h1 h2 =>
      exact ⟨v, vs, rfl, a, H0, O0, O, ρ, g, d, _, r, h1, w, fun ρ' σ' hw r' w' => ⟨a, H0, O0, O, ρ', g, ds, S, r', h2, w', fun ρ2 σ2 hw2 r2 w2 => q ρ2 σ2 (fun vs hv => (hw2 vs fun j hj => hv j (List.mem_append_right _ hj)).trans (hw vs fun j hj => hv j (List.mem_append_left _ hj))) r2 w2⟩⟩
def gT (n : Nat) (Gs : WGs) : WG := fun d ρ S => match d with
  | .tuple ds => ds.length = n ∧ Gs ds ρ S
  | _ => False
end

/-! ### what is iterated -/
def Feed (K : PySem.W.Frag) (a : Addr) (Hd : Hp) (J : It) (ds : List PyData) : Prop := ∀ (i : Nat) (O' : List Addr) (H2 : Hp), Sub Hd (Off (a :: O') H2) → (∀ p ∈ a :: O', H2 p ≠ none) →
  (∀ d, ds[i]? = some d → J.go i H2 ∧ ∀ x H3, J.yld i H2 x H3 → Sub H2 H3 ∧ Dq K (Off (a :: O') H3) x d) ∧ (ds.length ≤ i → J.stop i H2)
def tI (K : PySem.W.Frag) (WI : WL) : TI := fun σ H S => ∃ (a : Addr) (H0 : Hp) (O0 O : List Addr) (ρ : Rho) (g : Nat) (R : List PyData → Nat → Prop), Rl K a H0 O0 O ρ g σ H ∧ WI ρ g R ∧
  ∀ ds g' J H', Kp a H H' → Rl K a H0 O0 O ρ g' σ H' → Feed K a (Off (a :: O) H') J ds → R ds g' → S J H'
abbrev VI (X : Cx) (tg e : Expr) (W : WL) : Prop := PI X tg e (tI X.K W)
section
variable {X : Cx} {tg e : Expr} {es : List Expr} {pos : Pos}
theorem pi_weak {t t' : TI} (h : PI X tg e t) (w : ∀ σ H R, t' σ H R → t σ H R) : PI X tg e t' := ⟨fun pins s σ H R I q => h.run pins s σ H R I (w σ H R q)⟩
theorem feed_list {K : PySem.W.Frag} {a l : Addr} {Hd : Hp} {xs : List V} {ds : List PyData} (h : Hd l = some (.lst xs)) (hd : DqAll K Hd xs ds) : Feed K a Hd (Itl K l) ds := fun i O' H2 s _ => by
  have hl : SqL K H2 l xs := SqL.of (off_out _ _ (s _ _ h))
  refine ⟨fun d e => ?_, fun hi => ⟨xs, hl, by rw [hd.len]; exact hi⟩⟩
  obtain ⟨v, hv, dv⟩ := DqAll.at hd e
  refine ⟨⟨xs, v, hl, hv⟩, fun x H3 ⟨e3, hx⟩ => ?_⟩
  subst e3
  have := hx xs hl
  rw [hv] at this
  cases this
  exact ⟨Sub.refl _, dv.to s⟩
theorem feed_tup {K : PySem.W.Frag} {a l : Addr} {Hd : Hp} {xs : List V} {ds : List PyData} (h : SqT K Hd l xs) (hd : DqAll K Hd xs ds) : Feed K a Hd (Itt K l) ds := fun i O' H2 s _ => by
  have hl : SqT K H2 l xs := sqt_mono off_out (sqt_mono s h)
  refine ⟨fun d e => ?_, fun hi => ⟨xs, hl, by rw [hd.len]; exact hi⟩⟩
  obtain ⟨v, hv, dv⟩ := DqAll.at hd e
  refine ⟨⟨xs, v, hl, hv⟩, fun x H3 ⟨e3, hx⟩ => ?_⟩
  subst e3
  have := hx xs hl
  rw [hv] at this
  cases this
  exact ⟨Sub.refl _, dv.to s⟩
/-- for x in (a list | a tuple): which one must be known -/
def iL (W : WE) : WL := fun ρ g R => W ρ g fun d g1 => match d with
  | .list ds => R ds g1
  | _ => False
def iT (W : WE) : WL := fun ρ g R => W ρ g fun d g1 => match d with
  | .tuple ds => R ds g1
  | _ => False
theorem vi_list {W : WE} (h : VE X e W) : VI X tg e (iL W) := pi_weak (pi_list h) fun σ H S ⟨a, H0, O0, O, ρ, g, R, r, w, q⟩ => ⟨a, H0, O0, O, ρ, g, _, r, w, fun d g1 v H1 k1 r1 d1 w1 => by
  cases d1 with
  | lst h1 h2 => exact ⟨_, rfl, ⟨_, SqL.of (off_out _ _ h1)⟩, q _ g1 _ H1 k1 r1 (feed_list h1 h2) w1⟩
  | _ => exact w1.elim⟩
theorem vi_tup {W : WE} (h : VE X e W) : VI X tg e (iT W) := pi_weak (pi_tup h) fun σ H S ⟨a, H0, O0, O, ρ, g, R, r, w, q⟩ => ⟨a, H0, O0, O, ρ, g, _, r, w, fun d g1 v H1 k1 r1 d1 w1 => by
  cases d1 with
  | tup h1 h2 => exact ⟨_, rfl, ⟨_, sqt_mono off_out h1⟩, q _ g1 _ H1 k1 r1 (feed_tup h1 h2) w1⟩
  | _ => exact w1.elim⟩
def rangeD (i j : Int) : List PyData := (List.range (j - i).toNat).map fun k => .int (i + (k : Nat))
theorem feed_rng {K : PySem.W.Frag} {a : Addr} {Hd : Hp} (lo : Int) (n : Nat) : Feed K a Hd (Itr lo n) ((List.range n).map fun k => .int (lo + (k : Nat))) := fun i O' H2 s _ => by
  refine ⟨fun d e => ?_, fun hi => (show n ≤ i by simpa using hi)⟩
  rw [List.getElem?_map] at e
  by_cases hi : i < n
  · rw [List.getElem?_range hi] at e
    cases e
    refine ⟨hi, fun x H3 ⟨e3, hx⟩ => ?_⟩
    subst e3 hx
    exact ⟨Sub.refl _, .int _⟩
  · rw [List.getElem?_eq_none (by simpa using hi)] at e
    cases e
def iR1 (V : WL) : WL := fun ρ g R => V ρ g fun ds g1 => match ds with
  | [.int j] => (-(2 ^ 62) ≤ j ∧ j < 2 ^ 62) ∧ R (rangeD 0 j) g1
  | _ => False
def iR2 (V : WL) : WL := fun ρ g R => V ρ g fun ds g1 => match ds with
  | [.int i, .int j] => (-(2 ^ 62) ≤ i ∧ i < 2 ^ 62 ∧ -(2 ^ 62) ≤ j ∧ j < 2 ^ 62) ∧ R (rangeD i j) g1
  | _ => False
theorem vi_range1 {V : WL} {p : Pos} (hg : Gl X "range") (hm : X.mg "range" = none) (h : VA X [e] V) (hs : starEach [e] X.env = [(false, eval e X.env)] := by rfl) : VI X tg (.Call (.Name "range" p) [e] [] pos) (iR1 V) :=
  pi_weak (pi_range1 hg hm h hs) fun σ H S ⟨a, H0, O0, O, ρ, g, R, r, w, q⟩ => ⟨a, H0, O0, O, ρ, g, _, r, w, fun ds g1 vs H1 k1 r1 d1 w1 => by
    cases d1 with
    | nil => exact w1.elim
    | cons h1 t =>
      cases t with
      | cons _ _ => cases h1 <;> exact w1.elim
      | nil =>
        cases h1 with
        | int j =>
          refine ⟨j, rfl, w1.1.1, w1.1.2, q _ g1 _ H1 k1 r1 ?_ w1.2⟩
          have := feed_rng (K := X.K) (a := a) (Hd := Off (a :: O) H1) 0 j.toNat
          have e : rangeD 0 j = (List.range j.toNat).map fun k => PyData.int (0 + (k : Nat)) := by unfold rangeD; rw [Int.sub_zero]
          rw [e]
          exact this
        | _ => exact w1.elim⟩
theorem vi_range2 {e2 : Expr} {V : WL} {p : Pos} (hg : Gl X "range") (hm : X.mg "range" = none) (h : VA X [e, e2] V) (hs : starEach [e, e2] X.env = [(false, eval e X.env), (false, eval e2 X.env)] := by rfl) (hs2 : starEach [e2] X.env = [(false, eval e2 X.env)] := by rfl) :
    VI X tg (.Call (.Name "range" p) [e, e2] [] pos) (iR2 V) :=
  pi_weak (pi_range2 hg hm h hs hs2) fun σ H S ⟨a, H0, O0, O, ρ, g, R, r, w, q⟩ => ⟨a, H0, O0, O, ρ, g, _, r, w, fun ds g1 vs H1 k1 r1 d1 w1 => by
    cases d1 with
    | nil => exact w1.elim
    | cons h1 t =>
      cases t with
      | nil => cases h1 <;> exact w1.elim
      | cons h2 t =>
        cases t with
        | cons _ _ => cases h1 <;> cases h2 <;> exact w1.elim
        | nil =>
          cases h1 with
          | int i =>
            cases h2 with
            | int j => exact ⟨i, j, rfl, w1.1, q _ g1 _ H1 k1 r1 (feed_rng i (j - i).toNat) w1.2⟩
            | _ => exact w1.elim
          | _ => exact w1.elim⟩
end

/-! ### comprehensions -/
def wYes : WT := fun _ g R => R true g
def lcV (G : WG) (T : WT) (E : WE) : List PyData → Rho → List PyData → Nat → (List PyData → Nat → Prop) → Prop
  | [], _, acc, g, R => R acc g
  | d :: ds, ρ, acc, g, R => G d ρ fun ρ' => T ρ' g fun b g1 => if b = true then E ρ' g1 fun y g2 => lcV G T E ds ρ (acc ++ [y]) g2 R else lcV G T E ds ρ acc g1 R
def lLc (WI : WL) (G : WG) (T : WT) (E : WE) (vs : List Nat) : WL := fun ρ g R => WI ρ g fun ds g1 => ds.length ≤ sizeLine ∧ lcV G T E ds (wipeV ρ vs) [] g1 R
theorem tL_lc {K : PySem.W.Frag} {WI : WL} {js : List Nat} {G : WG} {T : WT} {E : WE} {vs : List Nat} (hj : ∀ j ∈ js, j ∈ vs) : ∀ σ H Q, tL K (lLc WI G T E vs) σ H Q → tLc (tI K WI) (tG K js G) (tT K T) (tE K E) vs σ H Q :=
  fun σ H Q ⟨a, H0, O0, O, ρ, g, R, r, w, q⟩ => ⟨a, H0, O0, O, ρ, g, _, r, w, fun ds g1 J H1 k1 r1 fd w1 D hD => by
    obtain ⟨hz, w1⟩ := w1
    have hD0 : H D = none := by
      cases e : H D with
      | none => rfl
      | some o =>
        by_cases z : D = a
        · exact absurd hD (r1.liveA D (by rw [z]; exact List.mem_cons_self))
        · rw [k1 D o z e] at hD
          cases hD
    have nDa : D ≠ a := fun z => r1.pen.live (z ▸ hD)
    have hno : ∀ (j : Nat) (es : List PyData), (wipeV ρ vs)[j]? = some (Sl.own es) → (L2.wipe σ vs)[j]? ≠ some (some (.ref D)) := fun j es h e => by
      obtain ⟨q', xs, e', hq, _⟩ := (r1.wipe vs).slot j _ h
      rw [e] at e'
      cases e'
      exact r1.live D hq hD
    have st : ∀ {y : V} {H4 : Hp} {o : HO}, Kp a H1 H4 → Kp a H1 (upd H4 D o) := fun {y H4 o} k b u n e => by
      rw [upd_ne (ne_of_none e hD)]
      exact k b u n e
    refine ⟨fun i m H' => ∃ g' acc xs, m = ds.length - i ∧ i ≤ ds.length ∧ Kp a H1 H' ∧ Rl K a H0 O0 (D :: O) (wipeV ρ vs) g' (L2.wipe σ vs) H' ∧ H' D = some (.lst xs) ∧ DqAll K (Off (a :: D :: O) H') xs acc ∧ acc.length ≤ i ∧ lcV G T E (ds.drop i) (wipeV ρ vs) acc g' R,
      ⟨ds.length, g1, [], [], rfl, Nat.zero_le _, Kp.of (sub_upd hD), (r1.wipe vs).hide hD, upd_same, .nil, Nat.le_refl _, w1⟩, ?_⟩
    rintro i m H2 ⟨g2, acc, xs, rfl, hi, k2, r2, hx, hd, hl, w2⟩
    have sb : Sub (Off (a :: O) H1) (Off (a :: D :: O) H2) := fun b o e => by
      obtain ⟨n, e⟩ := off_some.mp e
      have na : b ≠ a := fun z => n (by rw [z]; exact List.mem_cons_self)
      refine off_in (fun z => ?_) (k2 b o na e)
      rcases List.mem_cons.mp z with z | z
      · exact na z
      · rcases List.mem_cons.mp z with z | z
        · rw [z, hD] at e
          cases e
        · exact n (List.mem_cons_of_mem _ z)
    obtain ⟨f1, f2⟩ := fd i (D :: O) H2 sb r2.liveA
    by_cases hlt : i < ds.length
    · have e0 : ds.drop i = ds[i] :: ds.drop (i + 1) := List.drop_eq_getElem_cons hlt
      rw [e0] at w2
      obtain ⟨go, f3⟩ := f1 ds[i] (List.getElem?_eq_getElem hlt)
      refine .inr ⟨go, fun H' => ∃ g' acc xs, Kp a H1 H' ∧ Rl K a H0 O0 (D :: O) (wipeV ρ vs) g' (L2.wipe σ vs) H' ∧ H' D = some (.lst xs) ∧ DqAll K (Off (a :: D :: O) H') xs acc ∧ acc.length ≤ i + 1 ∧ lcV G T E (ds.drop (i + 1)) (wipeV ρ vs) acc g' R,
        fun H' ⟨g', acc, xs, z⟩ => ⟨ds.length - (i + 1), by omega, g', acc, xs, rfl, hlt, z⟩, fun x H3 hy => ?_⟩
      obtain ⟨s3, dx⟩ := f3 x H3 hy
      refine ⟨a, H0, O0, D :: O, wipeV ρ vs, g2, ds[i], _, r2.ext s3, dx, w2, fun ρ' σ' hw r' w' => ⟨(hw vs hj).trans (wipe_wipe fun _ h => h), ?_⟩⟩
      refine ⟨a, H0, O0, D :: O, ρ', g2, _, r', w', fun b g3 H4 k4 r4 w4 => ?_⟩
      have back : ∀ {H5 : Hp} {g5 : Nat}, Kp a H3 H5 → Pen K a (D :: O) g5 H5 → Rl K a H0 O0 (D :: O) (wipeV ρ vs) g5 (L2.wipe σ vs) H5 := fun {H5 g5} k p => (r2.ext s3).step k p
      cases b with
      | true =>
        rw [if_pos rfl] at w4
        refine iteT ?_
        refine ⟨a, H0, O0, D :: O, ρ', g3, _, r4, w4, fun y g5 v H5 k5 r5 d5 w5 => ?_⟩
        have k35 : Kp a H3 H5 := k4.trans k5
        have hD5 : H5 D = some (.lst xs) := k35 D _ nDa (s3 _ _ hx)
        refine ⟨xs, hD5, by rw [hd.len]; omega, g5, acc ++ [y], xs ++ [v], ?_, ?_, upd_same, ?_, by rw [List.length_append, List.length_singleton]; omega, w5⟩
        · exact st (y := v) ((k2.trans (Kp.of s3)).trans k35)
        · exact (back k35 r5.pen).poke List.mem_cons_self (r1.freshH hD) hno
        · have s5 : Sub (Off (a :: D :: O) H5) (Off (a :: D :: O) (upd H5 D (.lst (xs ++ [v])))) := off_poke (List.mem_cons_of_mem _ List.mem_cons_self)
          exact DqAll.app (((hd.to (off_mono s3)).to (off_kp k35)).to s5) (.cons (d5.to s5) .nil)
      | false =>
        rw [if_neg Bool.false_ne_true] at w4
        refine iteF ?_
        exact ⟨g3, acc, xs, (k2.trans (Kp.of s3)).trans k4, back k4 r4.pen, k4 D _ nDa (s3 _ _ hx), (hd.to (off_mono s3)).to (off_kp k4), by omega, w4⟩
    · have e0 : ds.drop i = [] := List.drop_eq_nil_of_le (by omega)
      rw [e0] at w2
      refine .inl ⟨f2 (by omega), ?_⟩
      exact q acc g2 D xs H2 (k1.trans k2) (r.stepH (k1.trans k2) hD0 (by rw [hx]; exact fun z => nomatch z) r2.pen) hD0 hx hd w2⟩
abbrev VTs (X : Cx) (ifs : List Expr) (T : WT) : Prop := PTs X ifs (tT X.K T)
section
variable {X : Cx} {elt tg iter c : Expr} {ifs : List Expr} {pos : Pos}
theorem pts_weak {t t' : TT} (h : PTs X ifs t) (w : ∀ σ H Q, t' σ H Q → t σ H Q) : PTs X ifs t' := ⟨fun pins s σ H Q I q => h.run pins s σ H Q I (w σ H Q q)⟩
theorem vts_nil : VTs X [] wYes := pts_weak pts_nil fun σ H Q ⟨a, H0, O0, O, ρ, g, R, r, w, q⟩ => q true g H (Kp.refl _ _) r w
theorem vts_one {T : WT} (h : VT X c T) : VTs X [c] T := pts_one h
theorem vl_lc {scope : Scope} {own : List (Str × Nat)} {WI : WL} {js : List Nat} {G : WG} {T : WT} {E : WE} (hc : X.calm = true) (hN : X.N.Nodup) (hi : VI X tg iter WI) (ok : BlkOk X.N X.env.scope scope own)
    (hg : ∀ (s : Shared) (H : Hp) (C : Addr) (cl : List (Str × Addr)) (fp : List Addr), VG (X.blk s H scope (compEnvC scope cl C X.env) fp) tg js G) (ht : ∀ (s : Shared) (H : Hp) (C : Addr) (cl : List (Str × Addr)) (fp : List Addr), VTs (X.blk s H scope (compEnvC scope cl C X.env) fp) ifs T)
    (he : ∀ (s : Shared) (H : Hp) (C : Addr) (cl : List (Str × Addr)) (fp : List Addr), VE (X.blk s H scope (compEnvC scope cl C X.env) fp) elt E) (hj : ∀ j ∈ js, j ∈ own.map (·.2) := by decide) (hs : ∀ x, foldedSetIterable iter X.env x = pure x := by intro _; rfl) :
    VL X (.ListComp elt [⟨tg, iter, ifs, 0⟩] scope pos) (lLc WI G T E (own.map (·.2))) := pe_weak (pe_lc hc hN hi ok hg ht he hs) (tL_lc hj)
end

/-! ### statements -/
structure EndsV where
  nx : Rho → Nat → Prop
  rt : PyData → Nat → Prop
  bk : Rho → Nat → Prop := fun _ _ => False
  ct : Rho → Nat → Prop := fun _ _ => False
abbrev WS := EndsV → Rho → Nat → Prop
structure Er (K : PySem.W.Frag) (a : Addr) (H0 : Hp) (O0 : List Addr) (Hd : Hp) (V : EndsV) (D : Ends) : Prop where
  nx : ∀ O' ρ' g' σ' H', Sub Hd (Off (a :: O') H') → Rl K a H0 O0 O' ρ' g' σ' H' → V.nx ρ' g' → D.nx σ' H'
  bk : ∀ O' ρ' g' σ' H', Sub Hd (Off (a :: O') H') → Rl K a H0 O0 O' ρ' g' σ' H' → V.bk ρ' g' → D.bk σ' H'
  ct : ∀ O' ρ' g' σ' H', Sub Hd (Off (a :: O') H') → Rl K a H0 O0 O' ρ' g' σ' H' → V.ct ρ' g' → D.ct σ' H'
  rt : ∀ d g' v H', Kp a H0 H' → Pen K a O0 g' H' → Dq K (Off (a :: O0) H') v d → V.rt d g' → D.rt v H'
theorem Er.on {K : PySem.W.Frag} {a : Addr} {H0 : Hp} {O0 : List Addr} {Hd Hd' : Hp} {V : EndsV} {D : Ends} (e : Er K a H0 O0 Hd V D) (s : Sub Hd Hd') : Er K a H0 O0 Hd' V D :=
  ⟨fun O' ρ' g' σ' H' z => e.nx O' ρ' g' σ' H' (s.trans z), fun O' ρ' g' σ' H' z => e.bk O' ρ' g' σ' H' (s.trans z), fun O' ρ' g' σ' H' z => e.ct O' ρ' g' σ' H' (s.trans z), e.rt⟩
def tS (K : PySem.W.Frag) (W : WS) : TS := fun D σ H => ∃ (a : Addr) (H0 : Hp) (O0 O : List Addr) (ρ : Rho) (g : Nat) (V : EndsV), Rl K a H0 O0 O ρ g σ H ∧ W V ρ g ∧ Er K a H0 O0 (Off (a :: O) H) V D
abbrev VS (X : Cx) (st : Stmt) (W : WS) : Prop := PS X st (tS X.K W)
abbrev VSs (X : Cx) (st : List Stmt) (W : WS) : Prop := PSs X st (tS X.K W)
section
variable {X : Cx} {st : Stmt} {rest as bs : List Stmt} {e c : Expr} {pos : Pos} {W V : WS}
theorem ps_weak {t t' : TS} (h : PS X st t) (w : ∀ D σ H, t' D σ H → t D σ H) : PS X st t' := ⟨fun pins s σ H D I q => h.run pins s σ H D I (w D σ H q)⟩
theorem pss_weak {t t' : TS} (h : PSs X rest t) (w : ∀ D σ H, t' D σ H → t D σ H) : PSs X rest t' := ⟨fun pins s σ H D I q => h.run pins s σ H D I (w D σ H q)⟩
def sNext : WS := fun V ρ g => V.nx ρ g
def sSeq (W V : WS) : WS := fun D => W { D with nx := V D }
theorem tS_next {K : PySem.W.Frag} : ∀ D σ H, tS K sNext D σ H → tNext D σ H := fun D σ H ⟨a, H0, O0, O, ρ, g, V, r, w, e⟩ => e.nx O ρ g σ H (Sub.refl _) r w
theorem vss_nil : VSs X [] sNext := pss_weak pss_nil tS_next
theorem vs_pass : VS X (.Pass pos) sNext := ps_weak ps_pass tS_next
theorem vs_doc {x j pos pos'} : VS X (.Expr (.Constant (.str x) j pos) pos') sNext := ps_weak ps_doc tS_next
theorem vss_cons (h : VS X st W) (t : VSs X rest V) : VSs X (st :: rest) (sSeq W V) := pss_weak (pss_cons h t) fun D σ H ⟨a, H0, O0, O, ρ, g, U, r, w, e⟩ => ⟨a, H0, O0, O, ρ, g, _, r, w,
  ⟨fun O' ρ' g' σ' H' s r' w' => ⟨a, H0, O0, O', ρ', g', U, r', w', e.on s⟩, e.bk, e.ct, e.rt⟩⟩
theorem vss_one (h : VS X st W) : VSs X [st] W := pss_one h
def sBreak : WS := fun V ρ g => V.bk ρ g
def sCont : WS := fun V ρ g => V.ct ρ g
theorem vs_break : VS X (.Break pos) sBreak := ps_weak ps_break fun D σ H ⟨a, H0, O0, O, ρ, g, V, r, w, e⟩ => e.bk O ρ g σ H (Sub.refl _) r w
theorem vs_cont : VS X (.Continue pos) sCont := ps_weak ps_continue fun D σ H ⟨a, H0, O0, O, ρ, g, V, r, w, e⟩ => e.ct O ρ g σ H (Sub.refl _) r w
def sRet (W : WE) : WS := fun V ρ g => W ρ g V.rt
theorem Rl.back {K : PySem.W.Frag} {a : Addr} {H0 H : Hp} {O0 O : List Addr} {ρ : Rho} {g : Nat} {σ : L2.St} (r : Rl K a H0 O0 O ρ g σ H) : Sub (Off (a :: O) H) (Off (a :: O0) H) := off_sub fun b hb => by
  rcases List.mem_cons.mp hb with z | z
  · rw [z]; exact List.mem_cons_self
  · exact List.mem_cons_of_mem _ (r.sub b z)
theorem vs_ret {W : WE} (h : VE X e W) : VS X (.Return (some e) pos) (sRet W) := ps_weak (ps_ret h) fun D σ H ⟨a, H0, O0, O, ρ, g, V, r, w, en⟩ => ⟨a, H0, O0, O, ρ, g, _, r, w, fun d g1 v H1 k1 r1 d1 w1 =>
  en.rt d g1 v H1 r1.keep (r1.pen.to r1.back rfl) (d1.to r1.back) w1⟩
def sRetN : WS := fun V _ g => V.rt .none g
theorem vs_retN : VS X (.Return none pos) sRetN := ps_weak ps_retN fun D σ H ⟨a, H0, O0, O, ρ, g, V, r, w, en⟩ => en.rt _ g _ H r.keep (r.pen.to r.back rfl) .non w
def sIf (T : WT) (W V : WS) : WS := fun D ρ g => T ρ g fun k g1 => if k = true then W D ρ g1 else V D ρ g1
theorem vs_if {T : WT} (h : VT X c T) (ha : VSs X as W) (hb : VSs X bs V) : VS X (.If c as bs pos) (sIf T W V) := ps_weak (ps_if h ha hb) fun D σ H ⟨a, H0, O0, O, ρ, g, U, r, w, en⟩ => ⟨a, H0, O0, O, ρ, g, _, r, w, fun k g1 H1 k1 r1 w1 => by
  cases k with
  | true =>
    rw [if_pos rfl] at w1 ⊢
    exact ⟨a, H0, O0, O, ρ, g1, U, r1, w1, en.on (off_kp k1)⟩
  | false =>
    rw [if_neg Bool.false_ne_true] at w1 ⊢
    exact ⟨a, H0, O0, O, ρ, g1, U, r1, w1, en.on (off_kp k1)⟩⟩
def sSet (i : Nat) (W : WE) : WS := fun V ρ g => W ρ g fun d g1 => V.nx (ρ.set i (.val d)) g1
theorem tS_set {K : PySem.W.Frag} {i : Nat} {W : WE} : ∀ D σ H, tS K (sSet i W) D σ H → tAsg (tE K W) (gName i) D σ H := fun D σ H ⟨a, H0, O0, O, ρ, g, V, r, w, en⟩ => ⟨a, H0, O0, O, ρ, g, _, r, w, fun d g1 v H1 k1 r1 d1 w1 =>
  en.nx O _ g1 _ H1 (off_kp k1) (r1.setVal d1) w1⟩
theorem vs_set (i : Nat) {x : Str} {W : WE} {pos' : Pos} (hN : X.N.Nodup) (he : VE X e W) (hi : X.N[i]? = some x := by rfl) (hx : Loc X.env.scope x := by first | exact Or.inl rfl | exact Or.inr rfl) (hs : swapsWith e (some (.Name x pos')) pos.line X.env = pure false := by rfl)
    (hf : X.fn x = true ∨ X.env.scope.names.lookup x = some .local := by first | exact .inl rfl | exact .inr rfl | assumption) : VS X (.Assign [.Name x pos'] e pos) (sSet i W) := ps_weak (ps_set hN hi hx he hs hf) tS_set
def sOwn (i : Nat) (W : WL) : WS := fun V ρ g => W ρ g fun ds g1 => V.nx (ρ.set i (.own ds)) g1
theorem tS_own {K : PySem.W.Frag} {i : Nat} {W : WL} : ∀ D σ H, tS K (sOwn i W) D σ H → tAsg (tL K W) (gName i) D σ H := fun D σ H ⟨a, H0, O0, O, ρ, g, V, r, w, en⟩ => ⟨a, H0, O0, O, ρ, g, _, r, w, fun ds g1 p xs H1 k1 r1 hp hx d1 w1 => by
  refine en.nx (p :: O) _ g1 _ H1 (fun b o e => ?_) (r1.setOwn List.mem_cons_self (r.freshH hp) hx d1 fun j es hj hs e => ?_) w1
  · obtain ⟨n, e⟩ := off_some.mp e
    have na : b ≠ a := fun z => n (by rw [z]; exact List.mem_cons_self)
    refine off_in (fun z => ?_) (k1 b o na e)
    rcases List.mem_cons.mp z with z | z
    · exact na z
    · rcases List.mem_cons.mp z with z | z
      · rw [z, hp] at e
        cases e
      · exact n (List.mem_cons_of_mem _ z)
  · obtain ⟨q, _, e', hq, _⟩ := r.slot j _ hs
    rw [e] at e'
    cases e'
    exact r.live p hq hp⟩
theorem vs_own (i : Nat) {x : Str} {W : WL} {pos' : Pos} (hN : X.N.Nodup) (he : VL X e W) (hi : X.N[i]? = some x := by rfl) (hx : Loc X.env.scope x := by first | exact Or.inl rfl | exact Or.inr rfl) (hs : swapsWith e (some (.Name x pos')) pos.line X.env = pure false := by rfl)
    (hf : X.fn x = true ∨ X.env.scope.names.lookup x = some .local := by first | exact .inl rfl | exact .inr rfl | assumption) : VS X (.Assign [.Name x pos'] e pos) (sOwn i W) := ps_weak (ps_set hN hi hx he hs hf) tS_own
/-- ghost: the slot's own list is plain data from here on -/
def sDis (i : Nat) (W : WS) : WS := fun V ρ g => ∃ ds, ρ[i]? = some (.own ds) ∧ W V (ρ.set i (.val (.list ds))) g
theorem tS_dis {K : PySem.W.Frag} {i : Nat} {W : WS} : ∀ D σ H, tS K (sDis i W) D σ H → tS K W D σ H := fun D σ H ⟨a, H0, O0, O, ρ, g, V, r, ⟨ds, hi, w⟩, en⟩ => by
  obtain ⟨O', s, r'⟩ := r.disown hi
  exact ⟨a, H0, O0, O', _, g, V, r', w, en.on s⟩
theorem vss_dis (i : Nat) (h : VSs X rest W) : VSs X rest (sDis i W) := pss_weak h tS_dis
/-- x[k] = e, x a slot's own list -/
def sSetIx (i : Nat) (We Wk : WE) : WS := fun V ρ g => ∃ ds, ρ[i]? = some (.own ds) ∧ We ρ g fun d g1 => Wk ρ g1 fun k g2 => ∃ z j, k = .int z ∧ ixN ds.length z = some j ∧ V.nx (ρ.set i (.own (ds.set j d))) g2
theorem same_set {α : Type} {l : List α} {i : Nat} {x : α} (h : l[i]? = some x) : l.set i x = l := by
  obtain ⟨hl, e⟩ := List.getElem?_eq_some_iff.mp h
  rw [← e]
  exact List.set_getElem_self hl
theorem vs_setIx (i : Nat) {x : Str} {k : Expr} {We Wk : WE} {p1 p2 : Pos} (he : VE X e We) (hk : VE X k Wk) (hN : X.N[i]? = some x := by rfl) (hv : Vis X.env.scope x := by first | exact Or.inl rfl | exact Or.inr (Or.inl rfl) | exact Or.inr (Or.inr rfl)) (hd : (x == ("__debug__" : Str)) = false := by decide)
    (hcd : (x == ("__classdict__" : Str)) = false := by decide) (ha : ∀ v, assign (.Subscript (.Name x p1) k p2) X.env v = (do
      let ov ← holding [v] (eval (.Name x p1) X.env)
      let iv ← holding [v, ov] (eval k X.env)
      standAt p2
      holding [v, ov, iv] (setItem ov iv v)
      release [v, ov, iv] []) := by intro _; rfl) (hs : swapsWithSole [.Subscript (.Name x p1) k p2] e pos.line X.env = pure false := by rfl) (hw : swappedStores [.Subscript (.Name x p1) k p2] e X.env = pure none := by rfl) :
    VS X (.Assign [.Subscript (.Name x p1) k p2] e pos) (sSetIx i We Wk) := ps_weak (ps_asg he (pg_sub (pe_var hN hv hd hcd) hk set_list ha) hs hw) fun D σ H ⟨a, H0, O0, O, ρ, g, V, r, ⟨ds, hi, w⟩, en⟩ => ⟨a, H0, O0, O, ρ, g, _, r, w, fun d g1 v H1 k1 r1 d1 w1 => by
    obtain ⟨p, xs, e, hp, hn, hx, hd1⟩ := r1.slot i _ hi
    refine ⟨.ref p, e, a, H0, O0, O, ρ, g1, _, r1, w1, fun kd g2 kv H2 k2 r2 d2 w2 => ?_⟩
    obtain ⟨z, j, rfl, hz, w2⟩ := w2
    cases d2
    have hx2 : H2 p = some (.lst xs) := k2 p _ (fun y => r.noA (y ▸ hp)) hx
    have hd2 : DqAll X.K (Off (a :: O) H2) xs ds := hd1.to (off_kp k2)
    refine ⟨p, xs, z, j, rfl, rfl, hx2, by rw [hd2.len]; exact hz, ?_⟩
    have r3 := r2.change (ys := xs.set j v) hi e (DqAll.set (d1.to (off_kp k2)) j hd2)
    exact en.nx O _ g2 _ _ ((off_kp (k1.trans k2)).trans (off_poke (List.mem_cons_of_mem _ hp))) r3 w2⟩
/-- x.append(e), x a slot's own list -/
def sApp (i : Nat) (We : WE) : WS := fun V ρ g => ∃ ds, ρ[i]? = some (.own ds) ∧ We ρ g fun d g1 => ds.length < sizeLine ∧ V.nx (ρ.set i (.own (ds ++ [d]))) g1
theorem tS_app {K : PySem.W.Frag} {i : Nat} {We : WE} : ∀ D σ H, tS K (sApp i We) D σ H → tDrop (tBM K "list" rAppend (tVar i) (tCons (tE K We) tNil)) D σ H := fun D σ H ⟨a, H0, O0, O, ρ, g, V, r, ⟨ds, hi, w⟩, en⟩ => by
  obtain ⟨p, xs, e, hp, hn, hx, hd⟩ := r.slot i _ hi
  refine ⟨.ref p, e, .inl ⟨rfl, _, SqL.of hx⟩, a, H0, O0, O, ρ, g, _, r, w, fun d g1 v H1 k1 r1 d1 w1 => ?_⟩
  have hx1 : H1 p = some (.lst xs) := k1 p _ (fun y => r.noA (y ▸ hp)) hx
  have hd2 : DqAll K (Off (a :: O) H1) xs ds := hd.to (off_kp k1)
  refine ⟨p, xs, v, rfl, rfl, hx1, by rw [hd2.len]; exact w1.1, ?_⟩
  exact en.nx O _ g1 _ _ ((off_kp k1).trans (off_poke (List.mem_cons_of_mem _ hp))) (r1.change (ys := xs ++ [v]) hi e (DqAll.app hd2 (.cons d1 .nil))) w1.2
/-- a, b, .. = e, e's value a tuple -/
def sUnp (n : Nat) (W : WE) (Gs : WGs) : WS := fun V ρ g => W ρ g fun d g1 => gT n Gs d ρ fun ρ' => V.nx ρ' g1
theorem vg_tup {es : List Expr} {k : Nat} {js : List Nat} {Gs : WGs} {n : Nat} (hc : X.calm = true) (h : VGs X es js Gs) (hn : es.length = n := by rfl) (hp : PG X (.Tuple es k pos) (gTup X.K n (tGs X.K js Gs))) : VG X (.Tuple es k pos) js (gT n Gs) :=
  pg_weak hp fun v σ H Q ⟨a, H0, O0, O, ρ, g, d, S, r, hd, w, q⟩ => by
    cases hd with
    | tup h1 h2 => exact ⟨_, _, rfl, sqt_mono off_out h1, by rw [h2.len]; exact w.1, a, H0, O0, O, ρ, g, _, S, r, h2, w.2, q⟩
    | _ => exact w.elim
theorem tS_asg {K : PySem.W.Frag} {W : WE} {js : List Nat} {G : WG} : ∀ D σ H, tS K (fun V ρ g => W ρ g fun d g1 => G d ρ fun ρ' => V.nx ρ' g1) D σ H → tAsg (tE K W) (tG K js G) D σ H := fun D σ H ⟨a, H0, O0, O, ρ, g, V, r, w, en⟩ =>
  ⟨a, H0, O0, O, ρ, g, _, r, w, fun d g1 v H1 k1 r1 d1 w1 => ⟨a, H0, O0, O, ρ, g1, d, _, r1, d1, w1, fun ρ' σ' _ r' w' => en.nx O ρ' g1 σ' H1 (off_kp k1) r' w'⟩⟩
def sAsg (W : WE) (G : WG) : WS := fun V ρ g => W ρ g fun d g1 => G d ρ fun ρ' => V.nx ρ' g1
theorem vs_asg {tg : Expr} {W : WE} {js : List Nat} {G : WG} (he : VE X e W) (hg : VG X tg js G) (hs : swapsWithSole [tg] e pos.line X.env = pure false := by rfl) (hw : swappedStores [tg] e X.env = pure none := by rfl) (h1 : (assignEach [tg] X.env).map (·.2) = [assign tg X.env] := by rfl) : VS X (.Assign [tg] e pos) (sAsg W G) := ps_weak (ps_asg he hg hs hw h1) tS_asg

/-! ### for -/
def loopV (G : WG) (B : WS) (V : EndsV) : List PyData → Rho → Nat → Prop
  | [], ρ, g => V.nx ρ g
  | d :: ds, ρ, g => G d ρ fun ρ' => B { nx := loopV G B V ds, rt := V.rt, bk := V.nx, ct := loopV G B V ds } ρ' g
def sFor (WI : WL) (G : WG) (B : WS) : WS := fun V ρ g => WI ρ g fun ds g1 => loopV G B V ds ρ g1
theorem tS_for {K : PySem.W.Frag} {WI : WL} {js : List Nat} {G : WG} {B : WS} : ∀ D σ H, tS K (sFor WI G B) D σ H → tFor (tI K WI) (tG K js G) (tS K B) D σ H := fun D σ H ⟨a, H0, O0, O, ρ, g, V, r, w, en⟩ =>
  ⟨a, H0, O0, O, ρ, g, _, r, w, fun ds g1 J H1 k1 r1 fd w1 => by
    refine ⟨fun i m σ' H' => ∃ O' ρ' g', m = ds.length - i ∧ i ≤ ds.length ∧ Sub (Off (a :: O) H1) (Off (a :: O') H') ∧ Rl K a H0 O0 O' ρ' g' σ' H' ∧ loopV G B V (ds.drop i) ρ' g', ⟨ds.length, O, ρ, g1, rfl, Nat.zero_le _, Sub.refl _, r1, w1⟩, ?_⟩
    rintro i m σ2 H2 ⟨O2, ρ2, g2, rfl, hi, s2, r2, w2⟩
    obtain ⟨f1, f2⟩ := fd i O2 H2 s2 r2.liveA
    by_cases hlt : i < ds.length
    · have e0 : ds.drop i = ds[i] :: ds.drop (i + 1) := List.drop_eq_getElem_cons hlt
      rw [e0] at w2
      obtain ⟨go, f3⟩ := f1 ds[i] (List.getElem?_eq_getElem hlt)
      refine .inr ⟨go, fun σ' H' => ∃ O' ρ' g', Sub (Off (a :: O) H1) (Off (a :: O') H') ∧ Rl K a H0 O0 O' ρ' g' σ' H' ∧ loopV G B V (ds.drop (i + 1)) ρ' g', fun σ' H' ⟨O', ρ', g', s', r', w'⟩ => ⟨ds.length - (i + 1), by omega, O', ρ', g', rfl, hlt, s', r', w'⟩, fun x H3 hy => ?_⟩
      obtain ⟨s3, dx⟩ := f3 x H3 hy
      have s23 : Sub (Off (a :: O2) H2) (Off (a :: O2) H3) := off_mono s3
      refine ⟨a, H0, O0, O2, ρ2, g2, ds[i], _, r2.ext s3, dx, w2, fun ρ' σ' _ r' w' => ⟨a, H0, O0, O2, ρ', g2, _, r', w', ⟨?_, ?_, ?_, en.rt⟩⟩⟩
      · exact fun O' ρ' g' σ' H' s' r' w' => ⟨O', ρ', g', (s2.trans s23).trans s', r', w'⟩
      · exact fun O' ρ' g' σ' H' s' r' w' => en.nx O' ρ' g' σ' H' (((off_kp k1).trans (s2.trans s23)).trans s') r' w'
      · exact fun O' ρ' g' σ' H' s' r' w' => ⟨O', ρ', g', (s2.trans s23).trans s', r', w'⟩
    · have e0 : ds.drop i = [] := List.drop_eq_nil_of_le (by omega)
      rw [e0] at w2
      exact .inl ⟨f2 (by omega), en.nx O2 ρ2 g2 σ2 H2 ((off_kp k1).trans s2) r2 w2⟩⟩
theorem vs_for {iter tg : Expr} {body : List Stmt} {WI : WL} {js : List Nat} {G : WG} {B : WS} (hp : PassesOwn (model X.prog X.w) X.A X.env X.xe) (hc : X.calm = true) (hi : VI X tg iter WI) (hg : VG X tg js G) (hb : VSs X body B)
    (hs : ∀ x, foldedSetIterable iter X.env x = pure x := by intro _; rfl) : VS X (.For tg iter body [] pos) (sFor WI G B) := ps_weak (ps_for hp hc hi hg hb hs) tS_for
end

/-! ### defs and their calls -/
abbrev VSp := Rho → Nat → (PyData → Nat → Prop) → Prop
def spV (K : PySem.W.Frag) (S : VSp) : Sp := fun vs H Q _ => ∃ (a : Addr) (O : List Addr) (g : Nat) (as : Rho) (R : PyData → Nat → Prop), Pen K a O g H ∧ a ∉ O ∧ (∀ p ∈ O, H p ≠ none) ∧ ArgsR K a (Off (a :: O) H) vs as ∧ S as g R ∧
  ∀ d g' v H', Kp a H H' → Pen K a O g' H' → Dq K (Off (a :: O) H') v d → R d g' → Q v H'
def endV (R : PyData → Nat → Prop) : EndsV := { nx := fun _ g' => ∃ g2, g' ≤ g2 ∧ R .none g2, rt := fun d g' => ∃ g2, g' ≤ g2 ∧ R d g2 }
def startV (N : Nat) (as : Rho) : Rho := as ++ List.replicate (N - as.length) Sl.un
theorem args_at {K : PySem.W.Frag} {a : Addr} {H : Hp} : ∀ {vs : List V} {as : Rho} {i : Nat} {s : Sl}, ArgsR K a H vs as → as[i]? = some s → (∃ v d, s = .val d ∧ vs[i]? = some v ∧ Dq K H v d) ∨ (s = .pen ∧ vs[i]? = some (.ref a))
  | _, _, _, _, .nil, e => by simp at e
  | _, _, 0, _, .val h _, e => by
    simp at e
    exact .inl ⟨_, _, e.symm, rfl, h⟩
  | _, _, 0, _, .pen _, e => by
    simp at e
    exact .inr ⟨e.symm, rfl⟩
  | _, _, i + 1, s, .val _ t, e => by
    have := args_at (i := i) (s := s) t (by simpa using e)
    simpa using this
  | _, _, i + 1, s, .pen t, e => by
    have := args_at (i := i) (s := s) t (by simpa using e)
    simpa using this
theorem rl_start {K : PySem.W.Frag} {a : Addr} {O : List Addr} {H : Hp} {g : Nat} {vs : List V} {as : Rho} {N : List Str} (p : Pen K a O g H) (ha : a ∉ O) (hl : ∀ p ∈ O, H p ≠ none) (r : ArgsR K a (Off (a :: O) H) vs as) (hn : as.length ≤ N.length) :
    Rl K a H O O (startV N.length as) g (L2.start N vs) H where
  keep := Kp.refl _ _
  pen := p
  sub := fun _ h => h
  new := fun _ h => .inl h
  noA := ha
  live := hl
  live0 := hl
  len := by
    have := r.len
    unfold startV L2.start
    rw [List.length_append, List.length_append, List.length_replicate, List.length_replicate, List.length_map, this]
  slot := fun i s hs => by
    unfold startV at hs
    by_cases hi : i < as.length
    · rw [List.getElem?_append_left hi] at hs
      have e : (L2.start N vs)[i]? = (vs[i]?).map some := by
        unfold L2.start
        rw [List.getElem?_append_left (by rw [List.length_map, r.len]; exact hi), List.getElem?_map]
      rw [e]
      rcases args_at r hs with ⟨v, d, rfl, hv, hd⟩ | ⟨rfl, hv⟩
      · exact ⟨v, by rw [hv]; rfl, hd⟩
      · show _ = _
        rw [hv]
        rfl
    · rw [List.getElem?_append_right (by omega)] at hs
      have := List.mem_of_getElem? hs
      rw [(List.mem_replicate.mp this).2]
      trivial
  inj := fun i j ds es o h1 h2 e1 e2 => by
    exfalso
    unfold startV at h1
    by_cases hi : i < as.length
    · rw [List.getElem?_append_left hi] at h1
      rcases args_at r h1 with ⟨v, d, z, _⟩ | ⟨z, _⟩ <;> cases z
    · rw [List.getElem?_append_right (by omega)] at h1
      have := (List.mem_replicate.mp (List.mem_of_getElem? h1)).2
      cases this
section
variable {P : Program} {w : World} {K : PySem.W.Frag} {mg : Str → Option Value} {base : Heap}
theorem fn_v {x qual : Str} {st : Stmt} {f : Addr} {fd : FuncData} {N ps : List Str} {k : Nat} {S : VSp} {W : WS} (F : Fun K x qual st f fd) (sc : FnScope N ps (defScope st)) (hl : ∀ as g R, S as g R → as.length = ps.length)
    (hb : ∀ (cdv : Value) (A : Around) (outer : List Env) (s : Shared) (H : Hp) (E : XK), Room k (A.deeper (envOfC qual (defScope st) s.heap.objs.size f cdv)) → VSs (cxOf CX0 P w K mg base N qual (defScope st) f cdv A outer s H E).nox (defBody st) W)
    (hw : ∀ as g R, S as g R → W (endV R) (startV N.length as) g) (hn : ps.length ≤ N.length := by decide) : FnOk P w K mg base CX0 (k + 1) f fd ps (spV K S) := by
  refine F.ok sc (fun vs H Q E h => ?_) (fun cdv A outer s H vs Q E hr h => ?_)
  · obtain ⟨a, O, g, as, R, _, _, _, r, hS, _⟩ := h
    rw [r.len]
    exact hl as g R hS
  · obtain ⟨a, O, g, as, R, p, ha, hlv, r, hS, q⟩ := h
    have hlen : as.length ≤ N.length := by rw [hl as g R hS]; exact hn
    refine ⟨_, hb cdv A outer s H E hr, a, H, O, O, startV N.length as, g, endV R, rl_start p ha hlv r hlen, hw as g R hS, ⟨?_, fun _ _ _ _ _ _ _ h => h.elim, fun _ _ _ _ _ _ _ h => h.elim, ?_⟩⟩
    · exact fun O' ρ' g' σ' H' s' r' ⟨g2, h2, w2⟩ => q .none g2 .non H' r'.keep ((r'.pen.to r'.back rfl).mono h2) .non w2
    · exact fun d g' v H' k' p' d' ⟨g2, h2, w2⟩ => q d g2 v H' k' (p'.mono h2) d' w2
end
section
variable {X : Cx} {e : Expr} {es : List Expr} {pos : Pos}
def wFn (S : VSp) (V : WP) : WE := fun ρ g R => V ρ g fun as g1 => S as g1 R
theorem v_call {CX : CXT} {k : Nat} {f : Addr} {fd : FuncData} {ps : List Str} {S : VSp} {V : WP} {E : XK} {x : Str} {p : Pos} (F : FnOk X.prog X.w X.K X.mg X.base CX k f fd ps (spV X.K S)) (hr : Room k X.A) (hg : Gl X x) (hm : X.mg x = some (.ref f)) (hk : PySem.W.keepIn X.K (.ref f) = true) (hb : Binds X.K fd ps []) (hx : Passes CX X E)
    (ha : VP X (e :: es) V) (hdb : (x == ("__debug__" : Str)) = false := by decide) (he : starEach (e :: es) X.env = (false, eval e X.env) :: starEach es X.env := by rfl) (hpl : (backTo pos (starEach es X.env)).any (·.1) = false := by rfl) : VE X (.Call (.Name x p) (e :: es) [] pos) (wFn S V) :=
  pe_weak (pe_call F hr hg hm hk hb .nil hx ha hdb he hpl) fun σ H Q ⟨a, H0, O0, O, ρ, g, R, r, w, q⟩ => ⟨a, H0, O0, O, ρ, g, _, r, w, fun as g1 vs H1 k1 r1 d1 w1 => by
    show spV X.K S (vs ++ []) H1 Q E
    rw [List.append_nil]
    exact ⟨a, O, g1, as, R, r1.pen, r1.noA, r1.live, d1, w1, fun d g' v H' k' p' d' w' => q d g' v H' (k1.trans k') (r1.step k' p') d' w'⟩⟩
end
end Vl
/-! V4: isinstance, slices, list(..), zip, enumerate, repr, a slot's own list read, parallel stores. -/
namespace Vl
open PySem PySem.Spec PyProof.Rows L2

/-! ### isinstance -/
def rIsD (K : PySem.W.Frag) (T : String) (f : PyData → Bool) : List V → Hp → VK → Prop := fun xs H Q => ∃ x d, xs = [x, .ty T] ∧ noX d = true ∧ Dq K H x d ∧ Q (.bl (f d)) H
section
variable {X : Cx}
theorem call_isD {T : String} {f : PyData → Bool} (rule : ∀ {prog : Program} {w : World} {A : Around} {E : Value → Shared → Prop} {s : Shared} {v : Value} {d : PyData} {as : List Addr} {Q : Value → Shared → Prop}, Reads s.heap v d as → (∀ tk, s.toks ≤ tk → Q (.bool (f d)) { s with toks := tk }) →
    wpAny (model prog w) A (call (.builtin "isinstance") [v, .type T]) Q E s) : CallR X (.builtin "isinstance") (rIsD X.K T f) := by
  intro pins s σ H xs us Q I r h
  obtain ⟨x, d, rfl, nx, hd, q⟩ := h
  obtain ⟨u1, u2, rfl, r1, r2⟩ := vals2 r
  cases r2
  obtain ⟨as, rd⟩ := Dq.reads I d x u1 nx hd r1
  exact rule rd fun tk _ => ⟨.bl _, H, I.tok tk, rfl, q⟩
variable {e : Expr} {pos : Pos} {W : WE}
def wIsa (f : PyData → Bool) (W : WE) : WE := fun ρ g R => W ρ g fun d g1 => noX d = true ∧ R (.bool (f d)) g1
theorem v_isa {T : String} {f : PyData → Bool} {x : Str} {p p2 : Pos} (hc : CallR X (.builtin "isinstance") (rIsD X.K T f)) (hg : Gl X "isinstance") (hm : X.mg "isinstance" = none) (hg2 : Gl X x) (hm2 : X.mg x = none) (hv2 : bootBuiltins x = some (.type T)) (he : VE X e W)
    (hn : x ≠ "__name__" := by decide) (hd : (x == ("__debug__" : Str)) = false := by decide) (hs : starEach (e :: [.Name x p2]) X.env = (false, eval e X.env) :: starEach [.Name x p2] X.env := by rfl) (hs2 : starEach [.Name x p2] X.env = (false, eval (.Name x p2) X.env) :: starEach [] X.env := by rfl)
    (hv : bootBuiltins "isinstance" = some (.builtin "isinstance") := by decide +kernel) (hpl : (backTo pos (starEach [.Name x p2] X.env)).any (·.1) = false := by rfl) : VE X (.Call (.Name "isinstance" p) [e, .Name x p2] [] pos) (wIsa f W) :=
  pe_weak (pe_callB hc hg hm hv (pa_cons he (pa_cons (pe_bltn (v := .ty T) (u := .type T) hg2 hm2 hv2 rfl hn hd) pa_nil hs2) hs) (by decide) (by decide) hs hpl) fun σ H Q ⟨a, H0, O0, O, ρ, g, R, r, w, q⟩ => ⟨a, H0, O0, O, ρ, g, _, r, w, fun d g1 v H1 k1 r1 d1 w1 =>
    ⟨v, d, rfl, w1.1, d1.to off_out, q _ g1 _ H1 k1 r1 (.bl _) w1.2⟩⟩
theorem v_isInt {p p2 : Pos} (hg : Gl X "isinstance") (hm : X.mg "isinstance" = none) (hg2 : Gl X "int") (hm2 : X.mg "int" = none) (he : VE X e W) (hs : starEach (e :: [.Name "int" p2]) X.env = (false, eval e X.env) :: starEach [.Name "int" p2] X.env := by rfl) (hs2 : starEach [.Name "int" p2] X.env = (false, eval (.Name "int" p2) X.env) :: starEach [] X.env := by rfl) (hpl : (backTo pos (starEach [.Name "int" p2] X.env)).any (·.1) = false := by rfl) :
    VE X (.Call (.Name "isinstance" p) [e, .Name "int" p2] [] pos) (wIsa PyData.isInt W) := v_isa (call_isD PySem.W.isinstance_int_data) hg hm hg2 hm2 (by decide +kernel) he (by decide) (by decide) hs hs2 (by decide +kernel) hpl
theorem v_isBool {p p2 : Pos} (hg : Gl X "isinstance") (hm : X.mg "isinstance" = none) (hg2 : Gl X "bool") (hm2 : X.mg "bool" = none) (he : VE X e W) (hs : starEach (e :: [.Name "bool" p2]) X.env = (false, eval e X.env) :: starEach [.Name "bool" p2] X.env := by rfl) (hs2 : starEach [.Name "bool" p2] X.env = (false, eval (.Name "bool" p2) X.env) :: starEach [] X.env := by rfl) (hpl : (backTo pos (starEach [.Name "bool" p2] X.env)).any (·.1) = false := by rfl) :
    VE X (.Call (.Name "isinstance" p) [e, .Name "bool" p2] [] pos) (wIsa PyData.isBool W) := v_isa (call_isD PySem.W.isinstance_bool_data) hg hm hg2 hm2 (by decide +kernel) he (by decide) (by decide) hs hs2 (by decide +kernel) hpl
theorem v_isTuple {p p2 : Pos} (hg : Gl X "isinstance") (hm : X.mg "isinstance" = none) (hg2 : Gl X "tuple") (hm2 : X.mg "tuple" = none) (he : VE X e W) (hs : starEach (e :: [.Name "tuple" p2]) X.env = (false, eval e X.env) :: starEach [.Name "tuple" p2] X.env := by rfl) (hs2 : starEach [.Name "tuple" p2] X.env = (false, eval (.Name "tuple" p2) X.env) :: starEach [] X.env := by rfl) (hpl : (backTo pos (starEach [.Name "tuple" p2] X.env)).any (·.1) = false := by rfl) :
    VE X (.Call (.Name "isinstance" p) [e, .Name "tuple" p2] [] pos) (wIsa PyData.isTuple W) := v_isa (call_isD PySem.W.isinstance_tuple_data) hg hm hg2 hm2 (by decide +kernel) he (by decide) (by decide) hs hs2 (by decide +kernel) hpl
theorem v_isList {p p2 : Pos} (hg : Gl X "isinstance") (hm : X.mg "isinstance" = none) (hg2 : Gl X "list") (hm2 : X.mg "list" = none) (he : VE X e W) (hs : starEach (e :: [.Name "list" p2]) X.env = (false, eval e X.env) :: starEach [.Name "list" p2] X.env := by rfl) (hs2 : starEach [.Name "list" p2] X.env = (false, eval (.Name "list" p2) X.env) :: starEach [] X.env := by rfl) (hpl : (backTo pos (starEach [.Name "list" p2] X.env)).any (·.1) = false := by rfl) :
    VE X (.Call (.Name "isinstance" p) [e, .Name "list" p2] [] pos) (wIsa PyData.isList W) := v_isa (call_isD PySem.W.isinstance_list_data) hg hm hg2 hm2 (by decide +kernel) he (by decide) (by decide) hs hs2 (by decide +kernel) hpl
theorem v_isStr {p p2 : Pos} (hg : Gl X "isinstance") (hm : X.mg "isinstance" = none) (hg2 : Gl X "str") (hm2 : X.mg "str" = none) (he : VE X e W) (hs : starEach (e :: [.Name "str" p2]) X.env = (false, eval e X.env) :: starEach [.Name "str" p2] X.env := by rfl) (hs2 : starEach [.Name "str" p2] X.env = (false, eval (.Name "str" p2) X.env) :: starEach [] X.env := by rfl) (hpl : (backTo pos (starEach [.Name "str" p2] X.env)).any (·.1) = false := by rfl) :
    VE X (.Call (.Name "isinstance" p) [e, .Name "str" p2] [] pos) (wIsa PyData.isStr W) := v_isa (call_isD PySem.W.isinstance_str_data) hg hm hg2 hm2 (by decide +kernel) he (by decide) (by decide) hs hs2 (by decide +kernel) hpl
/-- isinstance(x, (S, T)) -/
def tyD : PyData → String
  | .none => "NoneType"
  | .bool _ => "bool"
  | .int _ => "int"
  | .str _ => "str"
  | .list _ => "list"
  | .tuple _ => "tuple"
  | .dict _ => "dict"
theorem Dq.ty {K : PySem.W.Frag} {H : Hp} {v : V} {d : PyData} (h : Dq K H v d) (nx : noX d = true) : TyX K H v (.type (tyD d)) := by
  cases h with
  | exc0 => simp only [exD, noX] at nx; cases nx
  | exc1 => simp only [exD, noX] at nx; cases nx
  | non => exact .base .non
  | bl b => exact .base (.bl b)
  | int i => exact .base (.int i)
  | str x => exact .base (.str x)
  | lst e _ => exact .base (.lst e)
  | tup e _ =>
    rcases e with (e | ⟨o, e⟩) | ⟨o, its, n, e, c, _⟩
    · exact .base (.tup e)
    · exact .fTuple e
    · exact .kTuple e c
  | emp e => exact .base (.dK e)
theorem v_isa2 {S T : String} {f : PyData → Bool} {x y : Str} {p p2 p3 p4 : Pos} {k} (hk : ∀ K d, PySem.W.kitAny K (.type (tyD d)) [.type S, .type T] = some (f d)) (hg : Gl X "isinstance") (hm : X.mg "isinstance" = none) (hx : Gl X x) (hxm : X.mg x = none) (hxv : bootBuiltins x = some (.type S)) (hy : Gl X y) (hym : X.mg y = none) (hyv : bootBuiltins y = some (.type T)) (he : VE X e W)
    (hnx : x ≠ "__name__" := by decide) (hdx : (x == ("__debug__" : Str)) = false := by decide) (hny : y ≠ "__name__" := by decide) (hdy : (y == ("__debug__" : Str)) = false := by decide)
    (hs : starEach (e :: [.Tuple [.Name x p2, .Name y p3] k p4]) X.env = (false, eval e X.env) :: starEach [.Tuple [.Name x p2, .Name y p3] k p4] X.env := by rfl) (hpl : (backTo pos (starEach [.Tuple [.Name x p2, .Name y p3] k p4] X.env)).any (·.1) = false := by rfl) (hv : bootBuiltins "isinstance" = some (.builtin "isinstance") := by decide +kernel)
    (hs2 : starEach [.Tuple [.Name x p2, .Name y p3] k p4] X.env = (false, eval (.Tuple [.Name x p2, .Name y p3] k p4) X.env) :: starEach [] X.env := by rfl) (hs3 : starEach [.Name x p2, .Name y p3] X.env = (false, eval (.Name x p2) X.env) :: starEach [.Name y p3] X.env := by rfl) (hs4 : starEach [.Name y p3] X.env = (false, eval (.Name y p3) X.env) :: starEach [] X.env := by rfl) :
    VE X (.Call (.Name "isinstance" p) [e, .Tuple [.Name x p2, .Name y p3] k p4] [] pos) (wIsa f W) :=
  pe_weak (pe_callB call_isiT hg hm hv (pa_cons he (pa_cons (pe_tup (pa_cons (pe_bltn (v := .ty S) (u := .type S) hx hxm hxv rfl hnx hdx) (pa_cons (pe_bltn (v := .ty T) (u := .type T) hy hym hyv rfl hny hdy) pa_nil hs4) hs3)) pa_nil hs2) hs) (by decide) (by decide) hs hpl)
    fun σ H Q ⟨a, H0, O0, O, ρ, g, R, r, w, q⟩ => ⟨a, H0, O0, O, ρ, g, _, r, w, fun d g1 v H1 k1 r1 d1 w1 => ⟨by show 2 ≤ sizeLine; decide, fun tp htp => by
      have s := sub_upd (o := .tup [.ty S, .ty T]) htp
      exact ⟨v, tp, _, _, _, f d, rfl, upd_same, .cons (.ty S) (.cons (.ty T) .nil), ((d1.to off_out).to s).ty w1.1, hk _ d, q _ g1 _ _ (k1.trans (Kp.of s)) (r1.ext s) (.bl _) w1.2⟩⟩⟩
def isIntStr : PyData → Bool
  | .bool _ => true
  | .int _ => true
  | .str _ => true
  | _ => false
def isTupList : PyData → Bool
  | .list _ => true
  | .tuple _ => true
  | _ => false
theorem kit_IntStr (K : PySem.W.Frag) (d : PyData) : PySem.W.kitAny K (.type (tyD d)) [.type "int", .type "str"] = some (isIntStr d) := by cases d <;> rfl
theorem kit_TupList (K : PySem.W.Frag) (d : PyData) : PySem.W.kitAny K (.type (tyD d)) [.type "tuple", .type "list"] = some (isTupList d) := by cases d <;> rfl
end

/-! ### slices -/
abbrev WO := Rho → Nat → (Option Int → Nat → Prop) → Prop
def tO (K : PySem.W.Frag) (W : WO) : TO := fun σ H Q => ∃ (a : Addr) (H0 : Hp) (O0 O : List Addr) (ρ : Rho) (g : Nat) (R : Option Int → Nat → Prop), Rl K a H0 O0 O ρ g σ H ∧ W ρ g R ∧ ∀ o g' H', Kp a H H' → Rl K a H0 O0 O ρ g' σ H' → R o g' → Q o H'
abbrev VO (X : Cx) (e : Option Expr) (W : WO) : Prop := PO X e (tO X.K W)
def oNo : WO := fun _ g R => R none g
def oPt (W : WE) : WO := fun ρ g R => W ρ g fun d g1 => match d with
  | .int i => R (some i) g1
  | _ => False
def cutD (xs : List PyData) (lo hi : Option Int) : List PyData := (xs.drop (HT.sIx xs.length 0 lo)).take (HT.sIx xs.length xs.length hi - HT.sIx xs.length 0 lo)
theorem DqAll.cut {K : PySem.W.Frag} {H : Hp} {vs : List V} {ds : List PyData} {lo hi : Option Int} (h : DqAll K H vs ds) : DqAll K H (cutV vs lo hi) (cutD ds lo hi) := by
  unfold cutV cutD
  rw [h.len]
  exact DqAll.take _ (DqAll.drop _ h)
def wSl (W : WE) (Wl Wu : WO) : WE := fun ρ g R => W ρ g fun d g1 => Wl ρ g1 fun l g2 => Wu ρ g2 fun u g3 => match d with
  | .list xs => R (.list (cutD xs l u)) g3
  | .tuple xs => R (.tuple (cutD xs l u)) g3
  | _ => False
section
variable {X : Cx} {e : Expr} {pos : Pos} {W : WE}
theorem po_weak {o : Option Expr} {t t' : TO} (h : PO X o t) (w : ∀ σ H Q, t' σ H Q → t σ H Q) : PO X o t' := ⟨fun pins s σ H Q I q => h.run pins s σ H Q I (w σ H Q q)⟩
theorem vo_none : VO X none oNo := po_weak po_none fun σ H Q ⟨a, H0, O0, O, ρ, g, R, r, w, q⟩ => q none g H (Kp.refl _ _) r w
theorem vo_some (h : VE X e W) : VO X (some e) (oPt W) := po_weak (po_some h) fun σ H Q ⟨a, H0, O0, O, ρ, g, R, r, w, q⟩ => ⟨a, H0, O0, O, ρ, g, _, r, w, fun d g1 v H1 k1 r1 d1 w1 => by
  cases d <;> try exact w1.elim
  cases d1
  exact ⟨_, rfl, q _ g1 H1 k1 r1 w1⟩⟩
theorem v_slice {lo hi : Option Expr} {p2 : Pos} {Wl Wu : WO} (he : VE X e W) (hl : VO X lo Wl) (hu : VO X hi Wu) : VE X (.Subscript e (.Slice lo hi none p2) pos) (wSl W Wl Wu) :=
  pe_weak (pe_slice (sl_list.or sl_tupA) he hl hu) fun σ H Q ⟨a, H0, O0, O, ρ, g, R, r, w, q⟩ => ⟨a, H0, O0, O, ρ, g, _, r, w, fun d g1 v H1 k1 r1 d1 w1 => ⟨a, H0, O0, O, ρ, g1, _, r1, w1, fun l g2 H2 k2 r2 w2 => ⟨a, H0, O0, O, ρ, g2, _, r2, w2, fun u g3 H3 k3 r3 w3 => by
    have d3 := (d1.to (off_kp k2)).to (off_kp k3)
    have k13 := (k1.trans k2).trans k3
    cases d <;> try exact w3.elim
    · cases d3 with
      | @lst p xs _ h1 h2 =>
        refine .inl ⟨p, xs, rfl, SqL.of (off_out _ _ h1), fun n hn => ?_⟩
        have s := sub_upd (o := .lst (cutV xs l u)) hn
        exact q _ g3 _ _ (k13.trans (Kp.of s)) (r3.ext s) (.lst (off_upd r3.liveA hn) ((DqAll.cut h2).to (off_mono s))) w3
    · cases d3 with
      | @tup p xs ds h1 h2 =>
        refine .inr ⟨p, xs, rfl, sqt_mono off_out h1, fun hw => ?_, fun _ n hn => ?_⟩
        · refine q _ g3 _ H3 k13 r3 (.tup h1 ?_) w3
          have e : ∀ ys : List PyData, xs.length = ys.length → cutD ys l u = ys := fun ys hy => by
            unfold cutD
            rw [← hy, hw.1, hw.2, hy, Nat.sub_zero, List.drop_zero, List.take_length]
          rw [e _ h2.len]
          exact h2
        · have s := sub_upd (o := .tup (cutV xs l u)) hn
          exact q _ g3 _ _ (k13.trans (Kp.of s)) (r3.ext s) (.tup (.inl (.inl (off_upd r3.liveA hn))) ((DqAll.cut h2).to (off_mono s))) w3⟩⟩⟩
/-- xs[::-1], a list -/
def wRevL (W : WE) : WE := fun ρ g R => W ρ g fun d g1 => match d with
  | .list xs => R (.list xs.reverse) g1
  | _ => False
theorem v_revL {k : Nat} {p1 p2 p3 : Pos} (he : VE X e W) : VE X (.Subscript e (.Slice none none (some (.UnaryOp .USub (.Constant (.int 1) k p1) p2)) p3) pos) (wRevL W) := pe_weak (pe_revL he) fun σ H Q ⟨a, H0, O0, O, ρ, g, R, r, w, q⟩ => ⟨a, H0, O0, O, ρ, g, _, r, w, fun d g1 v H1 k1 r1 d1 w1 => by
  cases d1 with
  | @lst p xs ds h1 h2 =>
    refine ⟨p, xs, rfl, SqL.of (off_out _ _ h1), fun n hn => ?_⟩
    have s := sub_upd (o := .lst xs.reverse) hn
    exact q _ g1 _ _ (k1.trans (Kp.of s)) (r1.ext s) (.lst (off_upd r1.liveA hn) (h2.rev.to (off_mono s))) w1
  | _ => exact w1.elim⟩
/-- list(xs): a new list -/
def lList (W : WE) : WL := fun ρ g R => W ρ g fun d g1 => ∃ xs, itemsD d = some xs ∧ R xs g1
theorem vl_list {p : Pos} (hg : Gl X "list") (hm : X.mg "list" = none) (he : VE X e W) (hv : bootBuiltins "list" = some (.type "list") := by decide +kernel) (hs : starEach [e] X.env = (false, eval e X.env) :: starEach [] X.env := by rfl) (hpl : (backTo pos (starEach [] X.env)).any (·.1) = false := by rfl) : VL X (.Call (.Name "list" p) [e] [] pos) (lList W) :=
  pe_weak (pe_callTy call_list_of hg hm hv (pa_cons he pa_nil hs) (by decide) (by decide) hs hpl) fun σ H Q ⟨a, H0, O0, O, ρ, g, R, r, w, q⟩ => ⟨a, H0, O0, O, ρ, g, _, r, w, fun d g1 v H1 k1 r1 d1 w1 => by
    obtain ⟨xs, hi, w1⟩ := w1
    have h0 : ∀ {l : Addr}, H1 l = none → H l = none := fun {l} hl => by
      cases e : H l with
      | none => rfl
      | some o =>
        by_cases z : l = a
        · exact absurd hl (z ▸ r1.pen.live)
        · rw [k1 l o z e] at hl
          cases hl
    cases d1 <;> cases hi
    · rename_i p vs h1 h2
      refine ⟨p, vs, rfl, .inl (SqL.of (off_out _ _ h1)), fun l hl => ?_⟩
      exact q _ g1 l vs _ (k1.trans (Kp.of (sub_upd hl))) (r1.hide hl) (h0 hl) upd_same (h2.to (off_new hl)) w1
    · rename_i p vs h1 h2
      refine ⟨p, vs, rfl, .inr (sqt_mono off_out h1), fun l hl => ?_⟩
      exact q _ g1 l vs _ (k1.trans (Kp.of (sub_upd hl))) (r1.hide hl) (h0 hl) upd_same (h2.to (off_new hl)) w1⟩
end
end Vl
/-! V5: zip, enumerate, repr, a slot's own list read, parallel stores. -/
namespace Vl
open PySem PySem.Spec PyProof.Rows L2

/-! ### zip, enumerate -/
theorem feed_zipL {K : PySem.W.Frag} {a l m : Addr} {Hd : Hp} {xs ys : List V} {ds es : List PyData} (h : Hd l = some (.lst xs)) (hd : DqAll K Hd xs ds) (h2 : Hd m = some (.lst ys)) (hd2 : DqAll K Hd ys es) : Feed K a Hd (Itz K l m) (List.zipWith (fun x y => .tuple [x, y]) ds es) := fun i O' H2 s hv => by
  have hl : SqL K H2 l xs := SqL.of (off_out _ _ (s _ _ h))
  have hm : SqL K H2 m ys := SqL.of (off_out _ _ (s _ _ h2))
  refine ⟨fun d e => ?_, fun hi => ⟨xs, ys, hl, hm, by rw [hd.len, hd2.len]; rw [List.length_zipWith] at hi; omega⟩⟩
  rw [List.getElem?_zipWith] at e
  cases q1 : ds[i]? with
  | none => rw [q1] at e; simp at e
  | some d1 =>
    cases q2 : es[i]? with
    | none => rw [q1, q2] at e; simp at e
    | some d2 =>
      rw [q1, q2] at e
      cases e
      obtain ⟨v1, e1, w1⟩ := DqAll.at hd q1
      obtain ⟨v2, e2, w2⟩ := DqAll.at hd2 q2
      refine ⟨⟨xs, ys, v1, v2, hl, hm, e1, e2⟩, fun x H3 ⟨T, x1, x2, ex, hT, e3, f1, f2⟩ => ?_⟩
      have z1 := f1 xs hl
      rw [e1] at z1
      cases z1
      have z2 := f2 ys hm
      rw [e2] at z2
      cases z2
      subst ex e3
      have s3 := sub_upd (o := .tup [v1, v2]) hT
      exact ⟨s3, .tup (.inl (.inl (off_upd hv hT))) (.cons ((w1.to s).to (off_mono s3)) (.cons ((w2.to s).to (off_mono s3)) .nil))⟩
theorem feed_zipT {K : PySem.W.Frag} {a l m : Addr} {Hd : Hp} {xs ys : List V} {ds es : List PyData} (h : SqT K Hd l xs) (hd : DqAll K Hd xs ds) (h2 : SqT K Hd m ys) (hd2 : DqAll K Hd ys es) : Feed K a Hd (RZ.ItzT K l m) (List.zipWith (fun x y => .tuple [x, y]) ds es) := fun i O' H2 s hv => by
  have hl : SqT K H2 l xs := sqt_mono off_out (sqt_mono s h)
  have hm : SqT K H2 m ys := sqt_mono off_out (sqt_mono s h2)
  refine ⟨fun d e => ?_, fun hi => ⟨xs, ys, hl, hm, by rw [hd.len, hd2.len]; rw [List.length_zipWith] at hi; omega⟩⟩
  rw [List.getElem?_zipWith] at e
  cases q1 : ds[i]? with
  | none => rw [q1] at e; simp at e
  | some d1 =>
    cases q2 : es[i]? with
    | none => rw [q1, q2] at e; simp at e
    | some d2 =>
      rw [q1, q2] at e
      cases e
      obtain ⟨v1, e1, w1⟩ := DqAll.at hd q1
      obtain ⟨v2, e2, w2⟩ := DqAll.at hd2 q2
      refine ⟨⟨xs, ys, v1, v2, hl, hm, e1, e2⟩, fun x H3 ⟨T, x1, x2, ex, hT, e3, f1, f2⟩ => ?_⟩
      have z1 := f1 xs hl
      rw [e1] at z1
      cases z1
      have z2 := f2 ys hm
      rw [e2] at z2
      cases z2
      subst ex e3
      have s3 := sub_upd (o := .tup [v1, v2]) hT
      exact ⟨s3, .tup (.inl (.inl (off_upd hv hT))) (.cons ((w1.to s).to (off_mono s3)) (.cons ((w2.to s).to (off_mono s3)) .nil))⟩
theorem feed_enum {K : PySem.W.Frag} {a l : Addr} {Hd : Hp} {xs : List V} {ds : List PyData} (h : Hd l = some (.lst xs)) (hd : DqAll K Hd xs ds) : Feed K a Hd (Ite K l) ((List.range ds.length).zipWith (fun (k : Nat) d => .tuple [.int (k : Nat), d]) ds) := fun i O' H2 s hv => by
  have hl : SqL K H2 l xs := SqL.of (off_out _ _ (s _ _ h))
  refine ⟨fun d e => ?_, fun hi => ⟨xs, hl, by rw [hd.len]; rw [List.length_zipWith, List.length_range] at hi; omega⟩⟩
  rw [List.getElem?_zipWith] at e
  cases q1 : ds[i]? with
  | none => rw [q1] at e; cases hq : (List.range ds.length)[i]? <;> rw [hq] at e <;> simp at e
  | some d1 =>
    have hi : i < ds.length := (List.getElem?_eq_some_iff.mp q1).1
    rw [q1, List.getElem?_range hi] at e
    cases e
    obtain ⟨v1, e1, w1⟩ := DqAll.at hd q1
    refine ⟨⟨xs, v1, hl, e1⟩, fun x H3 ⟨T, x1, ex, hT, e3, f1⟩ => ?_⟩
    have z1 := f1 xs hl
    rw [e1] at z1
    cases z1
    subst ex e3
    have s3 := sub_upd (o := .tup [.int (i : Nat), v1]) hT
    exact ⟨s3, .tup (.inl (.inl (off_upd hv hT))) (.cons (.int _) (.cons ((w1.to s).to (off_mono s3)) .nil))⟩
section
variable {X : Cx} {e e2 : Expr} {pos : Pos}
def iZp (V : WL) : WL := fun ρ g R => V ρ g fun ds g1 => match ds with
  | [.list xs, .list ys] => R (List.zipWith (fun x y => .tuple [x, y]) xs ys) g1
  | [.tuple xs, .tuple ys] => R (List.zipWith (fun x y => .tuple [x, y]) xs ys) g1
  | _ => False
theorem vi_zip {V : WL} {p tpos : Pos} {elts : List Expr} {kk : Nat} (hg : Gl X "zip") (hm : X.mg "zip" = none) (ha : VA X [e, e2] V) (hs : starEach [e, e2] X.env = (false, eval e X.env) :: starEach [e2] X.env := by rfl) (hpl : (backTo pos (starEach [e2] X.env)).any (·.1) = false := by rfl) :
    VI X (.Tuple elts kk tpos) (.Call (.Name "zip" p) [e, e2] [] pos) (iZp V) := pi_weak (RZ.pi_zipA hg hm ha hs hpl) fun σ H S ⟨a, H0, O0, O, ρ, g, R, r, w, q⟩ => ⟨a, H0, O0, O, ρ, g, _, r, w, fun ds g1 vs H1 k1 r1 d1 w1 => by
  cases d1 with
  | nil => exact w1.elim
  | cons h1 t =>
    cases t with
    | nil => cases h1 <;> exact w1.elim
    | cons h2 t =>
      cases t with
      | cons _ _ => cases h1 <;> cases h2 <;> exact w1.elim
      | nil =>
        cases h1 <;> cases h2 <;> try exact w1.elim
        · rename_i l xs ds hl hx m ys es hm' hy
          exact ⟨l, m, xs, ys, rfl, .inl ⟨SqL.of (off_out _ _ hl), SqL.of (off_out _ _ hm'), q _ g1 _ H1 k1 r1 (feed_zipL hl hx hm' hy) w1⟩⟩
        · rename_i l xs ds hl hx m ys es hm' hy
          exact ⟨l, m, xs, ys, rfl, .inr ⟨sqt_mono off_out hl, sqt_mono off_out hm', q _ g1 _ H1 k1 r1 (feed_zipT hl hx hm' hy) w1⟩⟩⟩
def iEn (V : WL) : WL := fun ρ g R => V ρ g fun ds g1 => match ds with
  | [.list xs] => R ((List.range xs.length).zipWith (fun (k : Nat) d => .tuple [.int (k : Nat), d]) xs) g1
  | _ => False
theorem vi_enum {V : WL} {p tpos : Pos} {elts : List Expr} {kk : Nat} (hg : Gl X "enumerate") (hm : X.mg "enumerate" = none) (ha : VA X [e] V) (hs : starEach [e] X.env = [(false, eval e X.env)] := by rfl) :
    VI X (.Tuple elts kk tpos) (.Call (.Name "enumerate" p) [e] [] pos) (iEn V) := pi_weak (pi_enum hg hm ha hs) fun σ H S ⟨a, H0, O0, O, ρ, g, R, r, w, q⟩ => ⟨a, H0, O0, O, ρ, g, _, r, w, fun ds g1 vs H1 k1 r1 d1 w1 => by
  cases d1 with
  | nil => exact w1.elim
  | cons h1 t =>
    cases t with
    | cons _ _ => cases h1 <;> exact w1.elim
    | nil =>
      cases h1 <;> try exact w1.elim
      rename_i l xs ds hl hx
      exact ⟨l, xs, rfl, SqL.of (off_out _ _ hl), q _ g1 _ H1 k1 r1 (feed_enum hl hx) w1⟩⟩
end

/-! ### repr -/
mutual
theorem reads_mem {X : Cx} {pins : List (Addr × Obj)} {σ : L2.St} {H : Hp} {s : Shared} (I : Inv X pins σ H s) {om : Obj} (hm : X.base.get? sysModules = some om) (hcm : om.cls = .type "dict") : ∀ (d : PyData) (v : V) (u : Value), noX d = true → Dq X.K H v d → RelV v u → ∃ as, Reads s.heap u d as ∧ sysModules ∉ as
  | .none, _, _, _, h, r => by
    cases h; cases r
    exact ⟨_, .none, by simp⟩
  | .bool b, _, _, _, h, r => by
    cases h; cases r
    exact ⟨_, .bool b, by simp⟩
  | .int i, _, _, _, h, r => by
    cases h
    obtain ⟨t, rfl⟩ := r
    exact ⟨_, .int i t, by simp⟩
  | .str x, _, _, _, h, r => by
    cases h
    obtain ⟨t, rfl⟩ := r
    exact ⟨_, .str x t, by simp⟩
  | .list ds, _, _, nx, h, r => by
    simp only [noX] at nx
    cases h with
    | @lst a xs _ hs ha =>
      cases r
      obtain ⟨its, rv, ⟨o, n, ho, hc, _, hd⟩, _⟩ := I.list (SqL.of hs)
      obtain ⟨as, hr, hn⟩ := readsAll_mem I hm hcm ds _ its nx ha rv
      have ne : a ≠ sysModules := fun z => by
        have := (I.bs _ _ hm).2
        rw [← z, hs] at this
        cases this
      exact ⟨_, .list ho hc hd hr, fun q => by
        rcases List.mem_cons.mp q with z | z
        · exact ne z.symm
        · exact hn z⟩
  | .tuple ds, _, _, nx, h, r => by
    simp only [noX] at nx
    cases h with
    | tup hs ha =>
      cases r
      obtain ⟨its, rv, ⟨o, ho, hc, n, hd⟩, _⟩ := I.tuple hs
      obtain ⟨as, hr, hn⟩ := readsAll_mem I hm hcm ds _ its nx ha rv
      exact ⟨_, .tuple ho hc hd hr, hn⟩
  | .dict _, _, _, nx, h, r => by
    cases h with
    | exc0 => simp only [exD, noX] at nx; cases nx
    | exc1 => simp only [exD, noX] at nx; cases nx
    | @emp a e =>
      cases r
      obtain ⟨_, hy, vs, rel, o, es, ep, h1, h2, h3, _, h5, _⟩ := dk_of I.hok e
      cases rel
      have he : es.toList = [] := by
        generalize es.toList = l at h5
        cases h5
        rfl
      refine ⟨_, .dict (kvs := []) h1 h2.1 h3 (by rw [he]; exact .nil) (by rw [he]; exact .nil), ?_⟩
      intro q
      have q' : sysModules = a := by simpa using q
      rw [← q'] at hy
      exact absurd hy (by decide)
theorem readsAll_mem {X : Cx} {pins : List (Addr × Obj)} {σ : L2.St} {H : Hp} {s : Shared} (I : Inv X pins σ H s) {om : Obj} (hm : X.base.get? sysModules = some om) (hcm : om.cls = .type "dict") : ∀ (ds : List PyData) (vs : List V) (us : List Value), noXs ds = true → DqAll X.K H vs ds → Vals vs us → ∃ as, ReadsAll s.heap us ds as ∧ sysModules ∉ as
  | [], _, _, _, h, r => by
    cases h; cases r
    exact ⟨_, .nil, by simp⟩
  | d :: ds, _, _, nx, h, r => by
    simp only [noXs, Bool.and_eq_true] at nx
    cases h with
    | cons h1 h2 =>
      cases r with
      | cons r1 r2 =>
        obtain ⟨as, q1, n1⟩ := reads_mem I hm hcm d _ _ nx.1 h1 r1
        obtain ⟨bs, q2, n2⟩ := readsAll_mem I hm hcm ds _ _ nx.2 h2 r2
        exact ⟨_, .cons q1 q2, fun z => by
          rcases List.mem_append.mp z with z | z
          · exact n1 z
          · exact n2 z⟩
end
def showOk (d : PyData) : Prop := d.showable = true ∧ d.depth ≤ 60 ∧ d.shown.length ≤ sizeLine
def rRepr (K : PySem.W.Frag) : List V → Hp → VK → Prop := fun xs H Q => ∃ x d, xs = [x] ∧ Dq K H x d ∧ showOk d ∧ Q (.str d.shown) H
section
variable {X : Cx}
theorem call_repr (hg : X.A.guards = some []) (hu : X.A.units + 64 < cLine) {om : Obj} (hm : X.base.get? sysModules = some om) (hcm : om.cls = .type "dict") : CallR X (.builtin "repr") (rRepr X.K) := by
  intro pins s σ H xs us Q I r h
  obtain ⟨x, d, rfl, hd, ⟨h1, h2, h3⟩, q⟩ := h
  obtain ⟨u, rfl, rx⟩ := vals1 r
  obtain ⟨as, rd, na⟩ := reads_mem I hm hcm d x u (hd.clean h1) hd rx
  have fin : ∀ (h' : Heap) (t : Tok) (tk : Nat), (∀ b o, s.heap.get? b = some o → h'.get? b = some o) → EP X pins σ Q (.str d.shown t) { s with heap := h', toks := tk } := fun h' t tk hk => ⟨.str d.shown, H, I.kept (t' := tk) hk, ⟨t, rfl⟩, q⟩
  have self : ∀ (t : Tok) (tk : Nat), EP X pins σ Q (.str d.shown t) { s with toks := tk } := fun t tk => fin s.heap t tk fun _ _ e => e
  cases rd with
  | none => exact PySem.P.repr_of_none (self _ _)
  | bool b =>
    refine PySem.P.repr_of_bool ?_
    have e : (PyData.bool b).shown = (if b then "True" else "False" : Str) := by simp only [PyData.shown]
    have z := self s.toks (s.toks + 1)
    rw [e] at z
    exact z
  | int i t =>
    refine PySem.P.repr_of_int (by simpa [PyData.showable] using h1) ?_
    have z := self s.toks (s.toks + 1)
    simp only [PyData.shown] at z
    exact z
  | str y t =>
    have e : (PyData.str y).shown = reprText y := by simp only [PyData.shown]
    refine PySem.P.repr_of_str ?_ (by rw [← e]; exact h3)
    have z := self s.toks (s.toks + 1)
    rw [e] at z
    exact z
  | list a1 a2 a3 a4 => exact PySem.repr_of_reads' (h₀ := s.heap) (.list a1 a2 a3 a4) h1 (fun _ => na) hg (by omega) (fun _ _ e => e) (fun h' u tk hk => fin h' u tk hk) h3
  | tuple a1 a2 a3 a4 => exact PySem.repr_of_reads' (h₀ := s.heap) (.tuple a1 a2 a3 a4) h1 (fun _ => na) hg (by omega) (fun _ _ e => e) (fun h' u tk hk => fin h' u tk hk) h3
  | dict a1 a2 a3 a4 a5 => exact PySem.repr_of_reads' (h₀ := s.heap) (.dict a1 a2 a3 a4 a5) h1 (fun _ => na) hg (by omega) (fun _ _ e => e) (fun h' u tk hk => fin h' u tk hk) h3
def fRepr : List PyData → (PyData → Prop) → Prop := fun ds R => ∃ d, ds = [d] ∧ showOk d ∧ R (.str d.shown)
theorem callS_repr {K : PySem.W.Frag} : CallS K (rRepr K) fRepr := fun A H xs ds R Q hA hx ⟨d, h1, h2, w⟩ q => by
  subst h1
  cases hx with
  | cons h t =>
    cases t
    exact ⟨_, d, rfl, h.to off_out, h2, q _ _ H (Sub.refl _) (.str _) w⟩
variable {e : Expr} {pos : Pos}
theorem v_repr {V : WL} {p : Pos} (hgd : X.A.guards = some []) (hu : X.A.units + 64 < cLine) {om : Obj} (hsm : X.base.get? sysModules = some om) (hcm : om.cls = .type "dict") (hg : Gl X "repr") (hm : X.mg "repr" = none) (ha : VA X [e] V) (hv : bootBuiltins "repr" = some (.builtin "repr") := by decide +kernel) (he : starEach [e] X.env = (false, eval e X.env) :: starEach [] X.env := by rfl) :
    VE X (.Call (.Name "repr" p) [e] [] pos) (wCall fRepr V) := v_callB (call_repr hgd hu hsm hcm) callS_repr hg hm hv ha (he := he) (hpl := rfl)

/-! ### a slot's own list, read -/
def wIxO (i : Nat) (Wk : WE) : WE := fun ρ g R => ∃ ds, ρ[i]? = some (.own ds) ∧ Wk ρ g fun k g1 => ∃ z d, k = .int z ∧ atI ds z = some d ∧ R d g1
theorem v_ixO (i : Nat) {k : Expr} {x : Str} {p : Pos} {Wk : WE} (hk : VE X k Wk) (hN : X.N[i]? = some x := by rfl) (hv : Vis X.env.scope x := by first | exact Or.inl rfl | exact Or.inr (Or.inl rfl) | exact Or.inr (Or.inr rfl)) (hd : (x == ("__debug__" : Str)) = false := by decide)
    (hcd : (x == ("__classdict__" : Str)) = false := by decide) (hs : PlainIx k := by exact fun _ _ => rfl) : VE X (.Subscript (.Name x p) k pos) (wIxO i Wk) :=
  pe_weak (pe_ix ix_list (pe_var hN hv hd hcd) hk hs) fun σ H Q ⟨a, H0, O0, O, ρ, g, R, r, ⟨ds, hi, w⟩, q⟩ => by
    obtain ⟨p, xs, e, hp, hn, hx, hdd⟩ := r.slot i _ hi
    refine ⟨.ref p, e, a, H0, O0, O, ρ, g, _, r, w, fun kd g1 kv H1 k1 r1 d1 w1 => ?_⟩
    obtain ⟨z, d, rfl, hz, w1⟩ := w1
    cases d1
    have hx1 : H1 p = some (.lst xs) := k1 p _ (fun y => r.noA (y ▸ hp)) hx
    obtain ⟨v, hv', dv⟩ := atI_all (hdd.to (off_kp k1)) hz
    exact ⟨p, xs, z, v, rfl, rfl, SqL.of hx1, hv', q d g1 v H1 k1 r1 dv w1⟩

/-! ### parallel stores -/
def sPar (i j : Nat) (W1 W2 : WE) : WS := fun V ρ g => W1 ρ g fun d g1 => W2 ρ g1 fun d2 g2 => V.nx ((ρ.set i (.val d)).set j (.val d2)) g2
theorem tS_par {K : PySem.W.Frag} {i j : Nat} {W1 W2 : WE} : ∀ D σ H, tS K (sPar i j W1 W2) D σ H → tPar i j (tCons (tE K W1) (tCons (tE K W2) tNil)) D σ H := fun D σ H ⟨a, H0, O0, O, ρ, g, V, r, w, en⟩ =>
  ⟨a, H0, O0, O, ρ, g, _, r, w, fun d g1 v H1 k1 r1 d1 w1 => ⟨a, H0, O0, O, ρ, g1, _, r1, w1, fun d2 g2 v2 H2 k2 r2 dd w2 => ⟨v, v2, rfl, en.nx O _ g2 _ H2 (off_kp (k1.trans k2)) ((r2.setVal (d1.to (off_kp k2))).setVal dd) w2⟩⟩⟩
def sPar3 (i j l : Nat) (W1 : WL) (W2 W3 : WE) : WS := fun V ρ g => W1 ρ g fun ds g1 => W2 ρ g1 fun d2 g2 => W3 ρ g2 fun d3 g3 => V.nx (((ρ.set i (.own ds)).set j (.val d2)).set l (.val d3)) g3
theorem tS_par3 {K : PySem.W.Frag} {i j l : Nat} {W1 : WL} {W2 W3 : WE} : ∀ D σ H, tS K (sPar3 i j l W1 W2 W3) D σ H → tPar3 i j l (tCons (tL K W1) (tCons (tE K W2) (tCons (tE K W3) tNil))) D σ H := fun D σ H ⟨a, H0, O0, O, ρ, g, V, r, w, en⟩ =>
  ⟨a, H0, O0, O, ρ, g, _, r, w, fun ds g1 p xs H1 k1 r1 hp hx d1 w1 => ⟨a, H0, O0, p :: O, ρ, g1, _, r1, w1, fun d2 g2 v2 H2 k2 r2 dd2 w2 => ⟨a, H0, O0, p :: O, ρ, g2, _, r2, w2, fun d3 g3 v3 H3 k3 r3 dd3 w3 => by
    have npa : p ≠ a := fun z => r.pen.live (z ▸ hp)
    have k13 := k2.trans k3
    refine ⟨.ref p, v2, v3, rfl, en.nx (p :: O) _ g3 _ H3 (fun b o e => ?_) (((r3.setOwn List.mem_cons_self (r.freshH hp) (k13 p _ npa hx) (d1.to (off_kp k13)) fun m es hm hs e => ?_).setVal (dd2.to (off_kp k3))).setVal dd3) w3⟩
    · obtain ⟨n, e⟩ := off_some.mp e
      have na : b ≠ a := fun z => n (by rw [z]; exact List.mem_cons_self)
      refine off_in (fun z => ?_) ((k1.trans k13) b o na e)
      rcases List.mem_cons.mp z with z | z
      · exact na z
      · rcases List.mem_cons.mp z with z | z
        · rw [z, hp] at e
          cases e
        · exact n (List.mem_cons_of_mem _ z)
    · obtain ⟨q, _, e', hq, _⟩ := r.slot m _ hs
      rw [e] at e'
      cases e'
      exact r.live p hq hp⟩⟩⟩
end
end Vl
/-! V6: x == (), t * k, {}, stores of comprehensions, callees by name. -/
namespace Vl
open PySem PySem.Spec PyProof.Rows L2

/-! ### {} -/
section
variable {X : Cx} {e a b : Expr} {pos : Pos} {W Wa Wb : WE}
theorem v_emp : VE X (.Dict [] [] pos) (wC (.dict [])) := pe_weak pe_dnewK fun σ H Q ⟨a, H0, O0, O, ρ, g, R, r, w, q⟩ => fun p hp => by
  have s := sub_upd (o := .dK []) hp
  exact q _ g _ _ (Kp.of s) (r.ext s) (.emp (off_upd r.liveA hp)) w
end

/-! ### x == () -/
def isUnit : PyData → Bool
  | .tuple xs => xs.isEmpty
  | _ => false
def notDict : PyData → Bool
  | .dict _ => false
  | _ => true
theorem rc_unit {A : Around} {s : Shared} {d : PyData} {v u : Value} {as bs : List Addr} (r : Reads s.heap v d as) (r2 : Reads s.heap u (.tuple []) bs) (hd : notDict d = true) (hu : A.units + 64 < cLine) : SeqAt.RcAt A s v u (isUnit d) := by
  cases r2 with
  | @tuple l' o' vs' n' _ _ k1 k2 k3 k4 =>
    have hv : vs'.toList = [] := by cases vs' with | mk l => cases l with | nil => rfl | cons x y => cases k4
    have hs : vs'.size = 0 := by rw [← Array.length_toList, hv]; rfl
    have ht : s.heap.IsTuple l' vs' := ⟨_, k1, k2, _, k3⟩
    cases r with
    | none => exact SeqAt.rcAt_plain .none (.tuple k1 k2 k3 k4) rfl rfl (by simp [PyData.depth]; omega)
    | bool b => exact SeqAt.rcAt_plain (.bool b) (.tuple k1 k2 k3 k4) rfl rfl (by simp [PyData.depth]; omega)
    | int i t => exact SeqAt.rcAt_plain (.int i t) (.tuple k1 k2 k3 k4) rfl rfl (by simp [PyData.depth]; omega)
    | str x t => exact SeqAt.rcAt_plain (.str x t) (.tuple k1 k2 k3 k4) rfl rfl (by simp [PyData.depth]; omega)
    | dict => exact nomatch hd
    | list h1 h2 h3 h4 => exact SeqAt.RcAt.list_tuple ⟨_, h1, h2, _, h3⟩ ht (by omega)
    | @tuple l o vs n xs as1 h1 h2 h3 h4 =>
      have n1 : vs.size = xs.length := by simpa using SeqAt.ReadsAll.length _ _ _ h4
      have q := SeqAt.RcAt.tuples (e := fun _ => true) ⟨_, h1, h2, _, h3⟩ ht (by omega : A.units < cLine) (fun j j1 j2 => absurd j2 (by omega))
      have e : ((List.range (min vs.size vs'.size)).all (fun _ => true) && vs.size == vs'.size) = isUnit (.tuple xs) := by
        rw [hs, n1]
        cases xs with
        | nil => rfl
        | cons x r => rw [Nat.min_zero]; rfl
      rw [e] at q
      exact q
def rEqE (K : PySem.W.Frag) : R2 := fun x y H Q => ∃ d b, Dq K H x d ∧ (notDict d = true ∧ noX d = true) ∧ y = .ref b ∧ SqT K H b [] ∧ Q (.bl (isUnit d)) H
section
variable {X : Cx} {e a b : Expr} {pos : Pos} {W Wa Wb : WE}
theorem op_eqE (hu : X.A.units + 64 < cLine) : OpR X (compareOp .Eq) (rEqE X.K) := by
  intro pins s σ H x y v u Q I rx ry h
  obtain ⟨d, b, hd, nd, rfl, hb, q⟩ := h
  obtain ⟨as, r1⟩ := Dq.reads I d x v nd.2 hd rx
  obtain ⟨bs, r2⟩ := Dq.reads I (.tuple []) (.ref b) u (by simp only [noX, noXs]) (.tup hb .nil) ry
  exact rc_unit r1 r2 nd.1 hu X.prog X.w X.xe (EP X pins σ Q) ⟨.bl _, H, I, rfl, q⟩
def wEqE (W : WE) : WE := fun ρ g R => W ρ g fun d g1 => (notDict d = true ∧ noX d = true) ∧ R (.bool (isUnit d)) g1
theorem tE_eqE {K : PySem.W.Frag} {W : WE} : ∀ σ H Q, tE K (wEqE W) σ H Q → tOp (rEqE K) (tE K W) (tTup tNil) σ H Q := fun σ H Q ⟨a, H0, O0, O, ρ, g, R, r, w, q⟩ => ⟨a, H0, O0, O, ρ, g, _, r, w, fun d g1 v H1 k1 r1 d1 w1 => ⟨Nat.zero_le _, fun p hp => by
  have s := sub_upd (o := .tup []) hp
  exact ⟨d, p, (d1.to off_out).to s, w1.1, rfl, .inl (.inl upd_same), q _ g1 _ _ (k1.trans (Kp.of s)) (r1.ext s) (.bl _) w1.2⟩⟩⟩
theorem v_eqE {k : Nat} {p : Pos} (hu : X.A.units + 64 < cLine) (ha : VE X a W) : VE X (.Compare a [.Eq] [.Tuple [] k p] pos) (wEqE W) := pe_weak (pe_cmpR (op_eqE hu) ha (pe_tup pa_nil) (nomark _)) tE_eqE
theorem t_eqE {k : Nat} {p : Pos} (hu : X.A.units + 64 < cLine) (ha : VE X a W) : VT X (.Compare a [.Eq] [.Tuple [] k p] pos) (wB (wEqE W)) := pt_weak (pt_cmpR (op_eqE hu) ha (pe_tup pa_nil) (nomark _)) fun σ H Q h => tE_eqE σ H _ (tT_of σ H Q h)
end

/-! ### t * k, l * k -/
theorem mul_one_meets (l : Addr) (items : Array Value) (n : Nat) (dd : Option Addr) (sl : Array (Option Value)) (u : Tok) :
    Meets (Builtin.«tuple.__mul__» ⟨[.ref l, .int 1 u], []⟩) (fun _ R s => s.heap.get? l = some { cls := .type "tuple", dict := dd, data := .seq items n, slots := sl } ∧ R (.ok (.ret (Value.ref l))) s) :=
  .of_wp fun prog w A R s h => by
    obtain ⟨hp, g, d, tk, os⟩ := s
    obtain ⟨hl, h⟩ := h
    have f1 := AutoSeq1.idx_int
    wp_walk using AutoSeq1.wpAny_loadPart' hl
    exact ⟨_, rfl, h⟩
def rRep1 (K : PySem.W.Frag) : R2 := fun x y H Q => ∃ l xs, x = .ref l ∧ y = .int 1 ∧ SqT K H l xs ∧ Q (.ref l) H
theorem op_rep1 {X : Cx} : OpR X (binaryOp .Mult) (rRep1 X.K) := by
  intro pins s σ H x y v u Q I rx ry h
  obtain ⟨l, xs, rfl, rfl, hT, q⟩ := h
  cases rx
  obtain ⟨t, rfl⟩ := ry
  obtain ⟨its, _, ⟨⟨cls, dd, data, sl⟩, ho, hc, n, hd⟩, _⟩ := I.tuple hT
  simp only at hc hd
  subst hc hd
  refine wpAny_binaryOp_repeat_ref (T := "tuple") (U := "int") (by decide) ⟨_, ho, rfl⟩ (fun s' => typeIs_int s' 1 t) noFill_tuple_mul F.fills_int_mul F.slot_int_rmul repeat_tuple F.slot_int_index.lookup ?_
  exact call_meets F.slot_int_rmul (typeIs_int s 1 t) F.entry_int_rmul (F.args_int_rmul_2 _ _) (int_rmul_tuple 1 t l its.toArray n dd sl) ⟨ho, rfl, ⟨_, ho, rfl⟩, call_meets F.slot_tuple_mul ⟨_, ho, rfl⟩ F.entry_tuple_mul (F.args_tuple_mul_2 _ _) (mul_one_meets l its.toArray n dd sl t) ⟨ho, ⟨.ref l, H, I, rfl, q⟩⟩⟩
def rMulT (K : PySem.W.Frag) : R2 := fun x y H Q => rRepT K x y H Q ∨ rRep1 K x y H Q
def fMulT : F2 := fun x y R => match x, y with
  | .tuple xs, .int k => (1 ≤ k ∧ k ≤ 1000 ∧ xs ≠ [] ∧ xs.length ≤ 1000) ∧ R (.tuple (List.replicate k.toNat xs).flatten)
  | _, _ => False
theorem opS_mulT {K : PySem.W.Frag} : OpS K (rMulT K) fMulT := fun A H x y dx dy R Q hA hx hy w q => by
  cases dx <;> try exact w.elim
  rename_i ds
  cases dy <;> try exact w.elim
  rename_i k
  cases hx with
  | @tup a vs _ ha hv =>
    cases hy
    obtain ⟨⟨h1, h2, h3, h4⟩, w⟩ := w
    by_cases hk : k = 1
    · subst hk
      refine .inr ⟨a, vs, rfl, rfl, sqt_mono off_out ha, q _ _ H (Sub.refl _) (.tup ha ?_) w⟩
      have := DqAll.rep hv 1
      have e : (List.replicate (1 : Int).toNat ds).flatten = ds := by simp
      rw [e]
      exact hv
    · refine .inl ⟨a, k, vs, rfl, rfl, sqt_mono off_out ha, fun z => h3 ?_, by omega, h2, by rw [hv.len]; exact h4, fun p hp => ?_⟩
      · subst z
        cases hv
        rfl
      · have s := sub_upd (o := .tup (List.replicate k.toNat vs).flatten) hp
        exact q _ _ _ s (.tup (.inl (.inl (off_upd hA hp))) ((DqAll.rep hv _).to (off_mono s))) w
def fMulL : F2 := fun x y R => match x, y with
  | .list xs, .int k => (-(2 ^ 63) ≤ k ∧ k < 2 ^ 63 ∧ xs.length * k.toNat ≤ sizeLine) ∧ R (.list (List.replicate k.toNat xs).flatten)
  | _, _ => False
theorem opS_mulL {K : PySem.W.Frag} : OpS K rRep fMulL := fun A H x y dx dy R Q hA hx hy w q => by
  cases dx <;> try exact w.elim
  rename_i ds
  cases dy <;> try exact w.elim
  rename_i k
  cases hx with
  | @lst a vs _ ha hv =>
    cases hy
    obtain ⟨⟨h1, h2, h3⟩, w⟩ := w
    refine ⟨a, k, vs, rfl, rfl, off_out _ _ ha, h1, h2, by rw [hv.len]; exact h3, fun p hp => ?_⟩
    have s := sub_upd (o := .lst (List.replicate k.toNat vs).flatten) hp
    exact q _ _ _ s (.lst (off_upd hA hp) ((DqAll.rep hv _).to (off_mono s))) w
section
variable {X : Cx} {e a b c elt tg iter : Expr} {es : List Expr} {ifs : List Expr} {pos : Pos} {W Wa Wb : WE}
theorem v_mulT (ha : VE X a Wa) (hb : VE X b Wb) : VE X (.BinOp a .Mult b pos) (wOp fMulT Wa Wb) := v_bin (op_repT.or op_rep1) opS_mulT ha hb
theorem v_mulL (ha : VE X a Wa) (hb : VE X b Wb) : VE X (.BinOp a .Mult b pos) (wOp fMulL Wa Wb) := v_bin op_rep opS_mulL ha hb

/-! ### a comprehension stored -/
theorem vs_setLc (i : Nat) {y : Str} {py spos : Pos} {scope : Scope} {own : List (Str × Nat)} {WI : WL} {js : List Nat} {G : WG} {T : WT} {E : WE} (hc : X.calm = true) (hN : X.N.Nodup) (hi : VI X tg iter WI) (ok : BlkOk X.N X.env.scope scope own)
    (hg : ∀ (s : Shared) (H : Hp) (C : Addr) (cl : List (Str × Addr)) (fp : List Addr), VG (X.blk s H scope (compEnvC scope cl C X.env) fp) tg js G) (ht : ∀ (s : Shared) (H : Hp) (C : Addr) (cl : List (Str × Addr)) (fp : List Addr), VTs (X.blk s H scope (compEnvC scope cl C X.env) fp) ifs T)
    (he : ∀ (s : Shared) (H : Hp) (C : Addr) (cl : List (Str × Addr)) (fp : List Addr), VE (X.blk s H scope (compEnvC scope cl C X.env) fp) elt E) (hy : X.N[i]? = some y := by rfl) (hyl : X.env.scope.names.lookup y = some .local := by rfl)
    (hsw : swapsWith (.ListComp elt [⟨tg, iter, ifs, 0⟩] scope pos) (some (.Name y py)) spos.line X.env = pure true := by exact sw_true rfl rfl rfl (by decide +kernel)) (hj : ∀ j ∈ js, j ∈ own.map (·.2) := by decide) (hs : ∀ x, foldedSetIterable iter X.env x = pure x := by intro _; rfl) :
    VS X (.Assign [.Name y py] (.ListComp elt [⟨tg, iter, ifs, 0⟩] scope pos) spos) (sSet i (wL (lLc WI G T E (own.map (·.2))))) :=
  ps_weak (ps_setLc hc hN hy hyl hsw hi ok hg ht he hs) fun D σ H h => by
    have h' := tS_set D σ H h
    obtain ⟨a, H0, O0, O, ρ, g, R, r, w, q⟩ := h'
    have h2 : tL X.K (lLc WI G T E (own.map (·.2))) σ H fun v H' => gName i v σ H' D.nx := ⟨a, H0, O0, O, ρ, g, _, r, w, fun ds g1 p xs H1 k1 r1 hp hx d1 w1 => q (.list ds) g1 (.ref p) H1 k1 (r.unhide r1) (.lst (off_in (r.freshA hp) hx) (d1.to off_shed)) w1⟩
    exact tL_lc hj σ H _ h2
theorem vs_app (i : Nat) {x : Str} {p1 p2 : Pos} {We : WE} (he : VE X e We) (hN : X.N[i]? = some x := by rfl) (hv : Vis X.env.scope x := by first | exact Or.inl rfl | exact Or.inr (Or.inl rfl) | exact Or.inr (Or.inr rfl)) (hd : (x == ("__debug__" : Str)) = false := by decide) (hcd : (x == ("__classdict__" : Str)) = false := by decide)
    (hp : PE X (.Call (.Attribute (.Name x p1) "append" p2) [e] [] pos) (tBM X.K "list" rAppend (tVar i) (tCons (tE X.K We) tNil))) {pos' : Pos} (hs : swapsWith (.Call (.Attribute (.Name x p1) "append" p2) [e] [] pos) none pos'.line X.env = pure false := by rfl) :
    VS X (.Expr (.Call (.Attribute (.Name x p1) "append" p2) [e] [] pos) pos') (sApp i We) := ps_weak (ps_expr hp hs) tS_app
end

/-! ### callees by name -/
/-- a def of the text and how it is called -/
structure Df (K : PySem.W.Frag) (mg : Str → Option Value) (x : Str) (st : Stmt) (ps : List Str) : Prop where
  ex : ∃ (f : Addr) (fd : FuncData), Fun K x x st f fd ∧ Binds K fd ps [] ∧ mg x = some (.ref f)
/-- a def that keeps a promise over data -/
structure Ck (P : Program) (w : World) (K : PySem.W.Frag) (mg : Str → Option Value) (base : Heap) (x : Str) (ps : List Str) (k : Nat) (S : VSp) : Prop where
  ex : ∃ (f : Addr) (fd : FuncData), FnOk P w K mg base CX0 k f fd ps (spV K S) ∧ Binds K fd ps [] ∧ mg x = some (.ref f) ∧ PySem.W.keepIn K (.ref f) = true
section
variable {P : Program} {w : World} {K : PySem.W.Frag} {mg : Str → Option Value} {base : Heap}
theorem ck_v {x : Str} {st : Stmt} {N ps : List Str} {k : Nat} {S : VSp} {W : WS} (D : Df K mg x st ps) (sc : FnScope N ps (defScope st)) (hl : ∀ as g R, S as g R → as.length = ps.length)
    (hb : ∀ (f : Addr) (cdv : Value) (A : Around) (outer : List Env) (s : Shared) (H : Hp) (E : XK), Room k (A.deeper (envOfC x (defScope st) s.heap.objs.size f cdv)) → VSs (cxOf CX0 P w K mg base N x (defScope st) f cdv A outer s H E).nox (defBody st) W)
    (hw : ∀ as g R, S as g R → W (endV R) (startV N.length as) g) (hn : ps.length ≤ N.length := by decide) : Ck P w K mg base x ps (k + 1) S := by
  obtain ⟨f, fd, F, b, m⟩ := D.ex
  exact ⟨f, fd, fn_v F sc hl (hb f) hw hn, b, m, F.kp⟩
end
section
variable {X : Cx} {e : Expr} {es : List Expr} {pos : Pos}
theorem v_callC {k : Nat} {ps : List Str} {S : VSp} {V : WP} {x : Str} {p : Pos} (C : Ck X.prog X.w X.K X.mg X.base x ps k S) (hr : Room k X.A) (hg : Gl X x) (ha : VP X (e :: es) V) (hdb : (x == ("__debug__" : Str)) = false := by decide)
    (he : starEach (e :: es) X.env = (false, eval e X.env) :: starEach es X.env := by rfl) (hpl : (backTo pos (starEach es X.env)).any (·.1) = false := by rfl) : VE X (.Call (.Name x p) (e :: es) [] pos) (wFn S V) := by
  obtain ⟨f, fd, F, b, m, kp⟩ := C.ex
  exact v_call F hr hg m kp b pass0 ha hdb he hpl
end
end Vl
/-! V7: parallel stores, tuple targets, append; the pen: what its defs' bodies do. -/
namespace Vl
open PySem PySem.Spec PyProof.Rows L2

section
variable {X : Cx} {e a b c : Expr} {es : List Expr} {pos : Pos} {W Wa Wb : WE}
theorem vg_tupn {k : Nat} {js : List Nat} {Gs : WGs} (h : VGs X es js Gs) (hc : X.calm = true := by rfl) (hn : (assignEach es X.env).length = es.length := by rfl) (hst : (assignEach es X.env).findIdx? (·.1) = none := by rfl) : VG X (.Tuple es k pos) js (gT es.length Gs) :=
  vg_tup hc h rfl (pg_tup hc h hn hst)
theorem vs_par2 (i j : Nat) {x y : Str} {px py pt : Pos} {kt k2 pt2} (hc : X.calm = true) (hN : X.N.Nodup) (ha : VE X a Wa) (hb : VE X b Wb) (hi : X.N[i]? = some x := by rfl) (hj : X.N[j]? = some y := by rfl) (hij : i ≠ j := by decide)
    (hx : X.env.scope.names.lookup x = some .local := by rfl) (hy : X.env.scope.names.lookup y = some .local := by rfl) (hw : swappedStores [.Tuple [.Name x px, .Name y py] kt pt] (.Tuple [a, b] k2 pt2) X.env = pure (some [x, y]) := by rfl)
    (hs : swapsWithSole [.Tuple [.Name x px, .Name y py] kt pt] (.Tuple [a, b] k2 pt2) pos.line X.env = pure false := by rfl) (h1 : starEach [a, b] X.env = (false, eval a X.env) :: starEach [b] X.env := by rfl) (h2 : starEach [b] X.env = (false, eval b X.env) :: starEach [] X.env := by rfl) :
    VS X (.Assign [.Tuple [.Name x px, .Name y py] kt pt] (.Tuple [a, b] k2 pt2) pos) (sPar i j Wa Wb) := ps_weak (ps_par hc hN hi hj hij hx hy (pa_cons ha (pa_cons hb pa_nil h2) h1) hw hs) tS_par
def sPar2O (i j : Nat) (W1 : WL) (W2 : WE) : WS := fun V ρ g => W1 ρ g fun ds g1 => W2 ρ g1 fun d2 g2 => V.nx ((ρ.set i (.own ds)).set j (.val d2)) g2
theorem tS_par2O {K : PySem.W.Frag} {i j : Nat} {W1 : WL} {W2 : WE} : ∀ D σ H, tS K (sPar2O i j W1 W2) D σ H → tPar i j (tCons (tL K W1) (tCons (tE K W2) tNil)) D σ H := fun D σ H ⟨a, H0, O0, O, ρ, g, V, r, w, en⟩ =>
  ⟨a, H0, O0, O, ρ, g, _, r, w, fun ds g1 p xs H1 k1 r1 hp hx d1 w1 => ⟨a, H0, O0, p :: O, ρ, g1, _, r1, w1, fun d2 g2 v2 H2 k2 r2 dd2 w2 => by
    have npa : p ≠ a := fun z => r.pen.live (z ▸ hp)
    refine ⟨.ref p, v2, rfl, en.nx (p :: O) _ g2 _ H2 (fun b o e => ?_) ((r2.setOwn List.mem_cons_self (r.freshH hp) (k2 p _ npa hx) (d1.to (off_kp k2)) fun m es hm hs e => ?_).setVal dd2) w2⟩
    · obtain ⟨n, e⟩ := off_some.mp e
      have na : b ≠ a := fun z => n (by rw [z]; exact List.mem_cons_self)
      refine off_in (fun z => ?_) ((k1.trans k2) b o na e)
      rcases List.mem_cons.mp z with z | z
      · exact na z
      · rcases List.mem_cons.mp z with z | z
        · rw [z, hp] at e
          cases e
        · exact n (List.mem_cons_of_mem _ z)
    · obtain ⟨q, _, e', hq, _⟩ := r.slot m _ hs
      rw [e] at e'
      cases e'
      exact r.live p hq hp⟩⟩
theorem vs_par2O (i j : Nat) {x y : Str} {px py pt : Pos} {kt k2 pt2} {V : WL} (hc : X.calm = true) (hN : X.N.Nodup) (ha : VL X a V) (hb : VE X b Wb) (hi : X.N[i]? = some x := by rfl) (hj : X.N[j]? = some y := by rfl) (hij : i ≠ j := by decide)
    (hx : X.env.scope.names.lookup x = some .local := by rfl) (hy : X.env.scope.names.lookup y = some .local := by rfl) (hw : swappedStores [.Tuple [.Name x px, .Name y py] kt pt] (.Tuple [a, b] k2 pt2) X.env = pure (some [x, y]) := by rfl)
    (hs : swapsWithSole [.Tuple [.Name x px, .Name y py] kt pt] (.Tuple [a, b] k2 pt2) pos.line X.env = pure false := by rfl) (h1 : starEach [a, b] X.env = (false, eval a X.env) :: starEach [b] X.env := by rfl) (h2 : starEach [b] X.env = (false, eval b X.env) :: starEach [] X.env := by rfl) :
    VS X (.Assign [.Tuple [.Name x px, .Name y py] kt pt] (.Tuple [a, b] k2 pt2) pos) (sPar2O i j V Wb) := ps_weak (ps_par hc hN hi hj hij hx hy (pa_cons ha (pa_cons hb pa_nil h2) h1) hw hs) tS_par2O
theorem vs_par3O (i j l : Nat) {x y z : Str} {px py pz pt : Pos} {kt k2 pt2} {V : WL} {Wc : WE} (hc : X.calm = true) (hN : X.N.Nodup) (ha : VL X a V) (hb : VE X b Wb) (hcc : VE X c Wc) (hi : X.N[i]? = some x := by rfl) (hj : X.N[j]? = some y := by rfl) (hl : X.N[l]? = some z := by rfl) (hij : i ≠ j := by decide) (hil : i ≠ l := by decide) (hjl : j ≠ l := by decide)
    (hx : X.env.scope.names.lookup x = some .local := by rfl) (hy : X.env.scope.names.lookup y = some .local := by rfl) (hz : X.env.scope.names.lookup z = some .local := by rfl) (hw : swappedStores [.Tuple [.Name x px, .Name y py, .Name z pz] kt pt] (.Tuple [a, b, c] k2 pt2) X.env = pure (some [x, y, z]) := by rfl)
    (hs : swapsWithSole [.Tuple [.Name x px, .Name y py, .Name z pz] kt pt] (.Tuple [a, b, c] k2 pt2) pos.line X.env = pure false := by rfl) (h1 : starEach [a, b, c] X.env = (false, eval a X.env) :: starEach [b, c] X.env := by rfl) (h2 : starEach [b, c] X.env = (false, eval b X.env) :: starEach [c] X.env := by rfl) (h3 : starEach [c] X.env = (false, eval c X.env) :: starEach [] X.env := by rfl) :
    VS X (.Assign [.Tuple [.Name x px, .Name y py, .Name z pz] kt pt] (.Tuple [a, b, c] k2 pt2) pos) (sPar3 i j l V Wb Wc) := ps_weak (ps_par3 hc hN hi hj hl hij hil hjl hx hy hz (pa_cons ha (pa_cons hb (pa_cons hcc pa_nil h3) h2) h1) hw hs) tS_par3
end

/-! ### the pen's defs: their readings, apart from any text -/
/-- built-in names that no def of the text hides -/
structure Bi (mg : Str → Option Value) : Prop where
  b_len : mg "len" = none
  b_int : mg "int" = none
  b_tuple : mg "tuple" = none
  b_list : mg "list" = none
  b_repr : mg "repr" = none
  b_isinstance : mg "isinstance" = none
  b_range : mg "range" = none
  b_zip : mg "zip" = none
  b_enumerate : mg "enumerate" = none
  b_any : mg "any" = none
  b_all : mg "all" = none
  b_sorted : mg "sorted" = none
  b_set : mg "set" = none
  b_bool : mg "bool" = none
  b_str : mg "str" = none
theorem boot_int' : bootBuiltins "int" = some (.type "int") := by decide +kernel

def spSpread : VSp := fun as g R => ∃ (cell : Int) (at' : Nat), as = [.val (.int cell), .val (.int (at' : Int))] ∧ at' ≤ LIM ∧ ∀ z, R (.int z) g
def spTake : VSp := fun as g R => ∃ n, as = [.pen, .val (.int n)] ∧ (0 < n ∧ n < 1000000000) ∧ g < LIM ∧ ∀ r, 0 ≤ r → r < n → R (.int r) (g + 1)
/-- at + at most 10 ** 9 -/
theorem lim_lt : LIM < 4294967296 := by decide
end Vl
namespace Vl
open PySem PySem.Spec PyProof.Rows L2
theorem startV_one (N : Nat) (as : Rho) : startV N as = as ++ List.replicate (N - as.length) Sl.un := rfl
theorem fIx_mem {xs : List PyData} {i : Int} {R : PyData → Prop} (h0 : 0 ≤ i) (h1 : i < xs.length) (h : ∀ d ∈ xs, R d) : fIx (.list xs) (.int i) R := by
  obtain ⟨j, rfl⟩ := Int.eq_ofNat_of_zero_le h0
  have hj : j < xs.length := by omega
  exact ⟨xs, xs[j], rfl, atI_nat (List.getElem?_eq_getElem hj), h _ (List.getElem_mem hj)⟩
theorem fIx_at {xs : List PyData} {j : Nat} {d : PyData} {R : PyData → Prop} (h : xs[j]? = some d) (q : R d) : fIx (.list xs) (.int (j : Int)) R := ⟨xs, d, rfl, atI_nat h, q⟩
theorem fIxT_at {xs : List PyData} {j : Nat} {d : PyData} {R : PyData → Prop} (h : xs[j]? = some d) (q : R d) : fIx (.tuple xs) (.int (j : Int)) R := ⟨xs, d, rfl, atI_nat h, q⟩
theorem fIxT_mem {xs : List PyData} {i : Int} {R : PyData → Prop} (h0 : 0 ≤ i) (h1 : i < xs.length) (h : ∀ d ∈ xs, R d) : fIx (.tuple xs) (.int i) R := by
  obtain ⟨j, rfl⟩ := Int.eq_ofNat_of_zero_le h0
  have hj : j < xs.length := by omega
  exact ⟨xs, xs[j], rfl, atI_nat (List.getElem?_eq_getElem hj), h _ (List.getElem_mem hj)⟩
end Vl
/-! V8: what the words of data are at known data (for simp). -/
namespace Vl
open PySem PySem.Spec PyProof.Rows L2
section
variable {i j : Int} {xs ys : List PyData} {R : PyData → Prop} {g : Int → Int → PyData} {C : Int → Int → Prop} {b c : Bool} {x y : Str} {d e : PyData}
theorem e_fII : fII g C (.int i) (.int j) R = (C i j ∧ R (g i j)) := rfl
theorem e_addI : fAdd (.int i) (.int j) R = R (.int (i + j)) := rfl
theorem e_addT : fAdd (.tuple xs) (.tuple ys) R = (xs.length + ys.length ≤ sizeLine ∧ R (.tuple (xs ++ ys))) := rfl
theorem e_addL : fAdd (.list xs) (.list ys) R = (xs.length + ys.length ≤ sizeLine ∧ R (.list (xs ++ ys))) := rfl
theorem e_intI : fInt [.int i] R = R (.int i) := rfl
theorem e_intB : fInt [.bool b] R = R (.int (if b = true then 1 else 0)) := rfl
theorem e_mulT : fMulT (.tuple xs) (.int i) R = ((1 ≤ i ∧ i ≤ 1000 ∧ xs ≠ [] ∧ xs.length ≤ 1000) ∧ R (.tuple (List.replicate i.toNat xs).flatten)) := rfl
theorem e_mulL : fMulL (.list xs) (.int i) R = ((-(2 ^ 63) ≤ i ∧ i < 2 ^ 63 ∧ xs.length * i.toNat ≤ sizeLine) ∧ R (.list (List.replicate i.toNat xs).flatten)) := rfl
theorem e_lenL : fLen [.list xs] R = R (.int xs.length) := propext ⟨fun ⟨_, _, h1, h2, h3⟩ => by cases h1; cases h2; exact h3, fun h => ⟨_, _, rfl, rfl, h⟩⟩
theorem e_lenT : fLen [.tuple xs] R = R (.int xs.length) := propext ⟨fun ⟨_, _, h1, h2, h3⟩ => by cases h1; cases h2; exact h3, fun h => ⟨_, _, rfl, rfl, h⟩⟩
theorem e_tupL : fTuple [.list xs] R = R (.tuple xs) := propext ⟨fun ⟨_, _, h1, h2, h3⟩ => by cases h1; cases h2; exact h3, fun h => ⟨_, _, rfl, rfl, h⟩⟩
theorem e_tupT : fTuple [.tuple xs] R = R (.tuple xs) := propext ⟨fun ⟨_, _, h1, h2, h3⟩ => by cases h1; cases h2; exact h3, fun h => ⟨_, _, rfl, rfl, h⟩⟩
theorem e_eqI : fEq (.int i) (.int j) R = R (.bool (i == j)) := propext ⟨fun h => h.2, fun h => ⟨⟨rfl, rfl, by simp [PyData.depth]⟩, h⟩⟩
theorem e_neI : fNe (.int i) (.int j) R = R (.bool (!(i == j))) := propext ⟨fun h => h.2, fun h => ⟨⟨rfl, rfl, by simp [PyData.depth]⟩, h⟩⟩
theorem e_eqB : fEq (.bool b) (.bool c) R = R (.bool (b == c)) := propext ⟨fun h => h.2, fun h => ⟨⟨rfl, rfl, by simp [PyData.depth]⟩, h⟩⟩
theorem e_neB : fNe (.bool b) (.bool c) R = R (.bool (!(b == c))) := propext ⟨fun h => h.2, fun h => ⟨⟨rfl, rfl, by simp [PyData.depth]⟩, h⟩⟩
theorem e_eqS : fEq (.str x) (.str y) R = R (.bool (x == y)) := propext ⟨fun h => h.2, fun h => ⟨⟨rfl, rfl, by simp [PyData.depth]⟩, h⟩⟩
theorem e_neS : fNe (.str x) (.str y) R = R (.bool (!(x == y))) := propext ⟨fun h => h.2, fun h => ⟨⟨rfl, rfl, by simp [PyData.depth]⟩, h⟩⟩
end
/-- two blocks with a word between them, shown once -/
def tJoin (t u : TS) : TS := fun D σ H => ∃ M : L2.St → Hp → Prop, t ⟨M, D.rt, D.bk, D.ct⟩ σ H ∧ ∀ σ' H', M σ' H' → u D σ' H'
theorem pss_join {X : Cx} {st : Stmt} {rest : List Stmt} {t u : TS} (h1 : PS X st t) (h2 : PSs X rest u) : PSs X (st :: rest) (tJoin t u) := ⟨fun pins s σ H D I ⟨M, hm, hu⟩ => by
  refine wpAny_execs_cons (thn (h1.run pins s σ H ⟨M, D.rt, D.bk, D.ct⟩ I hm) fun f s1 q => ?_)
  cases f with
  | next =>
    obtain ⟨σ', H', I', q⟩ := q
    exact h2.run pins s1 σ' H' D I' (hu σ' H' q)
  | ret v => exact q
  | brk => exact q
  | cont => exact q⟩
theorem pow_ok {a : Int} {n : Nat} (h : a.natAbs < 2 ^ 64) (hn : (n : Int) ≤ 1000000) : CPow a n := ⟨Int.natCast_nonneg n, hn, h⟩
theorem mulR {a b : Int} (h1 : -(2 ^ 64) < b) (h2 : b < 2 ^ 64) : CMul a b := .inr ⟨h1, h2⟩
theorem mulL {a b : Int} (h1 : -(2 ^ 64) < a) (h2 : a < 2 ^ 64) : CMul a b := .inl ⟨h1, h2⟩
/-- a product of two that are not below nought -/
theorem prod_le {a b A B : Int} (ha : 0 ≤ a) (hA : a ≤ A) (hb : 0 ≤ b) (hB : b ≤ B) : 0 ≤ a * b ∧ a * b ≤ A * B :=
  ⟨Int.mul_nonneg ha hb, Int.mul_le_mul hA hB hb (Int.le_trans ha hA)⟩
end Vl
/-! V9: the end: a law's def run at the outermost call (no guards), sys.modules known to the base. -/
namespace Vl
open PySem PySem.Spec PyProof.Rows L2

def sysAt (h : Heap) : Option Value := (h.get? sysModules).map (·.cls)
def SysD (h : Heap) : Prop := ∃ o, h.get? sysModules = some o ∧ o.cls = .type "dict"
/-- a hook that looks at sys.modules, too -/
def hookS (H : PySem.W.Hook) : PySem.W.Hook :=
  ⟨H.α × Option Value, fun s => (H.obs s, sysAt s.heap), fun w => (H.val w, some (.type "dict")), fun w h => H.says w h ∧ SysD h,
    fun w s e => ⟨H.of w s (congrArg Prod.fst e), by
      have e2 : (s.heap.get? sysModules).map (·.cls) = some (.type "dict") := congrArg Prod.snd e
      exact Option.map_eq_some_iff.mp e2⟩,
    fun w h h' ⟨y, o, e, c⟩ k => ⟨H.keeps w h h' y k, o, k _ _ e, c⟩⟩

/-- a def's promise where it is called with no guard held -/
structure FnG (P : Program) (w : World) (K : PySem.W.Frag) (mg : Str → Option Value) (base : Heap) (k : Nat) (f : Addr) (fd : FuncData) (ps : List Str) (sp : Sp) : Prop where
  run : ∀ (A : Around) (outer : List Env) (s : Shared) (H : Hp) (args : Args) (us : List Value) (vs : List V) (Q : VK) (E : XK), A.guards = some [] → Room k A → Env0 P w K mg base A outer s H →
    BindsTo s fd args (ps.zip us) → Vals vs us → sp vs H Q E → codeAny (model P w) A (.call (.ref f) args) (CR CX0 outer P w H s Q E) s
theorem fn_g {P : Program} {w : World} {K : PySem.W.Frag} {mg : Str → Option Value} {base : Heap} {k : Nat} {f : Addr} {fd : FuncData} {x qual : Str} {st : Stmt} {N ps : List Str} {sp : Sp} (F : Fun K x qual st f fd) (S : FnScope N ps (defScope st))
    (len : ∀ vs H Q E, sp vs H Q E → vs.length = ps.length)
    (hbody : ∀ (cdv : Value) (A : Around) (outer : List Env) (s : Shared) (H : Hp) (vs : List V) (Q : VK) (E : XK), A.guards = some [] → Room k (A.deeper (envOfC qual (defScope st) s.heap.objs.size f cdv)) → sp vs H Q E →
      ∃ t, PSs (cxOf CX0 P w K mg base N qual (defScope st) f cdv A outer s H E).nox (defBody st) t ∧ t { nx := fun _ H' => Q .non H', rt := Q } (start N vs) H) :
    FnG P w K mg base (k + 1) f fd ps sp := by
  obtain ⟨oc, od, kV, doc, pm, an, cdv, ct, osl, rfl, lk, hcd⟩ := F.ex
  constructor
  intro A outer s H args us vs Q E hgd hr e0 hb r hsp
  have hl := len _ _ _ _ hsp
  have KX := e0.mod.kin.keeps fun b o e => (e0.bs b o e).1
  have lim := e0.mod.nolimit.keeps fun b o e => (e0.bs b o e).1
  have hkind : ∀ y ∈ ps.zip us, (defScope st).names.lookup y.1 = some .local ∨ ((defScope st).names.lookup y.1 = some .cell ∧ ((cellsFrom (s.heap.objs.size + 1) (defScope st).names []).lookup y.1).isSome = true) := by
    rintro ⟨n, v⟩ hy
    have hm := (List.of_mem_zip hy).1
    cases S.par n hm with
    | inl q => exact .inl q
    | inr q => exact .inr ⟨q, PySem.W.cellsFrom_some _ _ _ (.inl q)⟩
  apply codeAny_call_function hr.depth (KX _ _ lk) rfl S.co S.gen rfl (PySem.W.codeRec_of KX hcd)
  apply hb
  apply wpAny_newFunctionEnv_cells S.kind hkind
  intro env he s1 x1
  subst he
  refine ⟨lim.keeps x1.toInCall.keep, ?_⟩
  apply codeAny_func
  obtain ⟨t, ht', hq⟩ := hbody cdv A outer s H vs Q E hgd (hr.deeper _) hsp
  have ht : PSs (cxOf CX0 P w K mg base N qual (defScope st) f cdv A outer s H E) (defBody st) t := ht'.nox
  have I := inv_start (E := E) (CX := CX0) S hr.hd e0 hl r x1
  apply wpAny_mono (ht.run [] s1 (start N vs) H _ I hq) _ fun e s' hs => hs
  intro fl s' hs
  have fin : ∀ {σ' : L2.St} {H' : Hp} {v : V} {u : Value}, Inv (cxOf CX0 P w K mg base N qual (defScope st) f cdv A outer s H E) [] σ' H' s' → RelV v u → Q v H' → CE outer P w H s Q u s' :=
    fun J rv q => ⟨_, _, J.os, J.bare, J.base, J.hok, rv, q⟩
  cases fl with
  | brk => obtain ⟨_, _, _, q⟩ := hs; exact q.elim
  | cont => obtain ⟨_, _, _, q⟩ := hs; exact q.elim
  | next =>
    obtain ⟨_, _, J, q⟩ := hs
    exact fin (v := V.non) (u := Value.none) J rfl q
  | ret u =>
    obtain ⟨v, _, _, J, rv, q⟩ := hs
    exact fin J rv q

/-- the law's promise, at the heap behind the top, sys.modules known -/
theorem call_g {P : Program} {w : World} {K : PySem.W.Frag} {mg mb : Str → Option Value} {k : Nat} {fa a : Addr} {fd : FuncData} {x : Str} {sp : Sp} {s1 : Shared} {vs : List Value} {ns : List Int}
    (KX : K.In s1.heap) (hsy : SysD s1.heap) (hns : s1.heap.Ns mainGlobals mg) (hb : s1.heap.Ns builtinsNs mb) (hbb : ∀ x : Str, x ≠ "__name__" → mb x = bootBuiltins x) (hlim : s1.heap.NoLimit) (hg : s1.gens = #[])
    (ha : s1.heap.get? a = some { cls := .type "list", data := .seq vs.toArray }) (hi : IntsAre vs ns) (hl : ns.length ≤ sizeLine) (hr : Room k callerA)
    (F : ∀ base : Heap, K.In base → base.Ns mainGlobals mg → SysD base → FnG P w K mg base k fa fd [x] sp) (hbind : ∀ (s : Shared) (u : Value), BindsTo s fd ⟨[u], []⟩ [(x, u)])
    (hsp : ∀ H : Hp, Only H → SqL K H a (ns.map V.int) → sp [.ref a] H (fun v _ => v = .bl true) fun _ _ _ => False) :
    codeAny (model P w) callerA (.call (.ref fa) ⟨[.ref a], []⟩) (fun r s' => r = .ok (.ret (.bool true)) ∧ OldK s1.heap s'.heap ∧ s'.os = s1.os ∧ AllBare s'.gens) s1 := by
  have rv := vals_ints hi
  have lenV := hi.length
  have main : ∀ H : Hp, Only H → SqL K H a (ns.map V.int) → HOk P w H s1.heap → (∀ b, H b ≠ none → b = a) → (H a ≠ none → K.lookup a = none) →
      codeAny (model P w) callerA (.call (.ref fa) ⟨[.ref a], []⟩) (fun r s' => r = .ok (.ret (.bool true)) ∧ OldK s1.heap s'.heap ∧ s'.os = s1.os ∧ AllBare s'.gens) s1 := by
    intro H hO hS hok hA hK
    have free : ∀ {b : Addr}, (b = a → False) → H b = none := fun {b} hb => by
      cases q : H b with
      | none => rfl
      | some u => exact (hb (hA b (by rw [q]; exact fun z => nomatch z))).elim
    have low : ∀ {b : Addr} {o : Obj}, s1.heap.get? b = some o → (b = a → False) → (hidT s1.heap H).get? b = some o := fun e n => hidT_get e (free n)
    have notL : ∀ {b : Addr} {o : Obj}, s1.heap.get? b = some o → b = a → o = { cls := .type "list", data := .seq vs.toArray } := fun {b o} e z => by
      rw [z, ha] at e
      exact (Option.some.inj e).symm
    have nsK : ∀ {b : Addr} {m : Str → Option Value}, s1.heap.Ns b m → (hidT s1.heap H).Ns b m := by
      rintro b m ⟨o, es, ep, e, d, r⟩
      exact ⟨o, es, ep, low e (fun z => by rw [notL e z] at d; cases d), d, r⟩
    have hKb : K.In (hidT s1.heap H) := fun b o e => by
      apply hidT_get (KX b o e)
      cases q : H b with
      | none => rfl
      | some u =>
        have z : b = a := hA b (by rw [q]; exact fun z => nomatch z)
        subst z
        rw [hK (by rw [q]; exact fun z => nomatch z)] at e
        cases e
    have hSb : SysD (hidT s1.heap H) := by
      obtain ⟨o, e, c⟩ := hsy
      refine ⟨o, low e (fun z => ?_), c⟩
      rw [notL e z] at c
      exact absurd (show ("list" : String) = "dict" from Value.type.inj c) (by decide)
    have hM : Mod K mg (hidT s1.heap H) := ⟨hKb, nsK hns, ⟨mb, nsK hb, hbb⟩, by
      obtain ⟨mc, h1, h2⟩ := hlim
      exact ⟨mc, nsK h1, h2⟩⟩
    have e0 : Env0 P w K mg (hidT s1.heap H) callerA [] s1 H := ⟨rfl, hM, fun b o e => of_hidT e, Nat.le_of_eq (hidT_size _ _), trivial, fun b hb => (nomatch hb), hok, .of_eq hg⟩
    refine codeAny_mono ((F _ hKb (nsK hns) hSb).run callerA [] s1 H ⟨[.ref a], []⟩ [.ref a] [.ref a] _ _ rfl hr e0 (hbind s1 (.ref a)) (.cons rfl .nil) (hsp H hO hS)) fun r s' h => ?_
    cases r with
    | error e => exact False.elim h
    | ok fl =>
      cases fl with
      | next => exact False.elim h
      | brk => exact False.elim h
      | cont => exact False.elim h
      | ret u =>
        obtain ⟨v, H', os, bare, un, hok', r', q⟩ := h
        have q' : v = .bl true := q
        subst q'
        obtain rfl : u = Value.bool true := r'
        refine ⟨rfl, OldK.of_keep fun b o e => ?_, os, bare⟩
        cases q : H b with
        | none => exact un.keep b o e q (fun z => nomatch z) (fun z => nomatch z)
        | some u =>
          cases hO b with
          | inl z => rw [q] at z; cases z
          | inr z =>
            obtain ⟨ob, xs, z⟩ := z
            have e1 := (hok b _ z).1
            have e2 := (hok' b _ (un.frzs b ob _ z)).1
            rw [e] at e1
            rw [Option.some.inj e1]
            exact e2
  cases hk : K.lookup a with
  | some o =>
    have e := KX a o hk
    rw [ha] at e
    cases e
    exact main (fun _ => none) (fun _ => .inl rfl) (.inr ⟨_, vs.toArray, _, hk, rfl, rfl, rfl, by rw [List.size_toArray, lenV]; exact hl, by simpa using rv⟩) (fun b u z => (nomatch z)) (fun b z => absurd rfl z) fun z => absurd rfl z
  | none =>
    have one : ∀ {b : Addr} {u : HO}, (if b = a then some (HO.frz { cls := .type "list", data := .seq vs.toArray } (.lst (ns.map V.int))) else none) = some u → b = a ∧ u = HO.frz { cls := .type "list", data := .seq vs.toArray } (.lst (ns.map V.int)) := fun {b u} z => by
      by_cases hb : b = a
      · rw [if_pos hb] at z
        exact ⟨hb, (Option.some.inj z).symm⟩
      · rw [if_neg hb] at z
        cases z
    refine main (fun b => if b = a then some (.frz { cls := .type "list", data := .seq vs.toArray } (.lst (ns.map V.int))) else none) (fun b => ?_) (.inl (.inr ⟨{ cls := .type "list", data := .seq vs.toArray }, if_pos rfl⟩)) (fun b u z => ?_) (fun b z => ?_) fun _ => hk
    · by_cases hb : b = a
      · exact .inr ⟨_, _, if_pos hb⟩
      · exact .inl (if_neg hb)
    · obtain ⟨rfl, rfl⟩ := one z
      exact ⟨ha, by rw [List.length_map]; exact hl, vs, _, rv, ha⟩
    · by_cases hb : b = a
      · exact hb
      · exact absurd (if_neg hb) z
theorem walk_g {l : PySem.W.OpenLaw} {n k : Nat} {q : Program} {loose : List Str} {XP : (Str → Option Value) → Heap → Prop} {YP : World → Heap → Prop} {d : DefRec} {K : Params → PySem.W.Frag} {sp : PySem.W.Frag → Sp} {x : Str}
    (hn : l.most = some n) (hn2 : n ≤ sizeLine) (hdf : d.params.defaults = []) (hr : Room k callerA) (hY : ∀ (w : World) (h : Heap), YP w h → (K w.params).In h ∧ SysD h)
    (F : ∀ (w : World) (mg : Str → Option Value) (fa : Addr) (h : Heap), (K w.params).In h → h.Ns mainGlobals mg → mg d.name = some (.ref fa) →
      ∃ fd : FuncData, (∀ (s : Shared) (u : Value), BindsTo s fd ⟨[u], []⟩ [(x, u)]) ∧ ∀ base : Heap, (K w.params).In base → base.Ns mainGlobals mg → SysD base → FnG l.prog w (K w.params) mg base k fa fd [x] (sp (K w.params)))
    (hsp : ∀ (K : PySem.W.Frag) (H : Hp) (a : Addr) (ns : List Int), ns.length ≤ n → Only H → SqL K H a (ns.map V.int) → sp K [.ref a] H (fun v _ => v = .bl true) fun _ _ _ => False) :
    PySem.W.WalkO q loose XP YP l.row.toRowW d [] (fun f vs => PySem.call f vs) := by
  apply Att.attach_call hn hdf
  intro w s0 s1 mg mb fa o pm cd doc a vs ns G Y ho hd hcd hmg hobj hints hlen hg
  obtain ⟨KX, SX⟩ := hY w _ Y
  obtain ⟨fd, hb, hF⟩ := F w mg fa _ KX G.T.g hmg
  exact call_g KX SX G.T.g G.T.b G.T.builtins G.T.nolimit hg hobj hints (Nat.le_trans hlen hn2) hr hF hb fun H hO hS => hsp (K w.params) H a ns hlen hO hS
end Vl
/-! V10: exceptions of the program, held as values. -/
namespace Vl
open PySem PySem.Spec PyProof.Rows L2

/-- what the text says of an own exception class: how it is made, read, asked for -/
structure ExK (K : PySem.W.Frag) (C : Addr) : Prop where
  T : OexC K C
  xf : XfC K C
  is : ExcC K C
structure MkC (K : PySem.W.Frag) (C fI : Addr) : Prop where
  iC : PySem.W.findIn K (.ref C) "__init__" = some (some (.ref fI))
  tI : PySem.W.typeIn K (.ref fI) = some (.type "function")
/-- __init__(self, y): self.f = y -/
def spIni (K : PySem.W.Frag) (f : Str) : Sp := fun vs H Q _ => ∃ (a C : Addr) (y : V), vs = [.ref a, y] ∧ OexC K C ∧ PySem.W.findIn K (.ref C) f = some none ∧ H a = some (exo a C none) ∧
  ∀ dx, H dx = none → dx ≠ a → Q .non (upd (upd H dx (exd dx [(f, y)])) a (exo a C (some dx)))
/-- __init__(self): nothing -/
def spIni0 : Sp := fun vs H Q _ => ∃ a : Addr, vs = [.ref a] ∧ Q .non H
def tEx (C : Addr) (sp : Sp) (ta : TA) : TE := fun σ H Q => ta σ H fun vs H1 => vs.length ≤ 1000 ∧ ∀ a, H1 a = none → sp (.ref a :: vs) (upd H1 a (exo a C none)) (fun v H2 => v = .non ∧ Q (.ref a) H2) (fun _ _ _ => False)
section
variable {X : Cx} {x : Str} {C fI : Addr} {k : Nat} {fd : FuncData} {ps : List Str} {sp : Sp} {p pos : Pos} {e : Expr} {es : List Expr} {ta : TA}
theorem mk_call (T : OexC X.K C) (M : MkC X.K C fI) (F1 : FnOk X.prog X.w X.K X.mg X.base CX0 k fI fd ps sp) (hr : Room (k + 1) X.A) (hb : Binds X.K fd ps [])
    {pins : List (Addr × Obj)} {σ : L2.St} {H1 : Hp} {s1 : Shared} {vs : List V} {us : List Value} {Q : VK} (I1 : Inv X pins σ H1 s1) (r1 : Vals vs us) (hz : vs.length ≤ 1000)
    (q1 : ∀ a, H1 a = none → sp (.ref a :: vs) (upd H1 a (exo a C none)) (fun v H2 => v = .non ∧ Q (.ref a) H2) (fun _ _ _ => False)) :
    wpAny (model X.prog X.w) X.A (call (.ref C) us) (EP X pins σ Q) X.xe s1 := by
  obtain ⟨nm, qn, N, bs, bm, sn, sub, ab, col, dd, k0, k1, k2, k3, k5, hC, hbm⟩ := T.cls
  obtain ⟨hp, g, dr, tk, os⟩ := s1
  have hsz : hp.objs.size ≤ hp.objs.size + 1 := Nat.le_succ _
  have hn : H1 (hp.objs.size + 1) = none := I1.hok.fresh hsz
  have hq := q1 (hp.objs.size + 1) hn
  have hget : ((hp.push (PySem.W.kdv_tup us)).push (PySem.HandSPX.excO C hp.objs.size)).get? (hp.objs.size + 1) = some (PySem.HandSPX.excO C hp.objs.size) := by heap_get
  have I2 : Inv X pins σ (upd H1 (hp.objs.size + 1) (exo (hp.objs.size + 1) C none)) ⟨(hp.push (PySem.W.kdv_tup us)).push (PySem.HandSPX.excO C hp.objs.size), g, dr, tk, os⟩ :=
    I1.laid (t' := tk) (a := hp.objs.size + 1) (o := exo (hp.objs.size + 1) C none) (h' := (hp.push (PySem.W.kdv_tup us)).push (PySem.HandSPX.excO C hp.objs.size))
      (fun b o e => Heap.get?_push_of_some _ (Heap.get?_push_of_some _ e)) hsz (exo_ok hget)
  have r2 : Vals (V.ref (hp.objs.size + 1) :: vs) (Value.ref (hp.objs.size + 1) :: us) := .cons rfl r1
  have hlen : (Value.ref (hp.objs.size + 1) :: us).length = ps.length := by
    rw [← r2.length]
    exact F1.len _ _ _ _ hq
  have hus : us.length ≤ sizeLine := by
    rw [← r1.length, sizeLine_eq]
    omega
  have hb2 := hb _ (Value.ref (hp.objs.size + 1) :: us) I2.kIn (by rw [List.append_nil]; exact hlen)
  rw [List.append_nil] at hb2
  apply wpAny_call
  refine PySem.HandSPX.call_own F.excBase_ValueError (fun Y => PySem.HandSPX.refsVE_contains Y bm hbm) (I1.kIn _ _ hC) (PySem.W.looks_findIn I1.kIn M.iC) (fun self => PySem.W.bind_fn I1.kIn self M.tI) hus ?_
  refine codeAny_mono (F1.run _ X.stack _ _ ⟨Value.ref (hp.objs.size + 1) :: us, []⟩ (Value.ref (hp.objs.size + 1) :: us) _ _ (fun _ _ _ => False) (hr.make C us []) (I2.env0.make C us []) hb2 r2 hq) fun r s' hq' => ?_
  cases r with
  | error er => exact False.elim hq'
  | ok fl =>
    cases fl with
    | next => exact False.elim hq'
    | brk => exact False.elim hq'
    | cont => exact False.elim hq'
    | ret u =>
      obtain ⟨v, H2, os2, bare2, un2, hok2, rv, ev, q2⟩ := hq'
      subst ev
      exact ⟨rv, .ref (hp.objs.size + 1), H2, I2.call' (ch := []) os2 un2 hok2 bare2 (fun b z => (nomatch z)), rfl, q2⟩
theorem pe_ex (T : OexC X.K C) (M : MkC X.K C fI) (F1 : FnOk X.prog X.w X.K X.mg X.base CX0 k fI fd ps sp) (hr : Room (k + 1) X.A) (hb : Binds X.K fd ps []) (hg : Gl X x) (hm : X.mg x = some (.ref C)) (ha : PA X (e :: es) ta)
    (hdb : (x == ("__debug__" : Str)) = false := by decide) (he : starEach (e :: es) X.env = (false, eval e X.env) :: starEach es X.env := by rfl) (hpl : (backTo pos (starEach es X.env)).any (·.1) = false := by rfl) :
    PE X (.Call (.Name x p) (e :: es) [] pos) (tEx C sp ta) := by
  constructor
  intro pins s σ H Q I h
  apply wpAny_Call_Name_kw (ld_glob I hg hm ?_ hdb)
  exact PySem.W.callWith_K (h₀ := X.base) I.ok.mod.kin T.kC (thn (ha.run pos pins s σ H _ I h) fun us s1 ⟨vs, H1, I1, r1, hz, q1⟩ => ⟨I1.kIn, mk_call T M F1 hr hb I1 r1 hz q1⟩) he hpl
theorem pe_ex0 (T : OexC X.K C) (M : MkC X.K C fI) (F1 : FnOk X.prog X.w X.K X.mg X.base CX0 k fI fd ps sp) (hr : Room (k + 1) X.A) (hb : Binds X.K fd ps []) (hg : Gl X x) (hm : X.mg x = some (.ref C))
    (hdb : (x == ("__debug__" : Str)) = false := by decide) : PE X (.Call (.Name x p) [] [] pos) (tEx C sp tNil) := by
  constructor
  intro pins s σ H Q I h
  apply wpAny_Call_Name_kw (ld_glob I hg hm ?_ hdb)
  exact PySem.W.callWith_K0 I.kIn T.kC (mk_call (us := []) T M F1 hr hb I .nil h.1 h.2)

/-! ### fields, isinstance -/
def tAtx (K : PySem.W.Frag) (n : Str) (te : TE) : TE := fun σ H Q => te σ H fun x H1 => ∃ (a C dx : Addr) (fs : List (Str × V)) (v : V), x = .ref a ∧ XfC K C ∧ PySem.W.findIn K (.ref C) n = some none ∧
  H1 a = some (exo a C (some dx)) ∧ H1 dx = some (exd dx fs) ∧ fs.lookup n = some v ∧ Q v H1
theorem inst_at {K : PySem.W.Frag} {H : Hp} {h : Heap} {a C dx : Addr} {P : Program} {w : World} {fs : List (Str × V)} (hok : HOk P w H h) (ea : H a = some (exo a C (some dx))) (ed : H dx = some (exd dx fs)) :
    ∃ (oe od : Obj), PySem.W.InstAt h a oe C (some od) ∧ ∀ n v, fs.lookup n = some v → ∃ u, PySem.W.lookIn n od = some (some u) ∧ RelV v u := by
  obtain ⟨t0, hoe⟩ := exo_at hok ea
  obtain ⟨mA, hns, rel⟩ := exd_at hok ed
  obtain ⟨od, ho, hl⟩ := lookIn_ns hns
  refine ⟨_, od, ⟨hoe, rfl, rfl, ho⟩, fun n v l => ?_⟩
  obtain ⟨u, hu, ru⟩ := RelO.some_of (v := v) (o := mA n) (by rw [← l]; exact rel n)
  exact ⟨u, by rw [hl, hu], ru⟩
theorem inst_at0 {K : PySem.W.Frag} {H : Hp} {h : Heap} {a C : Addr} {P : Program} {w : World} (hok : HOk P w H h) (ea : H a = some (exo a C none)) : ∃ oe : Obj, PySem.W.InstAt h a oe C none := by
  obtain ⟨t0, hoe⟩ := exo_at hok ea
  exact ⟨_, hoe, rfl, rfl, trivial⟩
theorem pe_atx {te : TE} {n : Str} (h : PE X e te) (hb : attributeBase e n X.env (eval e X.env) = eval e X.env := by rfl) : PE X (.Attribute e n pos) (tAtx X.K n te) := by
  constructor
  intro pins s σ H Q I q
  apply attr_of hb
  refine thn (h.run pins s σ H _ I q) fun u s1 hh => ?_
  obtain ⟨x, H1, I1, rx, a, C, dx, fs, v, ex, T, hno, ea, ed, l, q⟩ := hh
  subst ex
  obtain rfl : u = Value.ref a := rx
  obtain ⟨oe, od, J, hl⟩ := inst_at (K := X.K) I1.hok ea ed
  obtain ⟨u, hu, ru⟩ := hl n v l
  exact HandSPX.exc_get I1.kIn J T.ga T.gg T.exC (PySem.W.findObj_own T.hdC hno rfl hu) (handed_of ru) ⟨v, H1, I1.tok _, ru, q⟩
def ExAt (H : Hp) (a D : Addr) : Prop := H a = some (exo a D none) ∨ ∃ (dx : Addr) (fs : List (Str × V)), H a = some (exo a D (some dx)) ∧ H dx = some (exd dx fs)
def rIsX (K : PySem.W.Frag) : List V → Hp → VK → Prop := fun xs H Q => ∃ (a D : Addr) (c : V) (cv : Value) (b : Bool), xs = [.ref a, c] ∧ ExAt H a D ∧ ExcC K D ∧ (∀ u, RelV c u → u = cv) ∧ PySem.W.kitOne K (.ref D) cv = some b ∧ Q (.bl b) H
theorem call_isX : CallR X (.builtin "isinstance") (rIsX X.K) := by
  intro pins s σ H xs us Q I r h
  obtain ⟨a, D, c, cv, b, rfl, ha, C, hcv, e, q⟩ := h
  obtain ⟨u1, u2, rfl, r1, r2⟩ := vals2 r
  cases r1
  have ec := hcv _ r2
  subst ec
  have hcl : (PySem.W.clsIn X.K D).isSome = true := by
    have hh := C.hd
    unfold PySem.W.hasDictIn at hh
    cases hc : PySem.W.clsIn X.K D with
    | some cd => rfl
    | none => rw [hc] at hh; cases hh
  have go : ∀ {oe : Obj} {od : Option Obj}, PySem.W.InstAt s.heap a oe D od → wpAny (model X.prog X.w) X.A (call (.builtin "isinstance") [.ref a, u2]) (EP X pins σ Q) X.xe s := fun {oe od} J =>
    PySem.W.kia_one (PySem.W.kitx_exc hcl C.hg C.hk C.hs C.ha C.hn C.ht C.hm) I.kIn J e (fun z => nomatch z) fun tk => ⟨.bl b, H, I.kept (t' := tk) fun _ _ z => z, rfl, q⟩
  cases ha with
  | inl h =>
    obtain ⟨oe, J⟩ := inst_at0 (K := X.K) I.hok h
    exact go J
  | inr h =>
    obtain ⟨dx, fs, h1, h2⟩ := h
    obtain ⟨oe, od, J, _⟩ := inst_at (K := X.K) I.hok h1 h2
    exact go J
end

/-! ### over data -/
structure Mk (P : Program) (w : World) (K : PySem.W.Frag) (mg : Str → Option Value) (base : Heap) (x : Str) (C : Addr) (k : Nat) (ps : List Str) (sp : Sp) : Prop where
  ek : ExK K C
  gm : mg x = some (.ref C)
  ex : ∃ (fI : Addr) (fd : FuncData), MkC K C fI ∧ FnOk P w K mg base CX0 k fI fd ps sp ∧ L2.Binds K fd ps []
section
variable {X : Cx} {x f : Str} {C : Addr} {k : Nat} {ps : List Str} {p p2 pos : Pos} {e : Expr} {W : WE}
def wEx (C : Addr) (f : Str) (W : WE) : WE := fun ρ g R => W ρ g fun d g1 => R (.dict (exD C [(.str f, d)])) g1
def wEx0 (C : Addr) : WE := fun _ g R => R (.dict (exD C [])) g
theorem v_mk1 (M : Mk X.prog X.w X.K X.mg X.base x C k ps (spIni X.K f)) (hno : PySem.W.findIn X.K (.ref C) f = some none) (hr : Room (k + 1) X.A) (hg : Gl X x) (ha : VE X e W)
    (hdb : (x == ("__debug__" : Str)) = false := by decide) (he : starEach [e] X.env = (false, eval e X.env) :: starEach [] X.env := by rfl) : VE X (.Call (.Name x p) [e] [] pos) (wEx C f W) := by
  obtain ⟨fI, fd, Mc, F, b⟩ := M.ex
  refine pe_weak (pe_ex M.ek.T Mc F hr b hg M.gm (pa_cons ha pa_nil he) hdb he rfl) fun σ H Q ⟨a, H0, O0, O, ρ, g, R, r, w, q⟩ => ⟨a, H0, O0, O, ρ, g, _, r, w, fun d g1 v H1 k1 r1 d1 w1 => ?_⟩
  refine ⟨by show 1 ≤ 1000; decide, fun ea hea => ⟨ea, C, v, rfl, M.ek.T, hno, upd_same, fun dx hdx ne => ⟨rfl, ?_⟩⟩⟩
  rw [upd_ne ne] at hdx
  have s : Sub H1 (upd (upd (upd H1 ea (exo ea C none)) dx (exd dx [(f, v)])) ea (exo ea C (some dx))) := fun y o ey => by
    rw [upd_ne (ne_of_none ey hea), upd_ne (ne_of_none ey hdx), upd_ne (ne_of_none ey hea)]
    exact ey
  exact q _ g1 (.ref ea) _ (k1.trans (Kp.of s)) (r1.ext s) (.exc1 (off_in (r1.freshA hea) upd_same) (off_in (r1.freshA hdx) (by rw [upd_ne ne, upd_same])) (d1.to (off_mono s))) w1
theorem v_mk0 (M : Mk X.prog X.w X.K X.mg X.base x C k ps spIni0) (hr : Room (k + 1) X.A) (hg : Gl X x) (hdb : (x == ("__debug__" : Str)) = false := by decide) : VE X (.Call (.Name x p) [] [] pos) (wEx0 C) := by
  obtain ⟨fI, fd, Mc, F, b⟩ := M.ex
  refine pe_weak (pe_ex0 M.ek.T Mc F hr b hg M.gm hdb) fun σ H Q ⟨a, H0, O0, O, ρ, g, R, r, w, q⟩ => ⟨by show 0 ≤ 1000; decide, fun ea hea => ⟨ea, rfl, rfl, ?_⟩⟩
  have s := sub_upd (o := exo ea C none) hea
  exact q _ g (.ref ea) _ (Kp.of s) (r.ext s) (.exc0 (off_in (r.freshA hea) upd_same)) w
/-- a field of an exception, of a class of which P holds -/
def wAtx (P : Addr → Prop) (n : Str) (W : WE) : WE := fun ρ g R => W ρ g fun d g1 => ∃ (C : Addr) (y : PyData), d = .dict (exD C [(.str n, y)]) ∧ P C ∧ R y g1
theorem exD_inj {C D : Addr} {xs ys : List (PyData × PyData)} (h : exD C xs = exD D ys) : C = D ∧ xs = ys := by
  unfold exD at h
  injection h with h1 h2
  injection h1 with h3 h4
  injection h4 with h5
  exact ⟨Int.ofNat.inj h5, h2⟩
theorem v_atx {P : Addr → Prop} {n : Str} (hP : ∀ C, P C → ExK X.K C ∧ PySem.W.findIn X.K (.ref C) n = some none) (h : VE X e W) (hb : attributeBase e n X.env (eval e X.env) = eval e X.env := by rfl) : VE X (.Attribute e n pos) (wAtx P n W) :=
  pe_weak (pe_atx h hb) fun σ H Q ⟨a, H0, O0, O, ρ, g, R, r, w, q⟩ => ⟨a, H0, O0, O, ρ, g, _, r, w, fun d g1 v H1 k1 r1 d1 w1 => by
    obtain ⟨C, y, hd, hC, w1⟩ := w1
    obtain ⟨ek, hno⟩ := hP C hC
    generalize hz : PyData.dict (exD C [(.str n, y)]) = z at hd
    cases d1 with
    | @exc1 ea C' dx f v' d' h1 h2 h3 =>
      rw [← hz] at hd
      injection hd with hd
      obtain ⟨e1, e2⟩ := exD_inj hd
      subst e1
      simp only [List.cons.injEq, Prod.mk.injEq, PyData.str.injEq, and_true] at e2
      obtain ⟨rfl, rfl⟩ := e2
      exact ⟨ea, _, dx, [(_, v')], v', rfl, ek.xf, hno, (off_some.mp h1).2, (off_some.mp h2).2, by rw [lookup_put, if_pos rfl], q _ g1 _ H1 k1 r1 h3 w1⟩
    | exc0 h1 =>
      rw [← hz] at hd
      injection hd with hd
      obtain ⟨_, hd⟩ := exD_inj hd
      cases hd
    | _ =>
      rw [← hz] at hd
      first
        | cases hd
        | (injection hd with hd; cases hd)⟩
/-- isinstance of an exception: f tells the answer by its class -/
def wIsX (f : Addr → Bool → Prop) (W : WE) : WE := fun ρ g R => W ρ g fun d g1 => ∃ (D : Addr) (fs : List (PyData × PyData)) (b : Bool), d = .dict (exD D fs) ∧ f D b ∧ R (.bool b) g1
theorem isX_of {K : PySem.W.Frag} {cv : Value} {c : V} {f : Addr → Bool → Prop} (hf : ∀ D b, f D b → ExK K D ∧ PySem.W.kitOne K (.ref D) cv = some b) (hcv : ∀ u, RelV c u → u = cv) : ∀ σ H Q, tE K (wIsX f W) σ H Q →
    tE K W σ H fun v H1 => rIsX K [v, c] H1 Q := fun σ H Q ⟨a, H0, O0, O, ρ, g, R, r, w, q⟩ => ⟨a, H0, O0, O, ρ, g, _, r, w, fun d g1 v H1 k1 r1 d1 w1 => by
    obtain ⟨D, fs, b, hd, hb, w1⟩ := w1
    obtain ⟨ek, hk⟩ := hf D b hb
    have fin : ∀ ea, v = .ref ea → ExAt H1 ea D → rIsX K [v, c] H1 Q := fun ea e1 h => ⟨ea, D, c, cv, b, by rw [e1], h, ek.is, hcv, hk, q _ g1 _ H1 k1 r1 (.bl b) w1⟩
    generalize hz : PyData.dict (exD D fs) = z at hd
    cases d1 with
    | @exc1 ea C' dx f v' d' h1 h2 h3 =>
      rw [← hz] at hd
      injection hd with hd
      obtain ⟨rfl, hd⟩ := exD_inj hd
      exact fin ea rfl (.inr ⟨dx, _, (off_some.mp h1).2, (off_some.mp h2).2⟩)
    | @exc0 ea C' h1 =>
      rw [← hz] at hd
      injection hd with hd
      obtain ⟨rfl, hd⟩ := exD_inj hd
      exact fin ea rfl (.inl (off_some.mp h1).2)
    | _ =>
      rw [← hz] at hd
      first
        | cases hd
        | (injection hd with hd; cases hd)⟩
theorem v_isX {y : Str} {f : Addr → Bool → Prop} {D : Addr} (hf : ∀ C b, f C b → ExK X.K C ∧ PySem.W.kitOne X.K (.ref C) (.ref D) = some b) (hg : Gl X "isinstance") (hm : X.mg "isinstance" = none) (hy : Gl X y) (hym : X.mg y = some (.ref D)) (he : VE X e W)
    (hdy : (y == ("__debug__" : Str)) = false := by decide) (hs : starEach (e :: [.Name y p2]) X.env = (false, eval e X.env) :: starEach [.Name y p2] X.env := by rfl) (hs2 : starEach [.Name y p2] X.env = (false, eval (.Name y p2) X.env) :: starEach [] X.env := by rfl)
    (hv : bootBuiltins "isinstance" = some (.builtin "isinstance") := by decide +kernel) (hpl : (backTo pos (starEach [.Name y p2] X.env)).any (·.1) = false := by rfl) : VE X (.Call (.Name "isinstance" p) [e, .Name y p2] [] pos) (wIsX f W) :=
  pe_weak (pe_callB call_isX hg hm hv (pa_cons he (pa_cons (pe_glob (v := .ref D) (u := .ref D) hy hym rfl hdy) pa_nil hs2) hs) (by decide) (by decide) hs hpl) (isX_of hf fun u r => r)
theorem v_isXb {y : Str} {T : String} {f : Addr → Bool → Prop} (hf : ∀ C b, f C b → ExK X.K C ∧ PySem.W.kitOne X.K (.ref C) (.type T) = some b) (hg : Gl X "isinstance") (hm : X.mg "isinstance" = none) (hy : Gl X y) (hym : X.mg y = none) (hyv : bootBuiltins y = some (.type T)) (he : VE X e W)
    (hn : y ≠ "__name__" := by decide) (hdy : (y == ("__debug__" : Str)) = false := by decide) (hs : starEach (e :: [.Name y p2]) X.env = (false, eval e X.env) :: starEach [.Name y p2] X.env := by rfl) (hs2 : starEach [.Name y p2] X.env = (false, eval (.Name y p2) X.env) :: starEach [] X.env := by rfl)
    (hv : bootBuiltins "isinstance" = some (.builtin "isinstance") := by decide +kernel) (hpl : (backTo pos (starEach [.Name y p2] X.env)).any (·.1) = false := by rfl) : VE X (.Call (.Name "isinstance" p) [e, .Name y p2] [] pos) (wIsX f W) :=
  pe_weak (pe_callB call_isX hg hm hv (pa_cons he (pa_cons (pe_bltn (v := .ty T) (u := .type T) hy hym hyv rfl hn hdy) pa_nil hs2) hs) (by decide) (by decide) hs hpl) (isX_of hf fun u r => r)
end
end Vl
/-! V11: < of tuples whose later places need not compare; sorted of such tuples: some order of the items. -/
namespace Vl
open PySem PySem.SeqAt
open AutoSeq1 (wpAny_loadPart')
open MeetsSeq MeetsSeq2 MeetsSeq3 SeqRoads2
/-- from place i on the items compare, the answer being k -/
inductive LexI (A : Around) (s : Shared) (xs ys : Array Value) (k : Bool) : Nat → Prop
  | fin {i : Nat} : min xs.size ys.size ≤ i → k = decide (xs.size < ys.size) → LexI A s xs ys k i
  | yes {i : Nat} (h1 : i < xs.size) (h2 : i < ys.size) : EqAt A s xs[i] ys[i] true → LexI A s xs ys k (i + 1) → LexI A s xs ys k i
  | no {i : Nat} (h1 : i < xs.size) (h2 : i < ys.size) : EqAt A s xs[i] ys[i] false → RcLt A s xs[i] ys[i] k → LexI A s xs ys k i
theorem lex_meets (l b : Addr) (xs ys : Array Value) (n m : Nat) (d1 d2 : Option Addr) (s1 s2 : Array (Option Value)) (k : Bool) :
    Meets (Builtin.«tuple.__lt__» ⟨[.ref l, .ref b], []⟩) (fun A R s => s.heap.get? l = some ⟨.type "tuple", d1, .seq xs n, s1⟩ ∧ s.heap.get? b = some ⟨.type "tuple", d2, .seq ys m, s2⟩ ∧ LexI A.in1 s xs ys k 0 ∧ R (.ok (.ret (.bool k))) s) :=
  .of_wp fun prog w A R s h => by
    obtain ⟨hp, g, d, tk, os⟩ := s
    obtain ⟨hl, hb, hx, hR⟩ := h
    have f2 := AutoSeq1.sub_tuple_tuple
    have zl : (xs.toList.zip ys.toList).length = min xs.size ys.size := by simp
    wp_walk using wpAny_loadPart' hl, wpAny_loadPart' hb, wpAny_forIn_list _ (fun rest b s' => b.1 = none ∧ s' = ⟨hp, g, d, tk, os⟩ ∧ ∃ i, rest = (xs.toList.zip ys.toList).drop i ∧ LexI A.in1 ⟨hp, g, d, tk, os⟩ xs ys k i) _
    case turn =>
      rintro ⟨y, x⟩ rest b s' ⟨_, rfl, i, hz, hi⟩
      have hlt : i < (xs.toList.zip ys.toList).length := Nat.lt_of_not_le fun q => by
        rw [List.drop_of_length_le q] at hz
        cases hz
      rw [List.drop_eq_getElem_cons hlt] at hz
      injection hz with e1 e2
      have b1 : i < xs.size := by omega
      have b2 : i < ys.size := by omega
      obtain rfl : y = xs[i] := by simpa using congrArg Prod.fst e1
      obtain rfl : x = ys[i] := by simpa using congrArg Prod.snd e1
      cases hi with
      | fin q _ => omega
      | yes _ _ he ht =>
        refine wpAny_bind (he prog w _ _ ?_)
        wp_walk
        exact ⟨rfl, rfl, i + 1, e2, ht⟩
      | no _ _ he hr =>
        refine wpAny_bind (he prog w _ _ ?_)
        rw [if_pos (show (!false) = true from rfl)]
        refine wpAny_bind (wpAny_rule ?_)
        refine wpAny_bind (hr prog w _ _ ?_)
        wp_walk
        exact ⟨_, rfl, hR⟩
    case fin =>
      rintro ⟨b1, b2⟩ s' ⟨hb1, rfl, i, hz, hi⟩
      obtain rfl : b1 = none := hb1
      have hge : min xs.size ys.size ≤ i := Nat.le_of_not_lt fun q => by
        rw [List.drop_eq_getElem_cons (by omega)] at hz
        cases hz
      have hk : k = decide (xs.size < ys.size) := by
        cases hi with
        | fin _ q => exact q
        | yes h1 h2 _ _ => omega
        | no h1 h2 _ _ => omega
      subst hk
      wp_walk
      exact ⟨_, rfl, by simpa [Builtin.Tuple.tupleCompareSizes] using hR⟩
    case h =>
      exact ⟨rfl, rfl, 0, rfl, hx⟩
theorem lex_lt {A : Around} {s : Shared} {l b : Addr} {xs ys : Array Value} {k : Bool} (hl : s.heap.IsTuple l xs) (hb : s.heap.IsTuple b ys) (hu : A.units < cLine) (h : LexI A.in1 s xs ys k 0) : RcLt A s (.ref l) (.ref b) k := fun prog w E Q q => by
  obtain ⟨⟨c1, d1, e1, s1⟩, ho, hc, n, hd⟩ := id hl
  obtain ⟨⟨c2, d2, e2, s2⟩, ho2, hc2, m, hd2⟩ := id hb
  simp only at hc hd hc2 hd2
  subst hc hd hc2 hd2
  exact richCompare_meets_room (op := .Lt) ⟨_, ho, rfl⟩ ⟨_, ho2, rfl⟩ F.slot_tuple_lt F.entry_tuple_lt (F.args_tuple_lt_2 _ _) (lex_meets l b xs ys n m d1 d2 s1 s2 k) ⟨ho, ho2, h, show Value.bool k ≠ Value.notImplemented ∧ Q (.bool k) s from ⟨(fun x => nomatch x), q⟩⟩ hu
end Vl
/-! V12: sorted of tuples whose items compare where they first differ: a new list of the same items in some order. -/
namespace Vl
open PySem PySem.Spec PyProof.Rows L2
mutual
inductive CmpD : Nat → PyData → PyData → Prop
  | int (n : Nat) (i j : Int) : CmpD n (.int i) (.int j)
  | str (n : Nat) (x y : Str) : CmpD n (.str x) (.str y)
  | tup {n : Nat} {xs ys : List PyData} : CmpL n xs ys → CmpD (n + 1) (.tuple xs) (.tuple ys)
inductive CmpL : Nat → List PyData → List PyData → Prop
  | nilL (n : Nat) (ys : List PyData) : CmpL n [] ys
  | nilR (n : Nat) (xs : List PyData) : CmpL n xs []
  | same {n : Nat} {x y : PyData} {xs ys : List PyData} : x.plain = true → y.plain = true → min x.depth y.depth ≤ 50 → PyData.eqv x y = true → CmpL n xs ys → CmpL n (x :: xs) (y :: ys)
  | diff {n : Nat} {x y : PyData} {xs ys : List PyData} : x.plain = true → y.plain = true → min x.depth y.depth ≤ 50 → PyData.eqv x y = false → CmpD n x y → CmpL n (x :: xs) (y :: ys)
end
theorem drop_head {vs : Array Value} {i : Nat} {v : Value} {r : List Value} (h : vs.toList.drop i = v :: r) : ∃ h1 : i < vs.size, vs[i] = v ∧ vs.toList.drop (i + 1) = r := by
  have hl : i < vs.toList.length := Nat.lt_of_not_le fun q => by
    rw [List.drop_of_length_le q] at h
    cases h
  rw [List.drop_eq_getElem_cons hl] at h
  injection h with h1 h2
  exact ⟨by simpa using hl, by simpa using h1, h2⟩
theorem drop_none {vs : Array Value} {i : Nat} (h : vs.toList.drop i = []) : vs.size ≤ i := by
  have := List.drop_eq_nil_iff.mp h
  simpa using this
mutual
theorem rc_of {s : Shared} : ∀ {n : Nat} {d e : PyData} {A : Around} {v u : Value} {as bs : List Addr}, CmpD n d e → Reads s.heap v d as → Reads s.heap u e bs → A.units + n + 52 < cLine → ∃ k, SeqAt.RcLt A s v u k
  | _, _, _, A, _, _, _, _, .int n i j, r1, r2, hu => by
    cases r1
    cases r2
    exact ⟨_, fun prog w E Q q => PyProof.Rows.lt_int q⟩
  | _, _, _, A, _, _, _, _, .str n x y, r1, r2, hu => by
    cases r1
    cases r2
    exact ⟨_, fun prog w E Q q => PyProof.Rows.lt_str q⟩
  | _, _, _, A, _, _, _, _, .tup c, r1, r2, hu => by
    cases r1 with
    | @tuple l o vs m _ _ h1 h2 h3 h4 =>
      cases r2 with
      | @tuple l' o' vs' m' _ _ k1 k2 k3 k4 =>
        obtain ⟨k, hk⟩ := lex_of (A := A.in1) (vs := vs) (ws := vs') (i := 0) c h4 k4 (by show A.units + 1 + _ + 52 < cLine; omega)
        exact ⟨k, lex_lt ⟨_, h1, h2, _, h3⟩ ⟨_, k1, k2, _, k3⟩ (by omega) hk⟩
theorem lex_of {s : Shared} : ∀ {n : Nat} {xs ys : List PyData} {A : Around} {vs ws : Array Value} {i : Nat} {as bs : List Addr}, CmpL n xs ys → ReadsAll s.heap (vs.toList.drop i) xs as → ReadsAll s.heap (ws.toList.drop i) ys bs → A.units + n + 52 < cLine →
    ∃ k, LexI A s vs ws k i
  | _, _, _, A, vs, ws, i, _, _, .nilL n ys, r1, r2, hu => by
    generalize hz : vs.toList.drop i = z at r1
    cases r1
    have := drop_none hz
    exact ⟨_, .fin (by omega) rfl⟩
  | _, _, _, A, vs, ws, i, _, _, .nilR n xs, r1, r2, hu => by
    generalize hz : ws.toList.drop i = z at r2
    cases r2
    have := drop_none hz
    exact ⟨_, .fin (by omega) rfl⟩
  | _, _, _, A, vs, ws, i, _, _, .same p1 p2 p3 p4 c, r1, r2, hu => by
    generalize hz : vs.toList.drop i = z at r1
    generalize hy : ws.toList.drop i = y at r2
    cases r1 with
    | cons a1 a2 =>
      cases r2 with
      | cons b1 b2 =>
        obtain ⟨h1, rfl, e1⟩ := drop_head hz
        obtain ⟨h2, rfl, e2⟩ := drop_head hy
        have q := SeqAt.eqAt_plain _ _ A s _ _ _ _ a1 b1 p1 p2 (by omega)
        rw [p4] at q
        rw [← e1] at a2
        rw [← e2] at b2
        obtain ⟨k, hk⟩ := lex_of c a2 b2 hu
        exact ⟨k, .yes h1 h2 q hk⟩
  | _, _, _, A, vs, ws, i, _, _, .diff p1 p2 p3 p4 c, r1, r2, hu => by
    generalize hz : vs.toList.drop i = z at r1
    generalize hy : ws.toList.drop i = y at r2
    cases r1 with
    | cons a1 a2 =>
      cases r2 with
      | cons b1 b2 =>
        obtain ⟨h1, rfl, e1⟩ := drop_head hz
        obtain ⟨h2, rfl, e2⟩ := drop_head hy
        have q := SeqAt.eqAt_plain _ _ A s _ _ _ _ a1 b1 p1 p2 (by omega)
        rw [p4] at q
        obtain ⟨k, hk⟩ := rc_of c a1 b1 hu
        exact ⟨k, .no h1 h2 q hk⟩
end
theorem kat_of {prog : Program} {w : World} {A : Around} {s : Shared} {xs ys : Array Value} {k : Bool} : ∀ {i : Nat}, LexI A s xs ys k i → PySem.W.KatLex prog w A false (decide (xs.size < ys.size)) (fun r s' => s' = s ∧ r = k) ((xs.toList.zip ys.toList).drop i) i s := by
  intro i h
  have zl : (xs.toList.zip ys.toList).length = min xs.size ys.size := by simp
  induction h with
  | fin h e =>
    rw [List.drop_of_length_le (by omega)]
    exact PySem.W.kat_nil ⟨rfl, e.symm⟩
  | @yes i h1 h2 he _ ih =>
    rw [List.drop_eq_getElem_cons (by omega)]
    rw [show (xs.toList.zip ys.toList)[i]'(by omega) = (xs[i], ys[i]) by simp]
    exact PySem.W.kat_cons (he prog w _ _ (PySem.W.kat_yes ih))
  | @no i h1 h2 he hr =>
    rw [List.drop_eq_getElem_cons (by omega)]
    rw [show (xs.toList.zip ys.toList)[i]'(by omega) = (xs[i], ys[i]) by simp]
    exact PySem.W.kat_cons (he prog w _ _ (PySem.W.kat_no (PySem.W.kat_one _ _ (hr prog w _ _ ⟨rfl, rfl⟩))))
/-- what is asked of the items -/
structure Ord (ds : List PyData) : Prop where
  nx : ∀ d ∈ ds, noX d = true
  hd : ∀ d ∈ ds, ∃ z r, d = .tuple (.tuple z :: r)
  cmp : ∀ d ∈ ds, ∀ e ∈ ds, CmpD 4 d e
theorem perm_lift {α β : Type} (f : α → β) {l m : List β} (h : l.Perm m) : ∀ zs : List α, m = zs.map f → ∃ zs' : List α, zs'.Perm zs ∧ l = zs'.map f := by
  induction h with
  | nil =>
    intro zs e
    cases zs with
    | nil => exact ⟨[], .nil, rfl⟩
    | cons z zs => cases e
  | @cons x l m _ ih =>
    intro zs e
    cases zs with
    | nil => cases e
    | cons z zs =>
      injection e with e1 e2
      obtain ⟨zs', p, e3⟩ := ih zs e2
      exact ⟨z :: zs', p.cons z, by rw [List.map_cons, e1, e3]⟩
  | swap x y l =>
    intro zs e
    cases zs with
    | nil => cases e
    | cons z zs =>
      cases zs with
      | nil => cases e
      | cons z2 zs =>
        injection e with e1 e2
        injection e2 with e2 e3
        exact ⟨z2 :: z :: zs, .swap .., by rw [List.map_cons, List.map_cons, e1, e2, e3]⟩
  | trans _ _ ih1 ih2 =>
    intro zs e
    obtain ⟨zs1, p1, e1⟩ := ih2 zs e
    obtain ⟨zs2, p2, e2⟩ := ih1 zs1 e1
    exact ⟨zs2, p2.trans p1, e2⟩
/-- values, what they stand for, what they read as, side by side -/
theorem side {K : PySem.W.Frag} {H : Hp} : ∀ {xs : List V} {ds : List PyData} {its : List Value}, DqAll K H xs ds → Vals xs its → ∃ zs : List (V × PyData × Value), xs = zs.map (·.1) ∧ ds = zs.map (·.2.1) ∧ its = zs.map (·.2.2) ∧ ∀ z ∈ zs, Dq K H z.1 z.2.1 ∧ RelV z.1 z.2.2
  | _, _, _, .nil, .nil => ⟨[], rfl, rfl, rfl, fun _ h => (nomatch h)⟩
  | _, _, _, .cons (v := v) (d := d) h t, .cons (b := u) r rs => by
    obtain ⟨zs, e1, e2, e3, hz⟩ := side t rs
    exact ⟨(v, d, u) :: zs, by rw [List.map_cons, ← e1], by rw [List.map_cons, ← e2], by rw [List.map_cons, ← e3], fun z hzm => by
      rcases List.mem_cons.mp hzm with rfl | hzm
      · exact ⟨h, r⟩
      · exact hz z hzm⟩
theorem side_dq {K : PySem.W.Frag} {H : Hp} : ∀ {zs : List (V × PyData × Value)}, (∀ z ∈ zs, Dq K H z.1 z.2.1 ∧ RelV z.1 z.2.2) → DqAll K H (zs.map (·.1)) (zs.map (·.2.1)) ∧ Vals (zs.map (·.1)) (zs.map (·.2.2))
  | [], _ => ⟨.nil, .nil⟩
  | z :: zs, h => by
    obtain ⟨a, b⟩ := side_dq fun y hy => h y (List.mem_cons_of_mem _ hy)
    obtain ⟨c, d⟩ := h z List.mem_cons_self
    exact ⟨.cons c a, .cons d b⟩
def rSortT (K : PySem.W.Frag) : List V → Hp → VK → Prop := fun vs H Q => ∃ (a : Addr) (xs : List V) (ds : List PyData) (B : List Addr), vs = [V.ref a] ∧ SqL K H a xs ∧ DqAll K (Off B H) xs ds ∧ Ord ds ∧
  ∀ (ys : List V) (es : List PyData) (p : Addr), es.Perm ds → DqAll K (Off B H) ys es → H p = none → Q (.ref p) (upd H p (.lst ys))
section
variable {X : Cx}
theorem call_sortT (hu : X.A.units + 64 < cLine) : CallR X (.builtin "sorted") (rSortT X.K) := by
  intro pins s σ H vs us Q I r h
  obtain ⟨a, xs, ds, B, rfl, hs, hd, ho, q⟩ := h
  obtain ⟨its, rv, hl, hz⟩ := I.list hs
  rw [Vals.ref1 r]
  obtain ⟨zs, e1, e2, e3, hzs⟩ := side hd rv
  have hlen : its.length ≤ sizeLine := by rw [← rv.length]; exact hz
  have rd : ∀ v ∈ its, ∃ d ∈ ds, ∃ as, Reads s.heap v d as := fun v hv => by
    rw [e3] at hv
    obtain ⟨z, hzm, rfl⟩ := List.mem_map.mp hv
    have hdm : z.2.1 ∈ ds := by rw [e2]; exact List.mem_map.mpr ⟨z, hzm, rfl⟩
    obtain ⟨as, ra⟩ := Dq.reads I z.2.1 z.1 z.2.2 (ho.nx _ hdm) ((hzs z hzm).1.to off_out) (hzs z hzm).2
    exact ⟨_, hdm, as, ra⟩
  refine Srt.sorted_any hl.isList hlen (fun h2 h1 b hb keep => ?_) (fun out hp => ?_)
  · intro h' keep2
    have kk : ∀ b o, s.heap.get? b = some o → h'.get? b = some o := fun b o e => keep2 b o (keep b o e).1 (keep b o e).2
    have firsts : ∀ l : List Value, (∀ v ∈ l, v ∈ its) → ∃ fs, PySem.W.KatTups h' l fs ∧ fs.length = l.length ∧ ∀ f ∈ fs, ∃ (a : Addr) (o : Obj), f = .ref a ∧ h'.get? a = some o ∧ o.cls = .type "tuple" := by
      intro l
      induction l with
      | nil => exact fun _ => ⟨[], PySem.W.KatTups.nil, rfl, fun _ h => (nomatch h)⟩
      | cons v l ih =>
        intro hm
        obtain ⟨fs, f1, f2, f3⟩ := ih fun x hx => hm x (List.mem_cons_of_mem _ hx)
        obtain ⟨d, hdm, as, ra⟩ := rd v (hm v List.mem_cons_self)
        obtain ⟨z, rr, rfl⟩ := ho.hd d hdm
        cases ra with
        | @tuple a0 o vs0 n _ _ g1 g2 g3 g4 =>
          generalize hw : vs0.toList = w0 at g4
          cases g4 with
          | @cons f0 _ _ _ _ _ c1 c2 =>
            cases c1 with
            | @tuple a1 o1 vs1 n1 _ _ k1 k2 k3 k4 =>
              refine ⟨.ref a1 :: fs, PySem.W.KatTups.cons (kk _ _ g1) g2 g3 (by rw [← Array.getElem?_toList, hw]; rfl) f1, by rw [List.length_cons, List.length_cons, f2], fun f hf => ?_⟩
              rcases List.mem_cons.mp hf with rfl | hf
              · exact ⟨a1, o1, rfl, kk _ _ k1, k2⟩
              · exact f3 f hf
    obtain ⟨fs, f1, f2, f3⟩ := firsts its fun _ h => h
    refine ⟨tuples' (Value.type "tuple" != Value.type "tuple"), fun Q' E' q' => ?_, ?_⟩
    · refine PySem.W.kat_kind (T := .type "tuple") f1 (by omega) (fun f hf => ?_) (by decide +kernel) q'
      obtain ⟨a1, o1, rfl, k1, k2⟩ := f3 f hf
      exact (PySem.W.Looks.ld k1).andThen (by rw [k2]; exact .now)
    · intro p q' hp hq
      obtain ⟨d, hdm, as, ra⟩ := rd _ hp
      obtain ⟨e, hem, bs, rb⟩ := rd _ hq
      have ra' := Reads.keeps kk ra
      have rb' := Reads.keeps kk rb
      have c := ho.cmp d hdm e hem
      obtain ⟨z1, r1, rfl⟩ := ho.hd d hdm
      obtain ⟨z2, r2, rfl⟩ := ho.hd e hem
      generalize p.1 = pv at ra'
      generalize q'.1 = qv at rb'
      cases ra' with
      | @tuple a0 o vs0 n _ _ g1 g2 g3 g4 =>
        cases rb' with
        | @tuple b0 o' ws0 n' _ _ k1 k2 k3 k4 =>
          cases c with
          | tup c =>
            obtain ⟨k, hk⟩ := lex_of (s := { s with heap := h' }) (A := X.A.in1.in1) (vs := vs0) (ws := ws0) (i := 0) c g4 k4 (by show X.A.units + 1 + 1 + 3 + 52 < cLine; omega)
            exact ⟨k, PySem.W.kat_lt g1 g3 k1 k3 (kat_of hk)⟩
  · obtain ⟨zs', hzp, rfl⟩ := perm_lift (fun z : V × PyData × Value => z.2.2) hp zs e3
    obtain ⟨ep, he'⟩ := PyProof.Rows.sortedAll_at s.heap its (zs'.map (·.2.2)).toArray
    have hz' : ∀ z ∈ zs', Dq X.K (Off B H) z.1 z.2.1 ∧ RelV z.1 z.2.2 := fun z hz => hzs z (hzp.mem_iff.mp hz)
    obtain ⟨dq, vl⟩ := side_dq hz'
    have hl2 : (zs'.map (·.1)).length ≤ sizeLine := by
      rw [List.length_map, hzp.length_eq]
      rw [e3, List.length_map] at hlen
      exact hlen
    refine ⟨.ref _, upd H (s.heap.objs.size + 1) (.lst (zs'.map (·.1))), I.laid (t' := s.toks) (fun _ _ => PyProof.Rows.sortedAll_old) (Nat.le_succ _) ⟨hl2, zs'.map (·.2.2), ep, vl, he'⟩, rfl, q _ _ _ ?_ dq (I.hok.fresh (Nat.le_succ _))⟩
    rw [e2]
    exact hzp.map _
variable {e : Expr} {pos : Pos} {W : WE}
def lSort (W : WE) : WL := fun ρ g R => W ρ g fun d g1 => ∃ xs, d = .list xs ∧ Ord xs ∧ ∀ ys, ys.Perm xs → R ys g1
theorem vl_sorted {p : Pos} (hu : X.A.units + 64 < cLine) (hg : Gl X "sorted") (hm : X.mg "sorted" = none) (he : VE X e W) (hv : bootBuiltins "sorted" = some (.builtin "sorted") := by decide +kernel) (hs : starEach [e] X.env = (false, eval e X.env) :: starEach [] X.env := by rfl) :
    VL X (.Call (.Name "sorted" p) [e] [] pos) (lSort W) :=
  pe_weak (pe_callB (call_sortT hu) hg hm hv (pa_cons he pa_nil hs) (by decide) (by decide) hs rfl) fun σ H Q ⟨a, H0, O0, O, ρ, g, R, r, w, q⟩ => ⟨a, H0, O0, O, ρ, g, _, r, w, fun d g1 v H1 k1 r1 d1 w1 => by
    obtain ⟨xs, rfl, ho, w1⟩ := w1
    cases d1 with
    | @lst l vs _ h1 h2 =>
      refine ⟨l, vs, xs, a :: O, rfl, SqL.of (off_out _ _ h1), h2, ho, fun ys es p hp hd hn => ?_⟩
      have h0 : H p = none := by
        cases e : H p with
        | none => rfl
        | some o =>
          by_cases z : p = a
          · exact absurd hn (r1.liveA p (by rw [z]; exact List.mem_cons_self))
          · rw [k1 p o z e] at hn
            cases hn
      exact q es g1 p ys _ (k1.trans (Kp.of (sub_upd hn))) (r1.hide hn) h0 upd_same (hd.to (off_new hn)) (w1 es hp)
    | _ => exact nomatch ho⟩
end
end Vl
/-! V13: comprehensions with two sources. -/
namespace Vl
open PySem PySem.Spec PyProof.Rows L2
def isOwn : Sl → Bool
  | .own _ => true
  | _ => false
/-- [E for .. in .. if T for .. in WI1 if T1]: T, WI1 are told behind the outer target; no slot has a list of its own meanwhile -/
def lcV2 (G : WG) (T : WT) (WI1 : WL) (G1 : WG) (T1 : WT) (E : WE) (vs1 : List Nat) : List PyData → Rho → List PyData → Nat → (List PyData → Nat → Prop) → Prop
  | [], _, acc, g, R => R acc g
  | d :: ds, ρ, acc, g, R => G d ρ fun ρ' => (wipeV ρ' vs1).any isOwn = false ∧ T ρ' g fun b g1 => if b = true then WI1 ρ' g1 fun es g2 => acc.length + es.length ≤ sizeLine ∧ lcV G1 T1 E es (wipeV ρ' vs1) acc g2 fun acc' g3 => lcV2 G T WI1 G1 T1 E vs1 ds ρ acc' g3 R
    else lcV2 G T WI1 G1 T1 E vs1 ds ρ acc g1 R
def lLc2 (WI : WL) (G : WG) (T : WT) (WI1 : WL) (G1 : WG) (T1 : WT) (E : WE) (vs vs1 : List Nat) : WL := fun ρ g R => WI ρ g fun ds g1 => lcV2 G T WI1 G1 T1 E vs1 ds (wipeV ρ vs) [] g1 R
theorem tL_lc2 {K : PySem.W.Frag} {WI WI1 : WL} {js js1 : List Nat} {G G1 : WG} {T T1 : WT} {E : WE} {vs vs1 : List Nat} (hj : ∀ j ∈ js, j ∈ vs) (hj1 : ∀ j ∈ js1, j ∈ vs1) : ∀ σ H Q, tL K (lLc2 WI G T WI1 G1 T1 E vs vs1) σ H Q →
    tLc2 (tI K WI) (tG K js G) (tT K T) (tI K WI1) (tG K js1 G1) (tT K T1) (tE K E) vs vs1 σ H Q :=
  fun σ H Q ⟨a, H0, O0, O, ρ, g, R, r, w, q⟩ => ⟨a, H0, O0, O, ρ, g, _, r, w, fun ds g1 J H1 k1 r1 fd w1 D hD => by
    have hD0 : H D = none := by
      cases e : H D with
      | none => rfl
      | some o =>
        by_cases z : D = a
        · exact absurd hD (r1.liveA D (by rw [z]; exact List.mem_cons_self))
        · rw [k1 D o z e] at hD
          cases hD
    have nDa : D ≠ a := fun z => r1.pen.live (z ▸ hD)
    have hno : ∀ (j : Nat) (es : List PyData), (wipeV ρ vs)[j]? = some (Sl.own es) → (L2.wipe σ vs)[j]? ≠ some (some (.ref D)) := fun j es h e => by
      obtain ⟨q', xs, e', hq, _⟩ := (r1.wipe vs).slot j _ h
      rw [e] at e'
      cases e'
      exact r1.live D hq hD
    have st : ∀ {H4 : Hp} {o : HO}, Kp a H1 H4 → Kp a H1 (upd H4 D o) := fun {H4 o} k b u n e => by
      rw [upd_ne (ne_of_none e hD)]
      exact k b u n e
    refine ⟨fun i m H' => ∃ g' acc xs, m = ds.length - i ∧ i ≤ ds.length ∧ Kp a H1 H' ∧ Rl K a H0 O0 (D :: O) (wipeV ρ vs) g' (L2.wipe σ vs) H' ∧ H' D = some (.lst xs) ∧ DqAll K (Off (a :: D :: O) H') xs acc ∧ lcV2 G T WI1 G1 T1 E vs1 (ds.drop i) (wipeV ρ vs) acc g' R,
      ⟨ds.length, g1, [], [], rfl, Nat.zero_le _, Kp.of (sub_upd hD), (r1.wipe vs).hide hD, upd_same, .nil, w1⟩, ?_⟩
    rintro i m H2 ⟨g2, acc, xs, rfl, hi, k2, r2, hx, hd, w2⟩
    have sb : Sub (Off (a :: O) H1) (Off (a :: D :: O) H2) := fun b o e => by
      obtain ⟨n, e⟩ := off_some.mp e
      have na : b ≠ a := fun z => n (by rw [z]; exact List.mem_cons_self)
      refine off_in (fun z => ?_) (k2 b o na e)
      rcases List.mem_cons.mp z with z | z
      · exact na z
      · rcases List.mem_cons.mp z with z | z
        · rw [z, hD] at e
          cases e
        · exact n (List.mem_cons_of_mem _ z)
    obtain ⟨f1, f2⟩ := fd i (D :: O) H2 sb r2.liveA
    by_cases hlt : i < ds.length
    · have e0 : ds.drop i = ds[i] :: ds.drop (i + 1) := List.drop_eq_getElem_cons hlt
      rw [e0] at w2
      obtain ⟨go, f3⟩ := f1 ds[i] (List.getElem?_eq_getElem hlt)
      -- what the next turn wants
      refine .inr ⟨go, fun H' => ∃ g' acc xs, Kp a H1 H' ∧ Rl K a H0 O0 (D :: O) (wipeV ρ vs) g' (L2.wipe σ vs) H' ∧ H' D = some (.lst xs) ∧ DqAll K (Off (a :: D :: O) H') xs acc ∧ lcV2 G T WI1 G1 T1 E vs1 (ds.drop (i + 1)) (wipeV ρ vs) acc g' R,
        fun H' ⟨g', acc, xs, z⟩ => ⟨ds.length - (i + 1), by omega, g', acc, xs, rfl, hlt, z⟩, fun x H3 hy => ?_⟩
      obtain ⟨s3, dx⟩ := f3 x H3 hy
      refine ⟨a, H0, O0, D :: O, wipeV ρ vs, g2, ds[i], _, r2.ext s3, dx, w2, fun ρ' σ' hw r' w' => ⟨(hw vs hj).trans (wipe_wipe fun _ h => h), ?_⟩⟩
      obtain ⟨hown, w'⟩ := w'
      have noD : ∀ (σ3 : L2.St) (j : Nat) (es : List PyData), (wipeV ρ' vs1)[j]? = some (Sl.own es) → σ3[j]? ≠ some (some (.ref D)) := fun σ3 j es h => by
        have := List.any_eq_false.mp hown _ (List.mem_of_getElem? h)
        exact absurd rfl this
      refine ⟨a, H0, O0, D :: O, ρ', g2, _, r', w', fun b g3 H4 k4 r4 w4 => ?_⟩
      -- the outer relation, over a heap that is kept from H3 on but at D
      have back : ∀ {H5 : Hp} {g5 : Nat} {zs : List V}, (∀ b o, b ≠ a → b ≠ D → H3 b = some o → H5 b = some o) → Pen K a (D :: O) g5 H5 → H5 D = some (.lst zs) → Rl K a H0 O0 (D :: O) (wipeV ρ vs) g5 (L2.wipe σ vs) H5 := fun {H5 g5 zs} k p hz => by
        have base := (r2.ext s3).poke (o := .lst zs) List.mem_cons_self (r1.freshH hD) hno
        refine base.step (fun b o n e => ?_) p
        by_cases hb : b = D
        · subst hb
          rw [upd_same] at e
          rw [hz, ← e]
        · rw [upd_ne hb] at e
          exact k b o n hb e
      have hx3 : H3 D = some (.lst xs) := s3 _ _ hx
      cases b with
      | false =>
        rw [if_neg Bool.false_ne_true] at w4
        refine iteF ?_
        exact ⟨g3, acc, xs, (k2.trans (Kp.of s3)).trans k4, back (fun b o n _ e => k4 b o n e) r4.pen (k4 D _ nDa hx3), k4 D _ nDa hx3, (hd.to (off_mono s3)).to (off_kp k4), w4⟩
      | true =>
        rw [if_pos rfl] at w4
        refine iteT ?_
        refine ⟨a, H0, O0, D :: O, ρ', g3, _, r4, w4, fun es g4 J1 H5 k5 r5 fd5 w5 => ?_⟩
        obtain ⟨hz, w5⟩ := w5
        have k35 : Kp a H3 H5 := k4.trans k5
        have hx5 : H5 D = some (.lst xs) := k35 D _ nDa hx3
        have hd5 : DqAll K (Off (a :: D :: O) H5) xs acc := (hd.to (off_mono s3)).to (off_kp k35)
        refine ⟨fun j k H' => ∃ g' ac ys, k = es.length - j ∧ j ≤ es.length ∧ (∀ b o, b ≠ a → b ≠ D → H5 b = some o → H' b = some o) ∧ Rl K a H0 O0 (D :: O) (wipeV ρ' vs1) g' (L2.wipe σ' vs1) H' ∧ H' D = some (.lst ys) ∧ DqAll K (Off (a :: D :: O) H') ys ac ∧ ac.length ≤ acc.length + j ∧
            lcV G1 T1 E (es.drop j) (wipeV ρ' vs1) ac g' fun acc' g3 => lcV2 G T WI1 G1 T1 E vs1 (ds.drop (i + 1)) (wipeV ρ vs) acc' g3 R,
          ⟨es.length, g4, acc, xs, rfl, Nat.zero_le _, fun b o _ _ e => e, r5.wipe vs1, hx5, hd5, Nat.le_refl _, w5⟩, ?_⟩
        rintro j k H6 ⟨g5, ac, ys, rfl, hj', k6, r6, hy6, hd6, hl6, w6⟩
        have sb6 : Sub (Off (a :: D :: O) H5) (Off (a :: D :: O) H6) := fun b o e => by
          obtain ⟨n, e⟩ := off_some.mp e
          exact off_in n (k6 b o (fun z => n (by rw [z]; exact List.mem_cons_self)) (fun z => n (by rw [z]; exact List.mem_cons_of_mem _ List.mem_cons_self)) e)
        obtain ⟨h1, h2⟩ := fd5 j (D :: O) H6 sb6 r6.liveA
        by_cases hlt1 : j < es.length
        · have e1 : es.drop j = es[j] :: es.drop (j + 1) := List.drop_eq_getElem_cons hlt1
          rw [e1] at w6
          obtain ⟨go1, h3⟩ := h1 es[j] (List.getElem?_eq_getElem hlt1)
          refine .inr ⟨go1, fun H' => ∃ g' ac ys, (∀ b o, b ≠ a → b ≠ D → H5 b = some o → H' b = some o) ∧ Rl K a H0 O0 (D :: O) (wipeV ρ' vs1) g' (L2.wipe σ' vs1) H' ∧ H' D = some (.lst ys) ∧ DqAll K (Off (a :: D :: O) H') ys ac ∧ ac.length ≤ acc.length + (j + 1) ∧
              lcV G1 T1 E (es.drop (j + 1)) (wipeV ρ' vs1) ac g' fun acc' g3 => lcV2 G T WI1 G1 T1 E vs1 (ds.drop (i + 1)) (wipeV ρ vs) acc' g3 R,
            fun H' ⟨g', ac, ys, z⟩ => ⟨es.length - (j + 1), by omega, g', ac, ys, rfl, hlt1, z⟩, fun x1 H7 hy1 => ?_⟩
          obtain ⟨s7, dx1⟩ := h3 x1 H7 hy1
          refine ⟨a, H0, O0, D :: O, wipeV ρ' vs1, g5, es[j], _, r6.ext s7, dx1, w6, fun ρ3 σ3 hw3 r3 w3 => ⟨(hw3 vs1 hj1).trans (wipe_wipe fun _ h => h), ?_⟩⟩
          refine ⟨a, H0, O0, D :: O, ρ3, g5, _, r3, w3, fun b g6 H8 k8 r8 w8 => ?_⟩
          have hy7 : H7 D = some (.lst ys) := s7 _ _ hy6
          have k58 : ∀ {H9 : Hp}, Kp a H7 H9 → ∀ b o, b ≠ a → b ≠ D → H5 b = some o → H9 b = some o := fun {H9} kk b o na nd e => kk b o na (s7 b o (k6 b o na nd e))
          cases b with
          | false =>
            rw [if_neg Bool.false_ne_true] at w8
            refine iteF ?_
            exact ⟨g6, ac, ys, k58 k8, (r6.ext s7).step k8 r8.pen, k8 D _ nDa hy7, (hd6.to (off_mono s7)).to (off_kp k8), by omega, w8⟩
          | true =>
            rw [if_pos rfl] at w8
            refine iteT ?_
            refine ⟨a, H0, O0, D :: O, ρ3, g6, _, r8, w8, fun y g7 v H9 k9 r9 d9 w9 => ?_⟩
            have k79 : Kp a H7 H9 := k8.trans k9
            have hy9 : H9 D = some (.lst ys) := k79 D _ nDa hy7
            have s9 : Sub (Off (a :: D :: O) H9) (Off (a :: D :: O) (upd H9 D (.lst (ys ++ [v])))) := off_poke (List.mem_cons_of_mem _ List.mem_cons_self)
            refine ⟨ys, hy9, by rw [hd6.len]; omega, g7, ac ++ [y], ys ++ [v], ?_, ?_, upd_same, ?_, by rw [List.length_append, List.length_singleton]; omega, w9⟩
            · intro b o na nd e
              rw [upd_ne nd]
              exact k58 k79 b o na nd e
            · exact ((r6.ext s7).step k79 r9.pen).poke List.mem_cons_self (r1.freshH hD) (noD _)
            · exact DqAll.app (((hd6.to (off_mono s7)).to (off_kp k79)).to s9) (.cons (d9.to s9) .nil)
        · have e1 : es.drop j = [] := List.drop_eq_nil_of_le (by omega)
          rw [e1] at w6
          refine .inl ⟨h2 (by omega), g5, ac, ys, ?_, ?_, hy6, hd6, w6⟩
          · intro b o na e
            have nb : b ≠ D := ne_of_none e hD
            exact k6 b o na nb (k35 b o na (s3 b o (k2 b o na e)))
          · exact back (fun b o na nd e => k6 b o na nd (k35 b o na e)) r6.pen hy6
    · have e0 : ds.drop i = [] := List.drop_eq_nil_of_le (by omega)
      rw [e0] at w2
      refine .inl ⟨f2 (by omega), ?_⟩
      exact q acc g2 D xs H2 (k1.trans k2) (r.stepH (k1.trans k2) hD0 (by rw [hx]; exact fun z => nomatch z) r2.pen) hD0 hx hd w2⟩
section
variable {X : Cx} {elt tg iter tg1 iter1 : Expr} {ifs ifs1 : List Expr} {pos : Pos}
theorem vl_lc2 {scope : Scope} {own : List (Str × Nat)} {vs1 : List Nat} {WI WI1 : WL} {js js1 : List Nat} {G G1 : WG} {T T1 : WT} {E : WE} (hc : X.calm = true) (hN : X.N.Nodup) (hi : VI X tg iter WI) (ok : BlkOk X.N X.env.scope scope own) (hv : ∀ i ∈ vs1, i ∈ own.map (·.2))
    (hg : ∀ (s : Shared) (H : Hp) (C : Addr) (cl : List (Str × Addr)) (fp : List Addr), VG (X.blk s H scope (compEnvC scope cl C X.env) fp) tg js G) (ht : ∀ (s : Shared) (H : Hp) (C : Addr) (cl : List (Str × Addr)) (fp : List Addr), VTs (X.blk s H scope (compEnvC scope cl C X.env) fp) ifs T)
    (hi1 : ∀ (s : Shared) (H : Hp) (C : Addr) (cl : List (Str × Addr)) (fp : List Addr), VI (X.blk s H scope (compEnvC scope cl C X.env) fp) tg1 iter1 WI1)
    (hg1 : ∀ (s : Shared) (H : Hp) (C : Addr) (cl : List (Str × Addr)) (fp : List Addr), VG (X.blk s H scope (compEnvC scope cl C X.env) fp) tg1 js1 G1) (ht1 : ∀ (s : Shared) (H : Hp) (C : Addr) (cl : List (Str × Addr)) (fp : List Addr), VTs (X.blk s H scope (compEnvC scope cl C X.env) fp) ifs1 T1)
    (he : ∀ (s : Shared) (H : Hp) (C : Addr) (cl : List (Str × Addr)) (fp : List Addr), VE (X.blk s H scope (compEnvC scope cl C X.env) fp) elt E) (hj : ∀ j ∈ js, j ∈ own.map (·.2) := by decide) (hj1 : ∀ j ∈ js1, j ∈ vs1 := by decide)
    (hs : ∀ x, foldedSetIterable iter X.env x = pure x := by intro _; rfl) (hs1 : ∀ env x, foldedSetIterable iter1 env x = pure x := by intro _ _; rfl) : VL X (.ListComp elt [⟨tg, iter, ifs, 0⟩, ⟨tg1, iter1, ifs1, 0⟩] scope pos) (lLc2 WI G T WI1 G1 T1 E (own.map (·.2)) vs1) :=
  pe_weak (pe_lc2 hc hN hi ok hv hg ht hi1 hg1 ht1 he hs hs1) (tL_lc2 hj hj1)
end
end Vl
/-! V14: truths among numbers: + - * with a truth at the left, 0 <= x < 2 with a truth in the middle. -/
namespace Vl
open PySem PySem.Spec PyProof.Rows L2
def ofB (b : Bool) : Int := if b = true then 1 else 0
theorem gives_lt_bi (a : Bool) (b : Int) (u : Tok) : Gives (Builtin.«int.__lt__» ⟨[.bool a, .int b u], []⟩) (.val (Value.bool (decide (ofB a < b)))) :=
  .of_wp fun M A E s Q h => by
    obtain ⟨hp, g, d, tk, os⟩ := s
    wp_walk
    exact ⟨_, rfl, h⟩
theorem gives_ge_bi (a : Bool) (b : Int) (u : Tok) : Gives (Builtin.«int.__ge__» ⟨[.bool a, .int b u], []⟩) (.val (Value.bool (decide (ofB a ≥ b)))) :=
  .of_wp fun M A E s Q h => by
    obtain ⟨hp, g, d, tk, os⟩ := s
    wp_walk
    exact ⟨_, rfl, h⟩
section
variable {prog : Program} {w : World} {A : Around} {E : Value → Shared → Prop} {s : Shared} {Q : Value → Shared → Prop}
theorem lt_bi {a : Bool} {b : Int} {u : Tok} (h : Q (.bool (decide (ofB a < b))) s) : wpAny (model prog w) A (compareOp .Lt (.bool a) (.int b u)) Q E s :=
  SeqAt.rc_left_or (op := .Lt) rfl (typeIs_int s b u) (by decide) F.sub_int_bool F.slot_bool_lt (call_gives F.slot_bool_lt rfl F.entry_int_lt (F.args_int_lt_2 _ _) (gives_lt_bi a b u) ⟨nofun, h⟩) (.inl rfl)
theorem le_ib {a : Int} {t : Tok} {b : Bool} (h : Q (.bool (decide (a ≤ ofB b))) s) : wpAny (model prog w) A (compareOp .LtE (.int a t) (.bool b)) Q E s :=
  SeqAt.rc_sub_first_or (op := .LtE) (typeIs_int s a t) rfl (by decide) F.sub_bool_int F.slot_bool_ge (call_gives F.slot_bool_ge rfl F.entry_int_ge (F.args_int_ge_2 _ _) (gives_ge_bi b a t) ⟨nofun, h⟩) (.inl rfl)
end
section
variable {X : Cx}
theorem op_ltB : OpR X (compareOp .Lt) (fun x y H Q => ∃ b j, x = .bl b ∧ y = .int j ∧ Q (.bl (decide (ofB b < j))) H) := by
  intro pins s σ H x y v u Q I rx ry h
  obtain ⟨b, j, rfl, rfl, q⟩ := h
  cases rx
  obtain ⟨t, rfl⟩ := ry
  exact lt_bi ⟨.bl _, H, I, rfl, q⟩
theorem op_leB : OpR X (compareOp .LtE) (fun x y H Q => ∃ i b, x = .int i ∧ y = .bl b ∧ Q (.bl (decide (i ≤ ofB b))) H) := by
  intro pins s σ H x y v u Q I rx ry h
  obtain ⟨i, b, rfl, rfl, q⟩ := h
  cases ry
  obtain ⟨t, rfl⟩ := rx
  exact le_ib ⟨.bl _, H, I, rfl, q⟩
theorem op_addB : OpR X (binaryOp .Add) (fun x y H Q => ∃ b j, x = .bl b ∧ y = .int j ∧ Q (.int (ofB b + j)) H) := by
  intro pins s σ H x y v u Q I rx ry h
  obtain ⟨b, j, rfl, rfl, q⟩ := h
  cases rx
  obtain ⟨t, rfl⟩ := ry
  exact IntBool.add_bool_int ⟨.int _, H, I.tok _, ⟨_, rfl⟩, q⟩
theorem op_subB : OpR X (binaryOp .Sub) (fun x y H Q => ∃ b j, x = .bl b ∧ y = .int j ∧ Q (.int (ofB b - j)) H) := by
  intro pins s σ H x y v u Q I rx ry h
  obtain ⟨b, j, rfl, rfl, q⟩ := h
  cases rx
  obtain ⟨t, rfl⟩ := ry
  exact IntBool.sub_bool_int ⟨.int _, H, I.tok _, ⟨_, rfl⟩, q⟩
theorem op_mulB : OpR X (binaryOp .Mult) (fun x y H Q => ∃ b j, x = .bl b ∧ y = .int j ∧ Q (.int (ofB b * j)) H) := by
  intro pins s σ H x y v u Q I rx ry h
  obtain ⟨b, j, rfl, rfl, q⟩ := h
  cases rx
  obtain ⟨t, rfl⟩ := ry
  exact IntBool.mul_bool_int ⟨.int _, H, I.tok _, ⟨_, rfl⟩, q⟩
end
def fBI (g : Int → Int → PyData) (f : F2) : F2 := fun x y R => match x, y with
  | .bool b, .int j => R (g (ofB b) j)
  | _, _ => f x y R
def fIB (g : Int → Int → PyData) (f : F2) : F2 := fun x y R => match x, y with
  | .int i, .bool b => R (g i (ofB b))
  | _, _ => f x y R
theorem opS_BI {K : PySem.W.Frag} {r : R2} {f : F2} {g : Int → Int → PyData} {gv : Int → Int → V} (hg : ∀ H i j, Dq K H (gv i j) (g i j)) (h : OpS K r f) : OpS K (fun x y H Q => (∃ b j, x = .bl b ∧ y = .int j ∧ Q (gv (ofB b) j) H) ∨ r x y H Q) (fBI g f) := by
  intro A H x y dx dy R Q hA hx hy w q
  by_cases z : ∃ b j, dx = .bool b ∧ dy = .int j
  · obtain ⟨b, j, rfl, rfl⟩ := z
    cases hx
    cases hy
    exact .inl ⟨_, _, rfl, rfl, q _ _ H (Sub.refl _) (hg _ _ _) w⟩
  · refine .inr (h A H x y dx dy R Q hA hx hy ?_ q)
    cases dx <;> try exact w
    cases dy <;> first
      | exact w
      | exact absurd ⟨_, _, rfl, rfl⟩ z
theorem opS_IB {K : PySem.W.Frag} {r : R2} {f : F2} {g : Int → Int → PyData} {gv : Int → Int → V} (hg : ∀ H i j, Dq K H (gv i j) (g i j)) (h : OpS K r f) : OpS K (fun x y H Q => (∃ i b, x = .int i ∧ y = .bl b ∧ Q (gv i (ofB b)) H) ∨ r x y H Q) (fIB g f) := by
  intro A H x y dx dy R Q hA hx hy w q
  by_cases z : ∃ i b, dx = .int i ∧ dy = .bool b
  · obtain ⟨i, b, rfl, rfl⟩ := z
    cases hx
    cases hy
    exact .inl ⟨_, _, rfl, rfl, q _ _ H (Sub.refl _) (hg _ _ _) w⟩
  · refine .inr (h A H x y dx dy R Q hA hx hy ?_ q)
    cases dx <;> try exact w
    cases dy <;> first
      | exact w
      | exact absurd ⟨_, _, rfl, rfl⟩ z
abbrev fAddN : F2 := fBI (fun i j => .int (i + j)) fAdd
abbrev fSubN : F2 := fBI (fun i j => .int (i - j)) fSub
abbrev fMulN : F2 := fBI (fun i j => .int (i * j)) fMulI
abbrev fLeN : F2 := fIB (fun i j => .bool (decide (i ≤ j))) fLe
abbrev fLtN : F2 := fBI (fun i j => .bool (decide (i < j))) fLtI
section
variable {X : Cx} {a b c : Expr} {pos : Pos} {Wa Wb Wc : WE}
theorem v_addN (ha : VE X a Wa) (hb : VE X b Wb) : VE X (.BinOp a .Add b pos) (wOp fAddN Wa Wb) := v_bin (op_addB.or op_addA) (opS_BI (gv := fun i j => .int (i + j)) (fun _ _ _ => .int _) opS_add) ha hb
theorem v_subN (ha : VE X a Wa) (hb : VE X b Wb) : VE X (.BinOp a .Sub b pos) (wOp fSubN Wa Wb) := v_bin (op_subB.or op_sub) (opS_BI (gv := fun i j => .int (i - j)) (fun _ _ _ => .int _) opS_I0) ha hb
theorem v_mulN (ha : VE X a Wa) (hb : VE X b Wb) : VE X (.BinOp a .Mult b pos) (wOp fMulN Wa Wb) := v_bin (op_mulB.or op_mul) (opS_BI (gv := fun i j => .int (i * j)) (fun _ _ _ => .int _) opS_I) ha hb
theorem t_leltN (ha : VE X a Wa) (hb : VE X b Wb) (hc : VE X c Wc) (hm : lastMarks [.LtE, .Lt] [b, c] = false := by with_unfolding_all rfl) : VT X (.Compare a [.LtE, .Lt] [b, c] pos) (wB (wChain fLeN fLtN Wa Wb Wc)) :=
  t_chain (op_leB.or op_le) (opS_IB (gv := fun i j => .bl (decide (i ≤ j))) (fun _ _ _ => .bl _) opS_B0) (op_ltB.or op_lt) (opS_BI (gv := fun i j => .bl (decide (i < j))) (fun _ _ _ => .bl _) opS_B0) ha hb hc hm
end
end Vl
/-! V15: < of tuples of ints. -/
namespace Vl
open PySem PySem.Spec PyProof.Rows L2
theorem dq_ints {K : PySem.W.Frag} {H : Hp} : ∀ {xs : List V} {ns : List Int}, DqAll K H xs (ns.map .int) → xs = ns.map V.int
  | _, [], h => by
    cases h
    rfl
  | _, n :: ns, h => by
    cases h with
    | cons h t =>
      cases h
      rw [dq_ints t]
      rfl
def fLtT : F2 := fun x y R => ∃ ns ms : List Int, x = .tuple (ns.map .int) ∧ y = .tuple (ms.map .int) ∧ R (.bool (HT.lexLt ns ms))
theorem opS_ltT {K : PySem.W.Frag} : OpS K (rLtT K) fLtT := fun A H x y dx dy R Q hA hx hy ⟨ns, ms, ex, ey, w⟩ q => by
  subst ex ey
  cases hx with
  | tup h1 h2 =>
    cases hy with
    | tup k1 k2 =>
      rw [dq_ints h2] at h1
      rw [dq_ints k2] at k1
      exact ⟨_, _, ns, ms, rfl, rfl, sqt_mono off_out h1, sqt_mono off_out k1, q _ _ H (Sub.refl _) (.bl _) w⟩
section
variable {X : Cx} {a b : Expr} {pos : Pos} {Wa Wb : WE}
theorem v_ltT (hu : X.A.units + 64 < cLine) (ha : VE X a Wa) (hb : VE X b Wb) : VE X (.Compare a [.Lt] [b] pos) (wOp fLtT Wa Wb) := v_cmp (op_ltT (by omega)) opS_ltT ha hb (nomark _)
theorem t_ltT (hu : X.A.units + 64 < cLine) (ha : VE X a Wa) (hb : VE X b Wb) : VT X (.Compare a [.Lt] [b] pos) (wB (wOp fLtT Wa Wb)) := t_cmp (op_ltT (by omega)) opS_ltT ha hb (nomark _)
end
end Vl
/-! V16: sorted of tuples, the order told by a number for each item. -/
namespace Vl
open PySem PySem.Spec PyProof.Rows L2
mutual
/-- x < y is k -/
inductive CmpR : Nat → PyData → PyData → Bool → Prop
  | int (n : Nat) (i j : Int) : CmpR n (.int i) (.int j) (decide (i < j))
  | str (n : Nat) (x y : Str) : CmpR n (.str x) (.str y) (decide (x.cps.toList < y.cps.toList))
  | tup {n : Nat} {xs ys : List PyData} {k : Bool} : CmpS n xs ys k → CmpR (n + 1) (.tuple xs) (.tuple ys) k
inductive CmpS : Nat → List PyData → List PyData → Bool → Prop
  | nilL (n : Nat) (ys : List PyData) : CmpS n [] ys (!ys.isEmpty)
  | nilR (n : Nat) (x : PyData) (xs : List PyData) : CmpS n (x :: xs) [] false
  | same {n : Nat} {x y : PyData} {xs ys : List PyData} {k : Bool} : x.plain = true → y.plain = true → min x.depth y.depth ≤ 50 → PyData.eqv x y = true → CmpS n xs ys k → CmpS n (x :: xs) (y :: ys) k
  | diff {n : Nat} {x y : PyData} {xs ys : List PyData} {k : Bool} : x.plain = true → y.plain = true → min x.depth y.depth ≤ 50 → PyData.eqv x y = false → CmpR n x y k → CmpS n (x :: xs) (y :: ys) k
end
mutual
theorem rcR_of {s : Shared} : ∀ {n : Nat} {d e : PyData} {k : Bool} {A : Around} {v u : Value} {as bs : List Addr}, CmpR n d e k → Reads s.heap v d as → Reads s.heap u e bs → A.units + n + 52 < cLine → SeqAt.RcLt A s v u k
  | _, _, _, _, A, _, _, _, _, .int n i j, r1, r2, hu => by
    cases r1
    cases r2
    exact fun prog w E Q q => PyProof.Rows.lt_int q
  | _, _, _, _, A, _, _, _, _, .str n x y, r1, r2, hu => by
    cases r1
    cases r2
    exact fun prog w E Q q => PyProof.Rows.lt_str q
  | _, _, _, _, A, _, _, _, _, .tup c, r1, r2, hu => by
    cases r1 with
    | @tuple l o vs m _ _ h1 h2 h3 h4 =>
      cases r2 with
      | @tuple l' o' vs' m' _ _ k1 k2 k3 k4 =>
        exact lex_lt ⟨_, h1, h2, _, h3⟩ ⟨_, k1, k2, _, k3⟩ (by omega) (lexR_of (A := A.in1) (vs := vs) (ws := vs') (i := 0) c h4 k4 (Nat.zero_le _) (Nat.zero_le _) (by show A.units + 1 + _ + 52 < cLine; omega))
theorem lexR_of {s : Shared} : ∀ {n : Nat} {xs ys : List PyData} {k : Bool} {A : Around} {vs ws : Array Value} {i : Nat} {as bs : List Addr}, CmpS n xs ys k → ReadsAll s.heap (vs.toList.drop i) xs as → ReadsAll s.heap (ws.toList.drop i) ys bs → i ≤ vs.size → i ≤ ws.size →
    A.units + n + 52 < cLine → LexI A s vs ws k i
  | _, _, _, _, A, vs, ws, i, _, _, .nilL n ys, r1, r2, i1, i2, hu => by
    generalize hz : vs.toList.drop i = z at r1
    generalize hy : ws.toList.drop i = y at r2
    cases r1
    have a := drop_none hz
    refine .fin (by omega) ?_
    cases r2 with
    | nil =>
      have b := drop_none hy
      exact (decide_eq_false (by omega)).symm
    | cons _ _ =>
      obtain ⟨h1, _, _⟩ := drop_head hy
      exact (decide_eq_true (by omega)).symm
  | _, _, _, _, A, vs, ws, i, _, _, .nilR n x xs, r1, r2, i1, i2, hu => by
    generalize hz : vs.toList.drop i = z at r1
    generalize hy : ws.toList.drop i = y at r2
    cases r2
    have b := drop_none hy
    cases r1 with
    | cons _ _ =>
      obtain ⟨h1, _, _⟩ := drop_head hz
      exact .fin (by omega) (decide_eq_false (by omega)).symm
  | _, _, _, _, A, vs, ws, i, _, _, .same p1 p2 p3 p4 c, r1, r2, i1, i2, hu => by
    generalize hz : vs.toList.drop i = z at r1
    generalize hy : ws.toList.drop i = y at r2
    cases r1 with
    | cons a1 a2 =>
      cases r2 with
      | cons b1 b2 =>
        obtain ⟨h1, rfl, e1⟩ := drop_head hz
        obtain ⟨h2, rfl, e2⟩ := drop_head hy
        have q := SeqAt.eqAt_plain _ _ A s _ _ _ _ a1 b1 p1 p2 (by omega)
        rw [p4] at q
        rw [← e1] at a2
        rw [← e2] at b2
        exact .yes h1 h2 q (lexR_of c a2 b2 h1 h2 hu)
  | _, _, _, _, A, vs, ws, i, _, _, .diff p1 p2 p3 p4 c, r1, r2, i1, i2, hu => by
    generalize hz : vs.toList.drop i = z at r1
    generalize hy : ws.toList.drop i = y at r2
    cases r1 with
    | cons a1 a2 =>
      cases r2 with
      | cons b1 b2 =>
        obtain ⟨h1, rfl, e1⟩ := drop_head hz
        obtain ⟨h2, rfl, e2⟩ := drop_head hy
        have q := SeqAt.eqAt_plain _ _ A s _ _ _ _ a1 b1 p1 p2 (by omega)
        rw [p4] at q
        exact .no h1 h2 q (rcR_of c a1 b1 hu)
end
/-- what is asked of the items: code tells their order -/
structure OrdC (code : PyData → Int) (ds : List PyData) : Prop where
  nx : ∀ d ∈ ds, noX d = true
  hd : ∀ d ∈ ds, ∃ z r, d = .tuple (.tuple z :: r)
  cmp : ∀ d ∈ ds, ∀ e ∈ ds, CmpR 4 d e (decide (code d < code e))
open Classical in
/-- the number of a value, by what it reads as in h -/
noncomputable def codeAt (code : PyData → Int) (h : Heap) (v : Value) : Int := if q : ∃ d as, Reads h v d as then code q.choose else 0
theorem codeAt_eq {code : PyData → Int} {h : Heap} {v : Value} {d : PyData} {as : List Addr} (r : Reads h v d as) : codeAt code h v = code d := by
  have q : ∃ d as, Reads h v d as := ⟨d, as, r⟩
  unfold codeAt
  rw [dif_pos q]
  obtain ⟨bs, r2⟩ := q.choose_spec
  rw [(r2.unique _ _ r).1]
noncomputable def ltC (code : PyData → Int) (h : Heap) (v u : Value) : Bool := decide (codeAt code h v < codeAt code h u)
theorem ltC_swo {code : PyData → Int} {h : Heap} : SrtO.Swo (ltC code h) where
  asym := fun x y q => by
    have := of_decide_eq_true q
    exact decide_eq_false (by omega)
  tr := fun x y z p q => by
    have a := of_decide_eq_false p
    have b := of_decide_eq_false q
    exact decide_eq_false (by omega)
def rSortC (K : PySem.W.Frag) (code : PyData → Int) : List V → Hp → VK → Prop := fun vs H Q => ∃ (a : Addr) (xs : List V) (ds : List PyData) (B : List Addr), vs = [V.ref a] ∧ SqL K H a xs ∧ DqAll K (Off B H) xs ds ∧ OrdC code ds ∧
  ∀ (ys : List V) (es : List PyData) (p : Addr), es.Perm ds → es.Pairwise (fun d e => code d ≤ code e) → DqAll K (Off B H) ys es → H p = none → Q (.ref p) (upd H p (.lst ys))
section
variable {X : Cx}
theorem call_sortC {code : PyData → Int} (hu : X.A.units + 64 < cLine) : CallR X (.builtin "sorted") (rSortC X.K code) := by
  intro pins s σ H vs us Q I r h
  obtain ⟨a, xs, ds, B, rfl, hs, hd, ho, q⟩ := h
  obtain ⟨its, rv, hl, hz⟩ := I.list hs
  rw [Vals.ref1 r]
  obtain ⟨zs, e1, e2, e3, hzs⟩ := side hd rv
  have hlen : its.length ≤ sizeLine := by rw [← rv.length]; exact hz
  have rdz : ∀ z ∈ zs, ∃ as, Reads s.heap z.2.2 z.2.1 as := fun z hzm =>
    Dq.reads I z.2.1 z.1 z.2.2 (ho.nx _ (by rw [e2]; exact List.mem_map.mpr ⟨z, hzm, rfl⟩)) ((hzs z hzm).1.to off_out) (hzs z hzm).2
  have rd : ∀ v ∈ its, ∃ d ∈ ds, ∃ as, Reads s.heap v d as := fun v hv => by
    rw [e3] at hv
    obtain ⟨z, hzm, rfl⟩ := List.mem_map.mp hv
    obtain ⟨as, ra⟩ := rdz z hzm
    exact ⟨_, by rw [e2]; exact List.mem_map.mpr ⟨z, hzm, rfl⟩, as, ra⟩
  refine SrtO.sorted_ord (ltv := ltC code s.heap) ltC_swo hl.isList hlen (fun h2 h1 b hb keep => ?_) (fun out hsrt hstb => ?_)
  · intro h' keep2
    have kk : ∀ b o, s.heap.get? b = some o → h'.get? b = some o := fun b o e => keep2 b o (keep b o e).1 (keep b o e).2
    have firsts : ∀ l : List Value, (∀ v ∈ l, v ∈ its) → ∃ fs, PySem.W.KatTups h' l fs ∧ fs.length = l.length ∧ ∀ f ∈ fs, ∃ (a : Addr) (o : Obj), f = .ref a ∧ h'.get? a = some o ∧ o.cls = .type "tuple" := by
      intro l
      induction l with
      | nil => exact fun _ => ⟨[], PySem.W.KatTups.nil, rfl, fun _ h => (nomatch h)⟩
      | cons v l ih =>
        intro hm
        obtain ⟨fs, f1, f2, f3⟩ := ih fun x hx => hm x (List.mem_cons_of_mem _ hx)
        obtain ⟨d, hdm, as, ra⟩ := rd v (hm v List.mem_cons_self)
        obtain ⟨z, rr, rfl⟩ := ho.hd d hdm
        cases ra with
        | @tuple a0 o vs0 n _ _ g1 g2 g3 g4 =>
          generalize hw : vs0.toList = w0 at g4
          cases g4 with
          | @cons f0 _ _ _ _ _ c1 c2 =>
            cases c1 with
            | @tuple a1 o1 vs1 n1 _ _ k1 k2 k3 k4 =>
              refine ⟨.ref a1 :: fs, PySem.W.KatTups.cons (kk _ _ g1) g2 g3 (by rw [← Array.getElem?_toList, hw]; rfl) f1, by rw [List.length_cons, List.length_cons, f2], fun f hf => ?_⟩
              rcases List.mem_cons.mp hf with rfl | hf
              · exact ⟨a1, o1, rfl, kk _ _ k1, k2⟩
              · exact f3 f hf
    obtain ⟨fs, f1, f2, f3⟩ := firsts its fun _ h => h
    refine ⟨tuples' (Value.type "tuple" != Value.type "tuple"), fun Q' E' q' => ?_, ?_⟩
    · refine PySem.W.kat_kind (T := .type "tuple") f1 (by omega) (fun f hf => ?_) (by decide +kernel) q'
      obtain ⟨a1, o1, rfl, k1, k2⟩ := f3 f hf
      exact (PySem.W.Looks.ld k1).andThen (by rw [k2]; exact .now)
    · intro p q' hp hq
      obtain ⟨d, hdm, as, ra⟩ := rd _ hp
      obtain ⟨e, hem, bs, rb⟩ := rd _ hq
      have ra' := Reads.keeps kk ra
      have rb' := Reads.keeps kk rb
      have c := ho.cmp d hdm e hem
      have ek : SrtO.lt2 (ltC code s.heap) p q' = decide (code d < code e) := by
        show decide (codeAt code s.heap p.1 < codeAt code s.heap q'.1) = _
        rw [codeAt_eq ra, codeAt_eq rb]
      rw [ek]
      clear ek
      obtain ⟨z1, r1, rfl⟩ := ho.hd d hdm
      obtain ⟨z2, r2, rfl⟩ := ho.hd e hem
      generalize p.1 = pv at ra'
      generalize q'.1 = qv at rb'
      cases ra' with
      | @tuple a0 o vs0 n _ _ g1 g2 g3 g4 =>
        cases rb' with
        | @tuple b0 o' ws0 n' _ _ k1 k2 k3 k4 =>
          generalize decide (code (.tuple (.tuple z1 :: r1)) < code (.tuple (.tuple z2 :: r2))) = k at c ⊢
          cases c with
          | tup c =>
            exact PySem.W.kat_lt g1 g3 k1 k3 (kat_of (lexR_of (s := { s with heap := h' }) (A := X.A.in1.in1) (vs := vs0) (ws := ws0) (i := 0) c g4 k4 (Nat.zero_le _) (Nat.zero_le _) (by show X.A.units + 1 + 1 + 3 + 52 < cLine; omega)))
  · obtain ⟨zs', hzp, rfl⟩ := Vl.perm_lift (fun z : V × PyData × Value => z.2.2) hstb.perm zs e3
    obtain ⟨ep, he'⟩ := PyProof.Rows.sortedAll_at s.heap its (zs'.map (·.2.2)).toArray
    have hz' : ∀ z ∈ zs', Dq X.K (Off B H) z.1 z.2.1 ∧ RelV z.1 z.2.2 := fun z hz => hzs z (hzp.mem_iff.mp hz)
    obtain ⟨dq, vl⟩ := side_dq hz'
    have hl2 : (zs'.map (·.1)).length ≤ sizeLine := by
      rw [List.length_map, hzp.length_eq]
      rw [e3, List.length_map] at hlen
      exact hlen
    refine ⟨.ref _, upd H (s.heap.objs.size + 1) (.lst (zs'.map (·.1))), I.laid (t' := s.toks) (fun _ _ => PyProof.Rows.sortedAll_old) (Nat.le_succ _) ⟨hl2, zs'.map (·.2.2), ep, vl, he'⟩, rfl, q _ _ _ ?_ ?_ dq (I.hok.fresh (Nat.le_succ _))⟩
    · rw [e2]
      exact hzp.map _
    · have h0 := List.pairwise_map.mp hsrt
      refine List.pairwise_map.mpr (h0.imp_of_mem fun {x y} hx hy hxy => ?_)
      obtain ⟨as, ra⟩ := rdz x (hzp.mem_iff.mp hx)
      obtain ⟨bs, rb⟩ := rdz y (hzp.mem_iff.mp hy)
      have := of_decide_eq_false hxy
      rw [codeAt_eq ra, codeAt_eq rb] at this
      show code x.2.1 ≤ code y.2.1
      omega
variable {e : Expr} {pos : Pos} {W : WE}
def lSortC (code : PyData → Int) (W : WE) : WL := fun ρ g R => W ρ g fun d g1 => ∃ xs, d = .list xs ∧ OrdC code xs ∧ ∀ ys, ys.Perm xs → ys.Pairwise (fun d e => code d ≤ code e) → R ys g1
theorem vl_sortedC {p : Pos} (code : PyData → Int) (hu : X.A.units + 64 < cLine) (hg : Gl X "sorted") (hm : X.mg "sorted" = none) (he : VE X e W) (hv : bootBuiltins "sorted" = some (.builtin "sorted") := by decide +kernel) (hs : starEach [e] X.env = (false, eval e X.env) :: starEach [] X.env := by rfl) :
    VL X (.Call (.Name "sorted" p) [e] [] pos) (lSortC code W) :=
  pe_weak (pe_callB (call_sortC (code := code) hu) hg hm hv (pa_cons he pa_nil hs) (by decide) (by decide) hs rfl) fun σ H Q ⟨a, H0, O0, O, ρ, g, R, r, w, q⟩ => ⟨a, H0, O0, O, ρ, g, _, r, w, fun d g1 v H1 k1 r1 d1 w1 => by
    obtain ⟨xs, rfl, ho, w1⟩ := w1
    cases d1 with
    | @lst l vs _ h1 h2 =>
      refine ⟨l, vs, xs, a :: O, rfl, SqL.of (off_out _ _ h1), h2, ho, fun ys es p hp hps hd hn => ?_⟩
      have h0 : H p = none := by
        cases e : H p with
        | none => rfl
        | some o =>
          by_cases z : p = a
          · exact absurd hn (r1.liveA p (by rw [z]; exact List.mem_cons_self))
          · rw [k1 p o z e] at hn
            cases hn
      exact q es g1 p ys _ (k1.trans (Kp.of (sub_upd hn))) (r1.hide hn) h0 upd_same (hd.to (off_new hn)) (w1 es hp hps)⟩
end
end Vl
/-! V17: enumerate of a tuple. -/
namespace Vl
open PySem PySem.Spec PyProof.Rows L2

theorem en_new {v : Value} {o : Obj} {F : Heap → Prop} (B : Begins v o F) :
    Meets (Builtin.«enumerate.__new__» ⟨[.type "enumerate", v], []⟩) (fun _ R s => F s.heap ∧
      R (.ok (.ret (.ref (s.heap.push o).objs.size))) { s with heap := (s.heap.push o).push { cls := .type "enumerate", data := .fields #[.none, .bool false, .ref s.heap.objs.size, rawInt 0, .none, .none] } }) :=
  .of_wp fun prog w A R s h => by
    obtain ⟨hp, g, d, tk, os⟩ := s
    obtain ⟨h1, h⟩ := h
    have hsub := sub_enumerate
    have q1 : ∀ {A' : Around} {E : Value → Shared → Prop} {Q : Value → Shared → Prop}, Q (.ref hp.objs.size) ⟨hp.push o, g, d, tk, os⟩ → wpAny (model prog w) A' (pyIter v) Q E ⟨hp, g, d, tk, os⟩ :=
      fun q => B.iter prog w _ _ ⟨hp, g, d, tk, os⟩ _ h1 q
    wp_walk using q1
    refine wpAny_stack_any fun st => wpAny_pure ?_
    split
    · rename_i c _ _ _ _ _
      cases (c == Value.type "enumerate")
      · wp_walk using q1
        exact ⟨_, rfl, h⟩
      · wp_walk using q1
        exact ⟨_, rfl, h⟩
    · wp_walk using q1
      exact ⟨_, rfl, h⟩
theorem en_call {prog : Program} {w : World} {A : Around} {E : Value → Shared → Prop} {s : Shared} {l : Addr} {items : Array Value} {Q : Value → Shared → Prop} (hL : s.heap.IsTuple l items)
    (h : ∀ h', IsEnum h' (s.heap.objs.size + 1) s.heap.objs.size 0 .none → h'.IsTupleIter s.heap.objs.size l 0 → h'.objs.size = s.heap.objs.size + 2 →
      (∀ b o, s.heap.get? b = some o → h'.get? b = some o) → Q (.ref (s.heap.objs.size + 1)) { s with heap := h' }) :
    wpAny (model prog w) A (call (.type "enumerate") [.ref l]) Q E s := by
  refine callType_new F.called_enumerate (by decide) (F.typeCall_enumerate_1 _) (F.newCall_enumerate_1 _) (fun obj => F.args_object_init_2 obj _) F.entry_enumerate_new
    (en_new (begins_tuple l items)) ⟨hL, ?_⟩
  have hz : (s.heap.push { cls := .type "tuple_iterator", data := .fields #[.ref l, .int 0 0] }).objs.size = s.heap.objs.size + 1 := Heap.size_push ..
  show _ ∧ _
  rw [hz]
  have he : IsEnum ((s.heap.push { cls := .type "tuple_iterator", data := .fields #[.ref l, .int 0 0] }).push
      { cls := .type "enumerate", data := .fields #[.none, .bool false, .ref s.heap.objs.size, rawInt 0, .none, .none] }) (s.heap.objs.size + 1) s.heap.objs.size 0 .none := by
    have := Heap.get?_push_size (s.heap.push { cls := .type "tuple_iterator", data := .fields #[.ref l, .int 0 0] })
      (o := { cls := .type "enumerate", data := .fields #[.none, .bool false, .ref s.heap.objs.size, rawInt 0, .none, .none] }) rfl
    rw [hz] at this; exact this
  refine ⟨⟨_, he, rfl⟩, h _ he ⟨_, Heap.get?_push_of_some _ (Heap.get?_push_size _ rfl), rfl, rfl⟩ (by rw [Heap.size_push, hz]) fun b o x => Heap.get?_push_of_some _ (Heap.get?_push_of_some _ x)⟩

theorem en_end {prog : Program} {w : World} {A : Around} {E : Value → Shared → Prop} {s : Shared} {e it t : Addr} {i : Nat} {j : Int} {items : Array Value} {old : Value} {Q : Option Value → Shared → Prop} (hh : A.handled = none)
    (he : IsEnum s.heap e it j old) (hit : s.heap.IsTupleIter it t i) (ht : s.heap.IsTuple t items) (hx : items[i]? = none)
    (hQ : ∀ h', Heap.ExtBut it s.heap h' → Q none { s with heap := h' }) : wpAny (model prog w) A (pyNext (.ref e)) Q E s := by
  have hT : s.TypeIs (.ref e) "enumerate" := ⟨_, he, rfl⟩
  unfold pyNext
  refine wpAny_bind (wpAny_attempt (wpAny_callSpecial?_slot (name := Str.ofString "__next__") hT F.slot_enumerate_next
    (wpAny_call_entry F.slot_enumerate_next hT F.entry_enumerate_next ?_ (F.args_enumerate_next_1 _))))
  show wpAny _ _ (field (.ref e) 2 >>= _) _ _ _
  refine wpAny_bind (wpAny_field he rfl (x := .ref it) rfl ?_)
  refine wpAny_bind (wpAny_nextOf_tuple_end (A := A.in1) hh hit ht hx fun h' x he' hx' => ?_)
  obtain ⟨o, ho, hc⟩ := hx'
  refine wpAny_bind (wpAny_isInstance (T := "StopIteration") (b := true) ⟨o, ho, hc⟩ isSubtype_stop ?_)
  exact wpAny_pure (hQ _ he')

/-- the tuple at a as it stands at each turn, each item in a new pair -/
def IteT (K : PySem.W.Frag) (a : Addr) : It :=
  ⟨fun i H => ∃ (xs : List V) (x : V), SqT K H a xs ∧ xs[i]? = some x, fun i H v H' => ∃ T x, v = .ref T ∧ H T = none ∧ H' = upd H T (.tup [.int (i : Nat), x]) ∧ ∀ xs, SqT K H a xs → xs[i]? = some x, fun i H => ∃ xs : List V, SqT K H a xs ∧ xs.length ≤ i⟩
theorem turn_enT {P : Program} {w : World} {K : PySem.W.Frag} {elts : List Expr} {kk : Nat} {tpos : Pos} (a e it : Addr) (hei : e ≠ it) (hea : e ≠ a) (hai : a ≠ it) :
    Turn P w K (.Tuple elts kk tpos) (IteT K a) [e, it] e (fun i h => (∃ old, IsEnum h e it ((i : Nat) : Int) old) ∧ h.IsTupleIter it a i) where
  mem := by simp
  obj := fun i h st b hb => by
    obtain ⟨⟨old, he⟩, ⟨o, ho, hc, hd⟩⟩ := st
    have e' : b = e ∨ b = it := by simpa using hb
    rcases e' with z | z
    · rw [z]; exact ⟨_, he, fun v q => nomatch q⟩
    · rw [z]; exact ⟨o, ho, fun v q => by rw [hd] at q; cases q⟩
  keep := fun i h h' st k => let ⟨⟨old, he⟩, hi⟩ := st; ⟨⟨old, k e (by simp) _ he⟩, hi.at fun o q => k it (by simp) o q⟩
  item := by
    intro X hP hw hK hc i pins s σ H E I hf st hg
    subst hP hw hK
    obtain ⟨⟨old, he⟩, hit⟩ := st
    obtain ⟨xs, x, hq, hx⟩ := hg
    obtain ⟨its, rv, p, hz⟩ := I.tuple hq
    obtain ⟨u, hu, ru⟩ := rv.get hx
    have hel : e < s.heap.objs.size := Heap.lt_size he
    have hil : it < s.heap.objs.size := by obtain ⟨_, q, _⟩ := hit; exact Heap.lt_size q
    have hlt : i < its.toArray.size := by
      have := (List.getElem?_eq_some_iff.mp hu).1
      simpa using this
    have hh : X.A.handled = none := I.ok.hd hc
    refine wpAny_pyNext_enum_itemD (Draws.tuple (A := X.A.in1) hh it a hai its.toArray) he ⟨hit, show s.heap.IsTuple a its.toArray from p⟩ hlt hei (by simp [hei, hea]) fun u' h' tk hP' ho hst' hT hsz hk => ?_
    obtain ⟨hit', _⟩ := hst'
    have eu : u' = u := by
      have h0 : its.toArray[i]? = some u' := hP'
      have h1 : its.toArray[i]? = some u := by simpa using hu
      rw [h0] at h1
      exact Option.some.inj h1
    subst eu
    refine ⟨_, rfl, wpAny_letOwnedTupleGo_enum (s := { s with heap := h', toks := tk + 1 }) ho fun h'' he' sb => ?_⟩
    have hT2 : h''.get? s.heap.objs.size = some { cls := .type "tuple", data := .seq #[.int i tk, u'] } := (sb.2 _ (Nat.ne_of_gt hel)).trans hT
    have new : ObjOk X.prog X.w (upd H s.heap.objs.size (.tup [.int (i : Nat), x])) h'' s.heap.objs.size (.tup [.int (i : Nat), x]) :=
      ⟨by show 2 ≤ sizeLine; decide, [.int i tk, u'], .cons ⟨_, rfl⟩ (.cons ru .nil), ⟨_, hT2, rfl, _, rfl⟩⟩
    have I1 : Inv X pins σ (upd H s.heap.objs.size (.tup [.int (i : Nat), x])) { s with heap := h'', toks := tk + 1 } :=
      I.turnedNew (ch := [e, it]) (fun b ob hb q => (sb.2 b (fun z => hb (by simp [z]))).trans (hk b ob (fun z => hb (by simp [z])) (fun z => hb (by simp [z])) q)) hf (Nat.le_refl _) new
    refine ⟨.ref s.heap.objs.size, _, I1, rfl, ⟨_, x, rfl, I.hok.fresh (Nat.le_refl _), rfl, fun ys hy => by rw [I.tuple_inj hy hq]; exact hx⟩, ⟨⟨u', ?_⟩, hit'.at fun o q => (sb.2 it (Ne.symm hei)).trans q⟩, fun b hb => ?_⟩
    · have e1 : ((i + 1 : Nat) : Int) = (i : Int) + 1 := by omega
      rw [e1]; exact he'
    · have hb' : b < s.heap.objs.size := by
        have e' : b = e ∨ b = it := by simpa using hb
        rcases e' with z | z
        · rw [z]; exact hel
        · rw [z]; exact hil
      rw [upd_ne (Nat.ne_of_lt hb')]
      exact (hf b hb).1
  done := by
    intro X hP hw hK hc i pins s σ H E I hf st hg
    subst hP hw hK
    obtain ⟨⟨old, he⟩, hit⟩ := st
    obtain ⟨xs, hq, hx⟩ := hg
    obtain ⟨its, rv, p, hz⟩ := I.tuple hq
    obtain ⟨f0, f1, f2, f3, f4, f5⟩ := hf it (by simp)
    have hl := rv.length
    have hh : X.A.handled = none := I.ok.hd hc
    exact en_end hh he hit (show s.heap.IsTuple a its.toArray from p) (by simp; omega) fun h' eb => ⟨rfl, I.turned (t' := s.toks) (fun b o hb q => eb b o hb q) f0 f1 f3 f4 f5⟩
  self := fun A i s Q E st h => let ⟨⟨_, he⟩, _⟩ := st; wpAny_pyIter_enum he h

/-- enumerate of a list or of a tuple -/
def iEnA (K : PySem.W.Frag) (ta : TA) : TI := fun σ H R => ta σ H fun vs H1 => ∃ a xs, vs = [.ref a] ∧ ((SqL K H1 a xs ∧ R (Ite K a) H1) ∨ (SqT K H1 a xs ∧ R (IteT K a) H1))
theorem pi_enA {X : Cx} {e : Expr} {ta : TA} {p pos tpos : Pos} {elts : List Expr} {kk : Nat} (hg : Gl X "enumerate") (hm : X.mg "enumerate" = none) (ha : PA X [e] ta) (hs : starEach [e] X.env = [(false, eval e X.env)] := by rfl) :
    PI X (.Tuple elts kk tpos) (.Call (.Name "enumerate" p) [e] [] pos) (iEnA X.K ta) := by
  refine ⟨fun pins s σ H R I h => ?_⟩
  refine Call_ (ld_blt I hg hm boot_enumerate (PyProof.Rows.callWith_type1 (thn (ha.run pos pins s σ H _ I h) fun us s1 ⟨vs, H1, I1, r1, q1⟩ => ?_) hs rfl))
  obtain ⟨a, xs, ex, q1⟩ := q1
  subst ex
  cases r1 with
  | cons r rr =>
    cases rr
    cases r
    have fresh2 : ∀ b, b ∈ [s1.heap.objs.size + 1, s1.heap.objs.size] → FpOk X pins H1 b := fun b hb => by
      have e' : b = s1.heap.objs.size + 1 ∨ b = s1.heap.objs.size := by simpa using hb
      have hle : s1.heap.objs.size ≤ b := by
        rcases e' with z | z
        · rw [z]; exact Nat.le_add_right _ _
        · rw [z]; exact Nat.le_refl _
      exact I1.fpOk hle (I1.hok.fresh hle)
    rcases q1 with ⟨hq, q⟩ | ⟨hq, q⟩
    · obtain ⟨its, rv, p', hz⟩ := I1.list hq
      refine call_enumerate_list p'.isList fun h' he hit hsz hk => wpAny_pyIter_enum he ?_
      have I2 : Inv X pins σ H1 { s1 with heap := h' } := I1.kept (t' := s1.toks) hk
      exact ⟨s1.heap.objs.size + 1, [s1.heap.objs.size + 1, s1.heap.objs.size], _, _, H1, rfl, I2, turn_enum a (s1.heap.objs.size + 1) s1.heap.objs.size, ⟨⟨.none, he⟩, hit, Nat.succ_ne_self _⟩, fresh2, q⟩
    · obtain ⟨its, rv, p', hz⟩ := I1.tuple hq
      obtain ⟨o1, ho1, _⟩ := id p'
      have hlt : a < s1.heap.objs.size := Heap.lt_size ho1
      refine en_call (show s1.heap.IsTuple a its.toArray from p') fun h' he hit hsz hk => wpAny_pyIter_enum he ?_
      have I2 : Inv X pins σ H1 { s1 with heap := h' } := I1.kept (t' := s1.toks) hk
      exact ⟨s1.heap.objs.size + 1, [s1.heap.objs.size + 1, s1.heap.objs.size], _, _, H1, rfl, I2, turn_enT a (s1.heap.objs.size + 1) s1.heap.objs.size (Nat.succ_ne_self _) (Nat.ne_of_gt (Nat.lt_succ_of_lt hlt)) (Nat.ne_of_lt hlt), ⟨⟨.none, he⟩, hit⟩, fresh2, q⟩

theorem feed_enT {K : PySem.W.Frag} {a l : Addr} {Hd : Hp} {xs : List V} {ds : List PyData} (h : SqT K Hd l xs) (hd : DqAll K Hd xs ds) : Feed K a Hd (IteT K l) ((List.range ds.length).zipWith (fun (k : Nat) d => .tuple [.int (k : Nat), d]) ds) := fun i O' H2 s hv => by
  have hl : SqT K H2 l xs := sqt_mono off_out (sqt_mono s h)
  refine ⟨fun d e => ?_, fun hi => ⟨xs, hl, by rw [hd.len]; rw [List.length_zipWith, List.length_range] at hi; omega⟩⟩
  rw [List.getElem?_zipWith] at e
  cases q1 : ds[i]? with
  | none => rw [q1] at e; cases hq : (List.range ds.length)[i]? <;> rw [hq] at e <;> simp at e
  | some d1 =>
    have hi : i < ds.length := (List.getElem?_eq_some_iff.mp q1).1
    rw [q1, List.getElem?_range hi] at e
    cases e
    obtain ⟨v1, e1, w1⟩ := DqAll.at hd q1
    refine ⟨⟨xs, v1, hl, e1⟩, fun x H3 ⟨T, x1, ex, hT, e3, f1⟩ => ?_⟩
    have z1 := f1 xs hl
    rw [e1] at z1
    cases z1
    subst ex e3
    have s3 := sub_upd (o := .tup [.int (i : Nat), v1]) hT
    exact ⟨s3, .tup (.inl (.inl (off_upd hv hT))) (.cons (.int _) (.cons ((w1.to s).to (off_mono s3)) .nil))⟩
def iEm (V : WL) : WL := fun ρ g R => V ρ g fun ds g1 => match ds with
  | [.list xs] => R ((List.range xs.length).zipWith (fun (k : Nat) d => .tuple [.int (k : Nat), d]) xs) g1
  | [.tuple xs] => R ((List.range xs.length).zipWith (fun (k : Nat) d => .tuple [.int (k : Nat), d]) xs) g1
  | _ => False
section
variable {X : Cx} {e : Expr} {pos : Pos}
/-- for i, x in enumerate(e): e a list or a tuple -/
theorem vi_enA {V : WL} {p tpos : Pos} {elts : List Expr} {kk : Nat} (hg : Gl X "enumerate") (hm : X.mg "enumerate" = none) (ha : VA X [e] V) (hs : starEach [e] X.env = [(false, eval e X.env)] := by rfl) :
    VI X (.Tuple elts kk tpos) (.Call (.Name "enumerate" p) [e] [] pos) (iEm V) := pi_weak (pi_enA hg hm ha hs) fun σ H S ⟨a, H0, O0, O, ρ, g, R, r, w, q⟩ => ⟨a, H0, O0, O, ρ, g, _, r, w, fun ds g1 vs H1 k1 r1 d1 w1 => by
  cases d1 with
  | nil => exact w1.elim
  | cons h1 t =>
    cases t with
    | cons _ _ => cases h1 <;> exact w1.elim
    | nil =>
      cases h1 <;> try exact w1.elim
      · rename_i l xs ds hl hx
        exact ⟨l, xs, rfl, .inl ⟨SqL.of (off_out _ _ hl), q _ g1 _ H1 k1 r1 (feed_enum hl hx) w1⟩⟩
      · rename_i l xs ds hl hx
        exact ⟨l, xs, rfl, .inr ⟨sqt_mono off_out hl, q _ g1 _ H1 k1 r1 (feed_enT hl hx) w1⟩⟩⟩
end
end Vl
/-! V18: append to a slot's own list, named; list(range(..)). -/
namespace Vl
open PySem PySem.Spec PyProof.Rows L2
section
variable {X : Cx} {e a b : Expr} {pos : Pos} {W Wa Wb : WE}
theorem vs_appN (i : Nat) {x : Str} {p1 p2 : Pos} {We : WE} (he : VE X e We) (hN : X.N[i]? = some x := by rfl) (hv : Vis X.env.scope x := by first | exact Or.inl rfl | exact Or.inr (Or.inl rfl) | exact Or.inr (Or.inr rfl)) (hd : (x == ("__debug__" : Str)) = false := by decide) (hcd : (x == ("__classdict__" : Str)) = false := by decide)
    (hbase : attributeBase (.Name x p1) "append" X.env (eval (.Name x p1) X.env) = eval (.Name x p1) X.env := by rfl)
    (hfew : ((backTo pos (starEach [e] X.env)).all (fun x => !x.1) && (backToKw pos (keywordEach [] X.env)).all (fun x => x.1.isSome)
      && decide (([e] : List Expr).length + ([] : List Keyword).length + (if ([] : List Keyword).isEmpty then 0 else 1) < 30)) = true := by rfl)
    (hline : (p2.endLine == pos.line) = true := by rfl) (hs1 : starEach [e] X.env = (false, eval e X.env) :: starEach [] X.env := by rfl) (hplain : (backTo pos (starEach [] X.env)).any (·.1) = false := by rfl)
    {pos' : Pos} (hs : swapsWith (.Call (.Attribute (.Name x p1) "append" p2) [e] [] pos) none pos'.line X.env = pure false := by rfl) :
    VS X (.Expr (.Call (.Attribute (.Name x p1) "append" p2) [e] [] pos) pos') (sApp i We) :=
  vs_app i he hN hv hd hcd (pe_bm (T := "list") (id := "list.append") (r := rAppend) F.plainAttrs_list F.slot_list_append F.type_list_append mt_append (pe_var hN hv hd hcd) (pa_cons he pa_nil hs1) hbase hfew hline hs1 hplain) hs

theorem rgV_dq {K : PySem.W.Frag} {H : Hp} (i j : Int) : DqAll K H (rgV i j) (rangeD i j) := by
  unfold rgV rangeD
  generalize List.range (j - i).toNat = l
  induction l with
  | nil => exact .nil
  | cons k l ih => exact .cons (.int _) ih
/-- list(range(j)) -/
def lRg1 (W : WE) : WL := fun ρ g R => W ρ g fun d g1 => ∃ j, d = .int j ∧ RgOk 0 j ∧ R (rangeD 0 j) g1
/-- list(range(i, j)) -/
def lRg2 (Wa Wb : WE) : WL := fun ρ g R => Wa ρ g fun d g1 => Wb ρ g1 fun d' g2 => ∃ i j, d = .int i ∧ d' = .int j ∧ RgOk i j ∧ R (rangeD i j) g2
theorem kp_none {a l : Addr} {H H1 : Hp} (k : Kp a H H1) (ha : H1 a ≠ none) (hl : H1 l = none) : H l = none := by
  cases e : H l with
  | none => rfl
  | some o =>
    by_cases z : l = a
    · exact absurd hl (z ▸ ha)
    · rw [k l o z e] at hl
      cases hl
theorem vl_list1 {p q pr : Pos} (hc : X.calm = true) (hg : Gl X "list") (hm : X.mg "list" = none) (hg2 : Gl X "range") (hm2 : X.mg "range" = none) (ha : VE X a Wa) (na : starEach [a] X.env = (false, eval a X.env) :: starEach [] X.env := by rfl)
    (hs : starEach [.Call (.Name "range" p) [a] [] pr] X.env = (false, eval (.Call (.Name "range" p) [a] [] pr) X.env) :: starEach [] X.env := by rfl) : VL X (.Call (.Name "list" q) [.Call (.Name "range" p) [a] [] pr] [] pos) (lRg1 Wa) :=
  pe_weak (pe_listRg hc hg hm (prg_1 hg2 hm2 ha na) hs) fun σ H Q ⟨a, H0, O0, O, ρ, g, R, r, w, q⟩ => ⟨a, H0, O0, O, ρ, g, _, r, w, fun d g1 v H1 k1 r1 d1 w1 => by
    obtain ⟨j, rfl, ok, w1⟩ := w1
    cases d1
    exact ⟨j, rfl, ok, fun l hl => q _ g1 l _ _ (k1.trans (Kp.of (sub_upd hl))) (r1.hide hl) (kp_none k1 r1.pen.live hl) upd_same (rgV_dq 0 j) w1⟩⟩
theorem vl_list2 {p q pr : Pos} (hc : X.calm = true) (hg : Gl X "list") (hm : X.mg "list" = none) (hg2 : Gl X "range") (hm2 : X.mg "range" = none) (ha : VE X a Wa) (hb : VE X b Wb) (na : starEach [a, b] X.env = (false, eval a X.env) :: starEach [b] X.env := by rfl)
    (nb : starEach [b] X.env = (false, eval b X.env) :: starEach [] X.env := by rfl) (hp : (backTo pr (starEach [b] X.env)).any (·.1) = false := by rfl)
    (hs : starEach [.Call (.Name "range" p) [a, b] [] pr] X.env = (false, eval (.Call (.Name "range" p) [a, b] [] pr) X.env) :: starEach [] X.env := by rfl) : VL X (.Call (.Name "list" q) [.Call (.Name "range" p) [a, b] [] pr] [] pos) (lRg2 Wa Wb) :=
  pe_weak (pe_listRg hc hg hm (prg_2 hg2 hm2 ha hb na nb hp) hs) fun σ H Q ⟨a, H0, O0, O, ρ, g, R, r, w, q⟩ => ⟨a, H0, O0, O, ρ, g, _, r, w, fun d g1 v H1 k1 r1 d1 w1 => ⟨a, H0, O0, O, ρ, g1, _, r1, w1, fun d' g2 v' H2 k2 r2 d2 w2 => by
    obtain ⟨i, j, rfl, rfl, ok, w2⟩ := w2
    cases d1
    cases d2
    exact ⟨i, j, rfl, rfl, ok, fun l hl => q _ g2 l _ _ ((k1.trans k2).trans (Kp.of (sub_upd hl))) (r2.hide hl) (kp_none (k1.trans k2) r2.pen.live hl) upd_same (rgV_dq i j) w2⟩⟩⟩
end
end Vl
/-! V19: defs whose result is a new list. -/
namespace Vl
open PySem PySem.Spec PyProof.Rows L2
abbrev VSpL := Rho → Nat → (List PyData → Nat → Prop) → Prop
abbrev WSL := EndsV → (List PyData → Nat → Prop) → Rho → Nat → Prop
/-- the result is a new list that nothing else holds -/
def spL (K : PySem.W.Frag) (S : VSpL) : Sp := fun vs H Q _ => ∃ (a : Addr) (O : List Addr) (g : Nat) (as : Rho) (R : List PyData → Nat → Prop), Pen K a O g H ∧ a ∉ O ∧ (∀ p ∈ O, H p ≠ none) ∧ ArgsR K a (Off (a :: O) H) vs as ∧ S as g R ∧
  ∀ ds g' p xs H', Kp a H H' → Pen K a (p :: O) g' H' → H p = none → H' p = some (.lst xs) → DqAll K (Off (a :: p :: O) H') xs ds → R ds g' → Q (.ref p) H'
def ErL (K : PySem.W.Frag) (a : Addr) (H0 : Hp) (O0 : List Addr) (R : List PyData → Nat → Prop) (D : Ends) : Prop :=
  ∀ ds g' p xs H', Kp a H0 H' → Pen K a (p :: O0) g' H' → H0 p = none → H' p = some (.lst xs) → DqAll K (Off (a :: p :: O0) H') xs ds → R ds g' → D.rt (.ref p) H'
def tSl (K : PySem.W.Frag) (W : WSL) : TS := fun D σ H => ∃ (a : Addr) (H0 : Hp) (O0 O : List Addr) (ρ : Rho) (g : Nat) (V : EndsV) (R : List PyData → Nat → Prop), Rl K a H0 O0 O ρ g σ H ∧ W V R ρ g ∧ Er K a H0 O0 (Off (a :: O) H) V D ∧ ErL K a H0 O0 R D
abbrev VSl (X : Cx) (st : Stmt) (W : WSL) : Prop := PS X st (tSl X.K W)
abbrev VSls (X : Cx) (st : List Stmt) (W : WSL) : Prop := PSs X st (tSl X.K W)
def lOf (W : WS) : WSL := fun V _ => W V
def lSeq (W V : WSL) : WSL := fun D R => W { D with nx := V D R } R
def lIf (T : WT) (W V : WSL) : WSL := fun D R ρ g => T ρ g fun k g1 => if k = true then W D R ρ g1 else V D R ρ g1
def lRet (W : WL) : WSL := fun _ R ρ g => W ρ g R
def lRetO (i : Nat) : WSL := fun _ R ρ g => ∃ ds, ρ[i]? = some (.own ds) ∧ R ds g
def lDis (i : Nat) (W : WSL) : WSL := fun V R ρ g => ∃ ds, ρ[i]? = some (.own ds) ∧ W V R (ρ.set i (.val (.list ds))) g
theorem Rl.backP {K : PySem.W.Frag} {a p : Addr} {H0 H : Hp} {O0 O : List Addr} {ρ : Rho} {g : Nat} {σ : L2.St} {H' : Hp} (r : Rl K a H0 O0 O ρ g σ H) (hp : p ∈ O) : Sub (Off (a :: O) H') (Off (a :: p :: O0) H') := off_sub fun b hb => by
  rcases List.mem_cons.mp hb with z | z
  · rw [z]; exact List.mem_cons_self
  · rcases List.mem_cons.mp z with z | z
    · rw [z]; exact List.mem_cons_of_mem _ hp
    · exact List.mem_cons_of_mem _ (r.sub b z)
section
variable {X : Cx} {st : Stmt} {rest as bs : List Stmt} {e c : Expr} {pos : Pos} {W V : WSL}
theorem vl_of {U : WS} (h : VS X st U) : VSl X st (lOf U) := ps_weak h fun D σ H ⟨a, H0, O0, O, ρ, g, V, R, r, w, en, el⟩ => ⟨a, H0, O0, O, ρ, g, V, r, w, en⟩
theorem vsl_nil : VSls X [] (lOf sNext) := pss_weak vss_nil fun D σ H ⟨a, H0, O0, O, ρ, g, V, R, r, w, en, el⟩ => ⟨a, H0, O0, O, ρ, g, V, r, w, en⟩
theorem vsl_one (h : VSl X st W) : VSls X [st] W := pss_one h
theorem vsl_cons (h : VSl X st W) (t : VSls X rest V) : VSls X (st :: rest) (lSeq W V) := pss_weak (pss_cons h t) fun D σ H ⟨a, H0, O0, O, ρ, g, U, R, r, w, e, el⟩ => ⟨a, H0, O0, O, ρ, g, _, R, r, w,
  ⟨fun O' ρ' g' σ' H' s r' w' => ⟨a, H0, O0, O', ρ', g', U, R, r', w', e.on s, el⟩, e.bk, e.ct, e.rt⟩, el⟩
theorem vsl_if {T : WT} (h : VT X c T) (ha : VSls X as W) (hb : VSls X bs V) : VSl X (.If c as bs pos) (lIf T W V) := ps_weak (ps_if h ha hb) fun D σ H ⟨a, H0, O0, O, ρ, g, U, R, r, w, en, el⟩ => ⟨a, H0, O0, O, ρ, g, _, r, w, fun k g1 H1 k1 r1 w1 => by
  cases k with
  | true =>
    rw [if_pos rfl] at w1 ⊢
    exact ⟨a, H0, O0, O, ρ, g1, U, R, r1, w1, en.on (off_kp k1), el⟩
  | false =>
    rw [if_neg Bool.false_ne_true] at w1 ⊢
    exact ⟨a, H0, O0, O, ρ, g1, U, R, r1, w1, en.on (off_kp k1), el⟩⟩
theorem vsl_dis (i : Nat) (h : VSls X rest W) : VSls X rest (lDis i W) := pss_weak h fun D σ H ⟨a, H0, O0, O, ρ, g, V, R, r, ⟨ds, hi, w⟩, en, el⟩ => by
  obtain ⟨O', s, r'⟩ := r.disown hi
  exact ⟨a, H0, O0, O', _, g, V, R, r', w, en.on s, el⟩
theorem vsl_ret {U : WL} (h : VL X e U) : VSl X (.Return (some e) pos) (lRet U) := ps_weak (ps_ret h) fun D σ H ⟨a, H0, O0, O, ρ, g, V, R, r, w, en, el⟩ => ⟨a, H0, O0, O, ρ, g, _, r, w, fun ds g1 p xs H1 k1 r1 hp hx d1 w1 =>
  el ds g1 p xs H1 r1.keep (r1.pen.to (r1.backP List.mem_cons_self) rfl) (r.freshH hp) hx (d1.to (r1.backP List.mem_cons_self)) w1⟩
theorem vsl_retO (i : Nat) {x : Str} {p1 : Pos} (hN : X.N[i]? = some x := by rfl) (hv : Vis X.env.scope x := by first | exact Or.inl rfl | exact Or.inr (Or.inl rfl) | exact Or.inr (Or.inr rfl)) (hd : (x == ("__debug__" : Str)) = false := by decide)
    (hcd : (x == ("__classdict__" : Str)) = false := by decide) : VSl X (.Return (some (.Name x p1)) pos) (lRetO i) := ps_weak (ps_ret (pe_var hN hv hd hcd)) fun D σ H ⟨a, H0, O0, O, ρ, g, V, R, r, ⟨ds, hi, w⟩, en, el⟩ => by
  obtain ⟨p, xs, e, hp, hn, hx, hd⟩ := r.slot i _ hi
  exact ⟨.ref p, e, el ds g p xs H r.keep (r.pen.to (r.backP hp) rfl) hn hx (hd.to (r.backP hp)) w⟩
end
def endL : EndsV := { nx := fun _ _ => False, rt := fun _ _ => False }
structure CkL (P : Program) (w : World) (K : PySem.W.Frag) (mg : Str → Option Value) (base : Heap) (x : Str) (ps : List Str) (k : Nat) (S : VSpL) : Prop where
  ex : ∃ (f : Addr) (fd : FuncData), FnOk P w K mg base CX0 k f fd ps (spL K S) ∧ Binds K fd ps [] ∧ mg x = some (.ref f) ∧ PySem.W.keepIn K (.ref f) = true
section
variable {P : Program} {w : World} {K : PySem.W.Frag} {mg : Str → Option Value} {base : Heap}
theorem fn_vL {x qual : Str} {st : Stmt} {f : Addr} {fd : FuncData} {N ps : List Str} {k : Nat} {S : VSpL} {W : WSL} (F : Fun K x qual st f fd) (sc : FnScope N ps (defScope st)) (hl : ∀ as g R, S as g R → as.length = ps.length)
    (hb : ∀ (cdv : Value) (A : Around) (outer : List Env) (s : Shared) (H : Hp) (E : XK), Room k (A.deeper (envOfC qual (defScope st) s.heap.objs.size f cdv)) → VSls (cxOf CX0 P w K mg base N qual (defScope st) f cdv A outer s H E).nox (defBody st) W)
    (hw : ∀ as g R, S as g R → W endL (fun ds g' => ∃ g2, g' ≤ g2 ∧ R ds g2) (startV N.length as) g) (hn : ps.length ≤ N.length := by decide) : FnOk P w K mg base CX0 (k + 1) f fd ps (spL K S) := by
  refine F.ok sc (fun vs H Q E h => ?_) (fun cdv A outer s H vs Q E hr h => ?_)
  · obtain ⟨a, O, g, as, R, _, _, _, r, hS, _⟩ := h
    rw [r.len]
    exact hl as g R hS
  · obtain ⟨a, O, g, as, R, p, ha, hlv, r, hS, q⟩ := h
    have hlen : as.length ≤ N.length := by rw [hl as g R hS]; exact hn
    refine ⟨_, hb cdv A outer s H E hr, a, H, O, O, startV N.length as, g, endL, _, rl_start p ha hlv r hlen, hw as g R hS, ⟨fun _ _ _ _ _ _ _ h => h.elim, fun _ _ _ _ _ _ _ h => h.elim, fun _ _ _ _ _ _ _ h => h.elim, fun _ _ _ _ _ _ _ h => h.elim⟩, ?_⟩
    exact fun ds g' p xs H' k' p' hn hx hd ⟨g2, h2, w2⟩ => q ds g2 p xs H' k' (p'.mono h2) hn hx hd w2
theorem ckl_v {x : Str} {st : Stmt} {N ps : List Str} {k : Nat} {S : VSpL} {W : WSL} (D : Df K mg x st ps) (sc : FnScope N ps (defScope st)) (hl : ∀ as g R, S as g R → as.length = ps.length)
    (hb : ∀ (f : Addr) (cdv : Value) (A : Around) (outer : List Env) (s : Shared) (H : Hp) (E : XK), Room k (A.deeper (envOfC x (defScope st) s.heap.objs.size f cdv)) → VSls (cxOf CX0 P w K mg base N x (defScope st) f cdv A outer s H E).nox (defBody st) W)
    (hw : ∀ as g R, S as g R → W endL (fun ds g' => ∃ g2, g' ≤ g2 ∧ R ds g2) (startV N.length as) g) (hn : ps.length ≤ N.length := by decide) : CkL P w K mg base x ps (k + 1) S := by
  obtain ⟨f, fd, F, b, m⟩ := D.ex
  exact ⟨f, fd, fn_vL F sc hl (hb f) hw hn, b, m, F.kp⟩
end
section
variable {X : Cx} {e : Expr} {es : List Expr} {pos : Pos}
def lFn (S : VSpL) (V : WP) : WL := fun ρ g R => V ρ g fun as g1 => S as g1 R
/-- a call of such a def: a new list -/
theorem vl_callC {k : Nat} {ps : List Str} {S : VSpL} {V : WP} {x : Str} {p : Pos} (C : CkL X.prog X.w X.K X.mg X.base x ps k S) (hr : Room k X.A) (hg : Gl X x) (ha : VP X (e :: es) V) (hdb : (x == ("__debug__" : Str)) = false := by decide)
    (he : starEach (e :: es) X.env = (false, eval e X.env) :: starEach es X.env := by rfl) (hpl : (backTo pos (starEach es X.env)).any (·.1) = false := by rfl) : VL X (.Call (.Name x p) (e :: es) [] pos) (lFn S V) := by
  obtain ⟨f, fd, F, b, m, kp⟩ := C.ex
  exact pe_weak (pe_call F hr hg m kp b .nil pass0 ha hdb he hpl) fun σ H Q ⟨a, H0, O0, O, ρ, g, R, r, w, q⟩ => ⟨a, H0, O0, O, ρ, g, _, r, w, fun as g1 vs H1 k1 r1 d1 w1 => by
    show spL X.K S (vs ++ []) H1 Q _
    rw [List.append_nil]
    exact ⟨a, O, g1, as, R, r1.pen, r1.noA, r1.live, d1, w1, fun ds g' p xs H' k' p' hn hx hd w' => q ds g' p xs H' (k1.trans k') (r1.stepH k' hn (by rw [hx]; exact fun z => nomatch z) p') (kp_none k1 r1.pen.live hn) hx hd w'⟩⟩
end
end Vl
/-! W1: loops and comprehensions over data by an invariant; shapes of data. -/
namespace Vl
open PySem PySem.Spec PyProof.Rows L2
theorem lp_inv {G : WG} {B : WS} {V : EndsV} (I : Nat → Rho → Nat → Prop) (h0 : ∀ ρ g, I 0 ρ g → V.nx ρ g)
    (hs : ∀ (d : PyData) (n : Nat) (ρ : Rho) (g : Nat) (N : Rho → Nat → Prop), I (n + 1) ρ g → (∀ ρ' g', I n ρ' g' → N ρ' g') → G d ρ fun ρ' => B { nx := N, rt := V.rt, bk := V.nx, ct := N } ρ' g) :
    ∀ (ds : List PyData) (ρ : Rho) (g : Nat), I ds.length ρ g → loopV G B V ds ρ g
  | [], ρ, g, h => h0 ρ g h
  | d :: ds, ρ, g, h => hs d ds.length ρ g _ h fun ρ' g' h' => lp_inv I h0 hs ds ρ' g' h'
/-- the same, each item one of some -/
theorem lp_mem {G : WG} {B : WS} {V : EndsV} {P : PyData → Prop} (I : Nat → Rho → Nat → Prop) (h0 : ∀ ρ g, I 0 ρ g → V.nx ρ g)
    (hs : ∀ (d : PyData) (n : Nat) (ρ : Rho) (g : Nat) (N : Rho → Nat → Prop), P d → I (n + 1) ρ g → (∀ ρ' g', I n ρ' g' → N ρ' g') → G d ρ fun ρ' => B { nx := N, rt := V.rt, bk := V.nx, ct := N } ρ' g) :
    ∀ (ds : List PyData) (ρ : Rho) (g : Nat), (∀ d ∈ ds, P d) → I ds.length ρ g → loopV G B V ds ρ g
  | [], ρ, g, _, h => h0 ρ g h
  | d :: ds, ρ, g, hp, h => hs d ds.length ρ g _ (hp d List.mem_cons_self) h fun ρ' g' h' => lp_mem I h0 hs ds ρ' g' (fun x hx => hp x (List.mem_cons_of_mem _ hx)) h'
theorem lp_cons {G : WG} {B : WS} {V : EndsV} {d : PyData} {ds : List PyData} {ρ : Rho} {g : Nat} : loopV G B V (d :: ds) ρ g = G d ρ fun ρ' => B { nx := loopV G B V ds, rt := V.rt, bk := V.nx, ct := loopV G B V ds } ρ' g := rfl
/-- a comprehension without takes: what it keeps, what it makes -/
theorem lc_pure {α : Type} {enc : α → PyData} {keep : α → Bool} {f : α → PyData} {G : WG} {T : WT} {E : WE} {ρ : Rho} {g : Nat} {R : List PyData → Nat → Prop} : ∀ (xs : List α) (acc : List PyData),
    (∀ x ∈ xs, ∀ (N : List PyData → Nat → Prop) (acc : List PyData), N (if keep x = true then acc ++ [f x] else acc) g → G (enc x) ρ fun ρ' => T ρ' g fun b g1 => if b = true then E ρ' g1 fun y g2 => N (acc ++ [y]) g2 else N acc g1) →
    R (acc ++ (xs.filter keep).map f) g → lcV G T E (xs.map enc) ρ acc g R
  | [], acc, _, h => by simpa [lcV] using h
  | x :: xs, acc, hs, h => by
    show G (enc x) ρ _
    refine hs x List.mem_cons_self (fun acc' g' => lcV G T E (xs.map enc) ρ acc' g' R) acc (lc_pure xs _ (fun y hy => hs y (List.mem_cons_of_mem _ hy)) ?_)
    cases hk : keep x with
    | true =>
      rw [if_pos rfl]
      simpa [List.filter_cons, hk] using h
    | false =>
      rw [if_neg Bool.false_ne_true]
      simpa [List.filter_cons, hk] using h
/-- a comprehension with an invariant -/
theorem lc_inv {G : WG} {T : WT} {E : WE} {ρ : Rho} {R : List PyData → Nat → Prop} {P : PyData → Prop} (I : Nat → List PyData → Nat → Prop) (h0 : ∀ acc g, I 0 acc g → R acc g)
    (hs : ∀ (d : PyData) (n : Nat) (acc : List PyData) (g : Nat) (N : List PyData → Nat → Prop), P d → I (n + 1) acc g → (∀ acc' g', I n acc' g' → N acc' g') → G d ρ fun ρ' => T ρ' g fun b g1 => if b = true then E ρ' g1 fun y g2 => N (acc ++ [y]) g2 else N acc g1) :
    ∀ (ds : List PyData) (acc : List PyData) (g : Nat), (∀ d ∈ ds, P d) → I ds.length acc g → lcV G T E ds ρ acc g R
  | [], acc, g, _, h => h0 acc g h
  | d :: ds, acc, g, hp, h => hs d ds.length acc g (fun acc' g' => lcV G T E ds ρ acc' g' R) (hp d List.mem_cons_self) h fun acc' g' h' => lc_inv I h0 hs ds acc' g' (fun x hx => hp x (List.mem_cons_of_mem _ hx)) h'
section
variable {P : Program} {w : World} {K : PySem.W.Frag} {mg : Str → Option Value} {base : Heap}
/-- a def that is called nowhere -/
theorem ck_no {x : Str} {st : Stmt} {ps : List Str} {k : Nat} (D : Df K mg x st ps) : Ck P w K mg base x ps k (fun _ _ _ => False) := by
  obtain ⟨f, fd, F, b, m⟩ := D.ex
  refine ⟨f, fd, ⟨fun vs H Q E h => ?_, fun A outer s H args us vs Q E hr he hb hv h => ?_⟩, b, m, F.kp⟩ <;>
    (obtain ⟨a, O, g, as, R, _, _, _, _, h, _⟩ := h; exact h.elim)
theorem Ck.mono {x : Str} {ps : List Str} {j k : Nat} {S : VSp} (c : Ck P w K mg base x ps j S) (h : j ≤ k) : Ck P w K mg base x ps k S := by
  obtain ⟨f, fd, F, b, m, kp⟩ := c.ex
  exact ⟨f, fd, F.mono h, b, m, kp⟩
end
/-- plain data without dicts, of limited depth and width -/
inductive Sm : Nat → PyData → Prop
  | non (n : Nat) : Sm n .none
  | bl (n : Nat) (b : Bool) : Sm n (.bool b)
  | int (n : Nat) (i : Int) : Sm n (.int i)
  | str (n : Nat) (x : Str) : Sm n (.str x)
  | lst {n : Nat} {xs : List PyData} : (∀ x ∈ xs, Sm n x) → xs.length ≤ 1000000 → Sm (n + 1) (.list xs)
  | tup {n : Nat} {xs : List PyData} : (∀ x ∈ xs, Sm n x) → xs.length ≤ 1000000 → Sm (n + 1) (.tuple xs)
theorem noXs_all : ∀ {xs : List PyData}, (∀ x ∈ xs, noX x = true) → noXs xs = true
  | [], _ => by simp only [noXs]
  | x :: xs, h => by
    simp only [noXs, Bool.and_eq_true]
    exact ⟨h x List.mem_cons_self, noXs_all fun y hy => h y (List.mem_cons_of_mem _ hy)⟩
theorem Sm.noX {n : Nat} {d : PyData} (h : Sm n d) : noX d = true := by
  induction h with
  | lst _ _ ih => simp only [Vl.noX]; exact noXs_all ih
  | tup _ _ ih => simp only [Vl.noX]; exact noXs_all ih
  | _ => simp only [Vl.noX]
theorem zip_same {xs : List PyData} : List.zipWith (fun x y => PyData.tuple [x, y]) xs xs = xs.map fun x => PyData.tuple [x, x] := by
  induction xs with
  | nil => rfl
  | cons x xs ih => rw [List.zipWith_cons_cons, ih, List.map_cons]
theorem plainAll_bools : ∀ {α : Type} {f : α → Bool} (xs : List α), PyData.plainAll (xs.map fun x => .bool (f x)) = true
  | _, _, [] => by simp only [List.map_nil, PyData.plainAll]
  | _, f, x :: xs => by simp only [List.map_cons, PyData.plainAll, PyData.plain, Bool.true_and]; exact plainAll_bools xs
theorem depthAll_bools : ∀ {α : Type} {f : α → Bool} (xs : List α), PyData.depthAll (xs.map fun x => .bool (f x)) = 0
  | _, _, [] => by simp only [List.map_nil, PyData.depthAll]
  | _, f, x :: xs => by
    simp only [List.map_cons, PyData.depthAll, PyData.depth, depthAll_bools xs]
    rfl
end Vl
/-! W2: places of written items (for simp); cases and sources as data. -/
namespace Vl
open PySem PySem.Spec PyProof.Rows L2
theorem fIx_is {c : PyData} {xs : List PyData} {j : Nat} {d : PyData} {R : PyData → Prop} (hc : itemsD c = some xs) (h : xs[j]? = some d) : fIx c (.int (j : Int)) R = R d :=
  propext ⟨fun ⟨ys, e, h1, h2, h3⟩ => by
    rw [hc] at h1
    cases h1
    rw [atI_nat h] at h2
    cases h2
    exact h3, fun q => ⟨xs, d, hc, atI_nat h, q⟩⟩
section
variable {a b c d e : PyData} {r : List PyData} {R : PyData → Prop}
theorem e_ix0T : fIx (.tuple (a :: r)) (.int 0) R = R a := fIx_is (j := 0) rfl rfl
theorem e_ix1T : fIx (.tuple (a :: b :: r)) (.int 1) R = R b := fIx_is (j := 1) rfl rfl
theorem e_ix2T : fIx (.tuple (a :: b :: c :: r)) (.int 2) R = R c := fIx_is (j := 2) rfl rfl
theorem e_ix3T : fIx (.tuple (a :: b :: c :: d :: r)) (.int 3) R = R d := fIx_is (j := 3) rfl rfl
theorem e_ix4T : fIx (.tuple (a :: b :: c :: d :: e :: r)) (.int 4) R = R e := fIx_is (j := 4) rfl rfl
theorem e_ix0L : fIx (.list (a :: r)) (.int 0) R = R a := fIx_is (j := 0) rfl rfl
theorem e_ix1L : fIx (.list (a :: b :: r)) (.int 1) R = R b := fIx_is (j := 1) rfl rfl
theorem e_ix2L : fIx (.list (a :: b :: c :: r)) (.int 2) R = R c := fIx_is (j := 2) rfl rfl
end
/-- a pair (kind, value) of a test; a case; a source -/
def prD (p : Int × Int) : PyData := .tuple [.int p.1, .int p.2]
def caseD (n v k : Int) (ps : List (Int × Int)) (j : Bool) : PyData := .tuple [.int n, .int v, .int k, .tuple (ps.map prD), .bool j]
structure CaseOk (n v k : Int) (ps : List (Int × Int)) : Prop where
  n0 : 1 ≤ n
  n1 : n ≤ 3
  v0 : 1 ≤ v
  v1 : v ≤ 3
  k0 : 1 ≤ k
  k1 : k ≤ 2
  hp : ∀ p ∈ ps, (0 ≤ p.1 ∧ p.1 < k) ∧ 0 ≤ p.2 ∧ p.2 < v
  len : ps.length ≤ 6
/-- what a child state is: none, or (kind, parent) -/
def chD (c : Option (Int × Int)) : PyData := match c with
  | none => .tuple []
  | some q => prD q
def srcD (xs : List Int) (c : Option (Int × Int)) : PyData := .tuple [.tuple (xs.map .int), chD c]
structure SrcOk (n v k : Int) (xs : List Int) (c : Option (Int × Int)) : Prop where
  len : (xs.length : Int) = n
  hx : ∀ x ∈ xs, -1 ≤ x ∧ x < v
  hc : ∀ q, c = some q → (0 ≤ q.1 ∧ q.1 < k) ∧ 0 ≤ q.2 ∧ q.2 < n
def vpB (ps : List (Int × Int)) (x : Int) : Bool := ps.any fun p => p.2 == x
def ppB (ps : List (Int × Int)) (q : Int × Int) : Bool := ps.any fun p => p.1 == q.1 && p.2 == q.2
theorem eqv_int {i j : Int} : PyData.eqv (.int i) (.int j) = (i == j) := by simp only [PyData.eqv]
theorem eqv_pr {p q : Int × Int} : PyData.eqv (prD p) (prD q) = (p.1 == q.1 && p.2 == q.2) := by
  simp only [prD, PyData.eqv, PyData.eqvAll, Bool.and_true]
theorem plainAll_pr : ∀ ps : List (Int × Int), PyData.plainAll (ps.map prD) = true
  | [] => by simp only [List.map_nil, PyData.plainAll]
  | p :: ps => by simp only [List.map_cons, PyData.plainAll, prD, PyData.plain, Bool.true_and, Bool.and_self]; exact plainAll_pr ps
theorem depth_pr {p : Int × Int} : (prD p).depth = 1 := by
  simp only [prD, PyData.depth, PyData.depthAll]
  decide
theorem depthAll_pr : ∀ ps : List (Int × Int), PyData.depthAll (ps.map prD) ≤ 1
  | [] => by simp [PyData.depthAll]
  | p :: ps => by
    have := depthAll_pr ps
    simp only [List.map_cons, PyData.depthAll, depth_pr]
    omega
theorem any_pr (ps : List (Int × Int)) (q : Int × Int) : ((ps.map prD).any fun y => PyData.eqv y (prD q)) = ppB ps q := by
  rw [List.any_map]
  unfold ppB
  congr 1
  funext p
  exact eqv_pr
theorem plain_pr {p : Int × Int} : (prD p).plain = true := by simp only [prD, PyData.plain, PyData.plainAll, Bool.and_self]
theorem fIn_pr {ps : List (Int × Int)} {x y : Int} {R : PyData → Prop} (h : R (.bool (ppB ps (x, y)))) : fIn (.tuple [.int x, .int y]) (.tuple (ps.map prD)) R :=
  ⟨_, rfl, ⟨plainAll_pr ps, plain_pr (p := (x, y)), by show min _ (PyData.depth (prD (x, y))) ≤ 60; rw [depth_pr]; omega⟩, by
    rw [show PyData.tuple [.int x, .int y] = prD (x, y) from rfl, any_pr]
    exact h⟩
theorem eqv_nil {xs : List PyData} : PyData.eqv (.list xs) (.list []) = xs.isEmpty := by
  cases xs with
  | nil => simp only [PyData.eqv, PyData.eqvAll, List.isEmpty_nil]
  | cons x xs => simp [PyData.eqv, PyData.eqvAll]
theorem fNe_nil {ps : List (Int × Int)} {R : PyData → Prop} (h : R (.bool (!ps.isEmpty))) : fNe (.list (ps.map prD)) (.list []) R := by
  refine ⟨⟨?_, rfl, ?_⟩, ?_⟩
  · simp only [PyData.plain]
    exact plainAll_pr ps
  · have := depthAll_pr ps
    simp only [PyData.depth, PyData.depthAll]
    omega
  · rw [eqv_nil, List.isEmpty_map]
    exact h
theorem noX_pr {p : Int × Int} : noX (prD p) = true := by simp only [prD, noX, noXs, Bool.and_self]
theorem noX_ch {c : Option (Int × Int)} : noX (chD c) = true := by
  cases c with
  | none => simp only [chD, noX, noXs]
  | some q => exact noX_pr
end Vl
/-! W3: kinds of data, constructor by constructor (for simp). -/
namespace Vl
open PySem PySem.Spec PyProof.Rows L2
section
variable {b : Bool} {i : Int} {x : Str} {xs : List PyData} {kv : List (PyData × PyData)}
theorem k_isInt_none : PyData.isInt .none = false := rfl
theorem k_isInt_bool : PyData.isInt (.bool b) = true := rfl
theorem k_isInt_int : PyData.isInt (.int i) = true := rfl
theorem k_isInt_str : PyData.isInt (.str x) = false := rfl
theorem k_isInt_list : PyData.isInt (.list xs) = false := rfl
theorem k_isInt_tuple : PyData.isInt (.tuple xs) = false := rfl
theorem k_isInt_dict : PyData.isInt (.dict kv) = false := rfl
theorem k_isBool_none : PyData.isBool .none = false := rfl
theorem k_isBool_bool : PyData.isBool (.bool b) = true := rfl
theorem k_isBool_int : PyData.isBool (.int i) = false := rfl
theorem k_isBool_str : PyData.isBool (.str x) = false := rfl
theorem k_isBool_list : PyData.isBool (.list xs) = false := rfl
theorem k_isBool_tuple : PyData.isBool (.tuple xs) = false := rfl
theorem k_isBool_dict : PyData.isBool (.dict kv) = false := rfl
theorem k_isTuple_none : PyData.isTuple .none = false := rfl
theorem k_isTuple_bool : PyData.isTuple (.bool b) = false := rfl
theorem k_isTuple_int : PyData.isTuple (.int i) = false := rfl
theorem k_isTuple_str : PyData.isTuple (.str x) = false := rfl
theorem k_isTuple_list : PyData.isTuple (.list xs) = false := rfl
theorem k_isTuple_tuple : PyData.isTuple (.tuple xs) = true := rfl
theorem k_isTuple_dict : PyData.isTuple (.dict kv) = false := rfl
theorem k_isList_none : PyData.isList .none = false := rfl
theorem k_isList_bool : PyData.isList (.bool b) = false := rfl
theorem k_isList_int : PyData.isList (.int i) = false := rfl
theorem k_isList_str : PyData.isList (.str x) = false := rfl
theorem k_isList_list : PyData.isList (.list xs) = true := rfl
theorem k_isList_tuple : PyData.isList (.tuple xs) = false := rfl
theorem k_isList_dict : PyData.isList (.dict kv) = false := rfl
theorem k_isStr_none : PyData.isStr .none = false := rfl
theorem k_isStr_bool : PyData.isStr (.bool b) = false := rfl
theorem k_isStr_int : PyData.isStr (.int i) = false := rfl
theorem k_isStr_str : PyData.isStr (.str x) = true := rfl
theorem k_isStr_list : PyData.isStr (.list xs) = false := rfl
theorem k_isStr_tuple : PyData.isStr (.tuple xs) = false := rfl
theorem k_isStr_dict : PyData.isStr (.dict kv) = false := rfl
end
end Vl
/-! W4: data of bounded depth, width and numbers: it can be shown. -/
namespace Vl
open PySem PySem.Spec PyProof.Rows L2
/-- t: how often it was bent (0 or 1); n: the depth -/
inductive Bd (t : Nat) : Nat → PyData → Prop
  | non (n : Nat) : Bd t n .none
  | bl (n : Nat) (b : Bool) : Bd t n (.bool b)
  | int (n : Nat) (i : Int) : i.natAbs < 10 ^ (30 + 5 * t) → Bd t n (.int i)
  | str (n : Nat) (x : Str) : (reprText x).length ≤ 10 → Bd t n (.str x)
  | emp (n : Nat) : Bd t (n + 1) (.dict [])
  | lst {n : Nat} {xs : List PyData} : (∀ x ∈ xs, Bd t n x) → xs.length ≤ 8 + t → Bd t (n + 1) (.list xs)
  | tup {n : Nat} {xs : List PyData} : (∀ x ∈ xs, Bd t n x) → xs.length ≤ 8 + t → Bd t (n + 1) (.tuple xs)
theorem Bd.up {t n : Nat} {d : PyData} (h : Bd t n d) : Bd t (n + 1) d := by
  induction h with
  | non n => exact .non _
  | bl n b => exact .bl _ b
  | int n i h => exact .int _ i h
  | str n x h => exact .str _ x h
  | emp n => exact .emp _
  | lst _ hl ih => exact .lst ih hl
  | tup _ hl ih => exact .tup ih hl
theorem Bd.le {t n m : Nat} {d : PyData} (h : Bd t n d) (l : n ≤ m) : Bd t m d := by
  induction l with
  | refl => exact h
  | step _ ih => exact ih.up
theorem Bd.one {n : Nat} {d : PyData} (h : Bd 0 n d) : Bd 1 n d := by
  induction h with
  | non n => exact .non _
  | bl n b => exact .bl _ b
  | int n i h => exact .int _ i (Nat.lt_of_lt_of_le h (by decide))
  | str n x h => exact .str _ x h
  | emp n => exact .emp _
  | lst _ hl ih => exact .lst ih (by omega)
  | tup _ hl ih => exact .tup ih (by omega)
theorem Bd.noX {t n : Nat} {d : PyData} (h : Bd t n d) : noX d = true := by
  induction h with
  | emp n => simp only [Vl.noX]
  | lst _ _ ih => simp only [Vl.noX]; exact noXs_all ih
  | tup _ _ ih => simp only [Vl.noX]; exact noXs_all ih
  | _ => simp only [Vl.noX]
theorem showAll {xs : List PyData} (h : ∀ x ∈ xs, x.showable = true) : PyData.showableAll xs = true := by
  induction xs with
  | nil => simp only [PyData.showableAll]
  | cons x xs ih =>
    simp only [PyData.showableAll, Bool.and_eq_true]
    exact ⟨h x List.mem_cons_self, ih fun y hy => h y (List.mem_cons_of_mem _ hy)⟩
theorem Bd.showable {t n : Nat} {d : PyData} (h : Bd t n d) (ht : t ≤ 1) : d.showable = true := by
  induction h with
  | int n i h =>
    simp only [PyData.showable, decide_eq_true_eq]
    have h2 : i.natAbs < 10 ^ 35 := Nat.lt_of_lt_of_le h (Nat.pow_le_pow_right (by decide) (by omega))
    by_cases z : i.natAbs = 0
    · rw [z]; decide
    · have := (Nat.log2_lt z).mpr (Nat.lt_of_lt_of_le h2 (show 10 ^ 35 ≤ 2 ^ 200 by decide))
      omega
  | lst _ _ ih => simp only [PyData.showable]; exact showAll ih
  | tup _ _ ih => simp only [PyData.showable]; exact showAll ih
  | _ => simp only [PyData.showable, PyData.showableKv]
theorem depthAll_le {xs : List PyData} {n : Nat} (h : ∀ x ∈ xs, x.depth ≤ n) : PyData.depthAll xs ≤ n := by
  induction xs with
  | nil => simp [PyData.depthAll]
  | cons x xs ih =>
    simp only [PyData.depthAll]
    have h1 := h x List.mem_cons_self
    have h2 := ih fun y hy => h y (List.mem_cons_of_mem _ hy)
    omega
theorem Bd.depth {t n : Nat} {d : PyData} (h : Bd t n d) : d.depth ≤ n := by
  induction h with
  | lst _ _ ih =>
    simp only [PyData.depth]
    have := depthAll_le ih
    omega
  | tup _ _ ih =>
    simp only [PyData.depth]
    have := depthAll_le ih
    omega
  | _ => simp [PyData.depth, PyData.depthKv]
def wide : Nat → Nat
  | 0 => 60
  | n + 1 => 4 + 9 * (wide n + 2)
theorem wide_pos : ∀ n, 60 ≤ wide n
  | 0 => Nat.le_refl _
  | n + 1 => by
    have := wide_pos n
    show 60 ≤ 4 + 9 * (wide n + 2)
    omega
theorem piled_le {xs : List PyData} {b : Nat} (h : ∀ x ∈ xs, x.shown.length ≤ b) : piled (PyData.shownAll xs) ≤ xs.length * (b + 2) := by
  induction xs with
  | nil => simp [PyData.shownAll, piled]
  | cons x xs ih =>
    have h1 := h x List.mem_cons_self
    have h2 := ih fun y hy => h y (List.mem_cons_of_mem _ hy)
    simp only [PyData.shownAll, piled_cons, List.length_cons]
    rw [Nat.add_mul]
    omega
theorem listText_le : ∀ ts : List Str, (listText ts).length ≤ piled ts + 2
  | [] => by decide
  | t :: r => by
    have h := textFrom_length_pos r 1 (("[" : Str) ++ (if (0 : Nat) > 0 then ", " else "" : String) ++ t) (Nat.succ_pos 0)
    have e : ((("[" : Str) ++ (if (0 : Nat) > 0 then ", " else "" : String) ++ t)).length = 1 + t.length := by rw [strLen_append, strLen_append]; rfl
    have x : (listText (t :: r)).length = (textFrom 1 (("[" : Str) ++ (if (0 : Nat) > 0 then ", " else "" : String) ++ t) r).length + 1 := by
      show (textFrom 0 "[" (t :: r) ++ "]").length = _
      rw [strLen_append]; rfl
    rw [x, h, e, piled_cons]
    omega
theorem tupleText_le (ts : List Str) : (tupleText ts).length ≤ piled ts + 3 := by
  unfold tupleText
  rw [strLen_append, strLen_append]
  have e3 : (((if ts.length == 1 then ",)" else ")" : String) : Str)).length ≤ 2 := by split <;> decide
  have e1 : ((("(" : String) : Str)).length = 1 := rfl
  cases ts with
  | nil =>
    have : (Str.join ", " ([] : List Str)).length = 0 := rfl
    omega
  | cons t r =>
    have := join_length_add (t :: r) (by simp)
    omega
theorem Bd.shown {t n : Nat} {d : PyData} (h : Bd t n d) (ht : t ≤ 1) : d.shown.length ≤ wide n := by
  induction h with
  | non n => exact Nat.le_trans (by decide) (wide_pos n)
  | bl n b => cases b <;> exact Nat.le_trans (by decide) (wide_pos n)
  | int n i h =>
    have h2 : i.natAbs < 10 ^ 35 := Nat.lt_of_lt_of_le h (Nat.pow_le_pow_right (by decide) (by omega))
    have h3 := int_text_length_le10 (k := 35) (by decide) h2
    have h4 := wide_pos n
    simp only [PyData.shown]
    show (Str.ofString (toString i)).length ≤ _
    rw [PySem.ofString_length]
    omega
  | str n x h =>
    simp only [PyData.shown]
    have h4 := wide_pos n
    omega
  | emp n => exact Nat.le_trans (by decide) (wide_pos _)
  | @lst n xs _ hl ih =>
    simp only [PyData.shown]
    have a := listText_le (PyData.shownAll xs)
    have b := piled_le ih
    have c : xs.length * (wide n + 2) ≤ 9 * (wide n + 2) := Nat.mul_le_mul_right _ (by omega)
    show _ ≤ 4 + 9 * (wide n + 2)
    omega
  | @tup n xs _ hl ih =>
    simp only [PyData.shown]
    have a := tupleText_le (PyData.shownAll xs)
    have b := piled_le ih
    have c : xs.length * (wide n + 2) ≤ 9 * (wide n + 2) := Nat.mul_le_mul_right _ (by omega)
    show _ ≤ 4 + 9 * (wide n + 2)
    omega
theorem Bd.ok {t n : Nat} {d : PyData} (h : Bd t n d) (ht : t ≤ 1) (hn : n ≤ 5) : showOk d :=
  ⟨h.showable ht, Nat.le_trans h.depth (by omega), Nat.le_trans ((h.le hn).shown ht) (by decide)⟩
end Vl
/-! W5: comprehensions with two sources, by what each outer item adds. -/
namespace Vl
open PySem PySem.Spec PyProof.Rows L2
theorem lc2_pure {α : Type} {enc : α → PyData} {h : α → List PyData} {G : WG} {T : WT} {WI1 : WL} {G1 : WG} {T1 : WT} {E : WE} {vs1 : List Nat} {ρ : Rho} {g : Nat} {R : List PyData → Nat → Prop} (M : Nat) : ∀ (xs : List α) (acc : List PyData),
    (∀ x ∈ xs, ∀ (N : List PyData → Nat → Prop) (acc : List PyData), acc.length ≤ M → N (acc ++ h x) g → G (enc x) ρ fun ρ' => (wipeV ρ' vs1).any isOwn = false ∧ T ρ' g fun b g1 => if b = true then WI1 ρ' g1 fun es g2 => acc.length + es.length ≤ sizeLine ∧ lcV G1 T1 E es (wipeV ρ' vs1) acc g2 N else N acc g1) →
    acc.length + (xs.flatMap h).length ≤ M → R (acc ++ xs.flatMap h) g → lcV2 G T WI1 G1 T1 E vs1 (xs.map enc) ρ acc g R
  | [], acc, _, _, hR => by simpa [lcV2] using hR
  | x :: xs, acc, hs, hM, hR => by
    show G (enc x) ρ _
    rw [List.flatMap_cons, List.length_append] at hM
    refine hs x List.mem_cons_self (fun acc' g' => lcV2 G T WI1 G1 T1 E vs1 (xs.map enc) ρ acc' g' R) acc (by omega) (lc2_pure M xs _ (fun y hy => hs y (List.mem_cons_of_mem _ hy)) ?_ ?_)
    · rw [List.length_append]; omega
    · rw [List.flatMap_cons, ← List.append_assoc] at hR
      exact hR
/-- a loop as a fold: what holds of the slots goes from item to item -/
theorem lp_fold {α β : Type} {enc : α → PyData} {G : WG} {B : WS} {V : EndsV} {g : Nat} (I : β → Rho → Prop) (step : β → α → β) : ∀ (xs : List α) (b : β) (ρ : Rho),
    (∀ x ∈ xs, ∀ (b : β) (ρ : Rho) (N : Rho → Nat → Prop), I b ρ → (∀ ρ', I (step b x) ρ' → N ρ' g) → G (enc x) ρ fun ρ' => B { nx := N, rt := V.rt, bk := V.nx, ct := N } ρ' g) →
    I b ρ → (∀ ρ', I (xs.foldl step b) ρ' → V.nx ρ' g) → loopV G B V (xs.map enc) ρ g
  | [], b, ρ, _, h, e => e ρ h
  | x :: xs, b, ρ, hs, h, e => by
    show G (enc x) ρ _
    exact hs x List.mem_cons_self b ρ (loopV G B V (xs.map enc)) h fun ρ' h' => lp_fold I step xs (step b x) ρ' (fun y hy => hs y (List.mem_cons_of_mem _ hy)) h' e
end Vl
/-! W6: a test reads a slot's own list as plain data, and the slot keeps it. -/
namespace Vl
open PySem PySem.Spec PyProof.Rows L2
def NotInts (ds : List PyData) : Prop := ∃ d ∈ ds, ∀ i : Int, d ≠ .int i
theorem Rl.disownP {K : PySem.W.Frag} {a : Addr} {H0 H : Hp} {O0 O : List Addr} {ρ : Rho} {g : Nat} {σ : L2.St} (r : Rl K a H0 O0 O ρ g σ H) {i : Nat} {ds : List PyData} (hi : ρ[i]? = some (.own ds)) :
    ∃ O', Sub (Off (a :: O) H) (Off (a :: O') H) ∧ Rl K a H0 O0 O' (ρ.set i (.val (.list ds))) g σ H ∧ ∃ p xs, p ≠ a ∧ H p = some (.lst xs) ∧ DqAll K (Off (a :: O) H) xs ds ∧ ∀ q ∈ O, q ∈ O' ∨ q = p := by
  obtain ⟨p, xs, e, hp, hn, hx, h⟩ := r.slot i _ hi
  have h0 : p ∉ O0 := fun z => r.live0 p z hn
  have sb : Sub (Off (a :: O) H) (Off (a :: O.filter (fun q => decide (q ≠ p))) H) := off_sub fun b hb => by
    rcases List.mem_cons.mp hb with z | z
    · rw [z]; exact List.mem_cons_self
    · exact List.mem_cons_of_mem _ (List.mem_filter.mp z).1
  have ofil : ∀ {q : Addr}, q ∈ O → q ≠ p → q ∈ O.filter (fun q => decide (q ≠ p)) := fun {q} h1 h2 => List.mem_filter.mpr ⟨h1, decide_eq_true h2⟩
  have fo : ∀ {q : Addr}, q ∈ O.filter (fun q => decide (q ≠ p)) → q ∈ O := fun {q} h1 => (List.mem_filter.mp h1).1
  have npa : p ≠ a := fun z => r.noA (z ▸ hp)
  have out : p ∉ a :: O.filter (fun q => decide (q ≠ p)) := fun hq => by
    rcases List.mem_cons.mp hq with z | z
    · exact npa z
    · exact absurd rfl (of_decide_eq_true (List.mem_filter.mp z).2)
  have hl : i < ρ.length := (List.getElem?_eq_some_iff.mp hi).1
  refine ⟨_, sb, ⟨r.keep, r.pen.to sb rfl, fun q hq => ofil (r.sub q hq) fun z => h0 (z ▸ hq), fun q hq => r.new q (fo hq), fun hq => r.noA (fo hq), fun q hq => r.live q (fo hq), r.live0, by rw [List.length_set]; exact r.len, fun j s hs => ?_, fun j k ds' es o h1 h2 e1 e2 => ?_⟩, p, xs, npa, hx, h, fun q hq => ?_⟩
  · rcases set_slot hs with ⟨rfl, rfl, _⟩ | ⟨hj, hs⟩
    · exact ⟨.ref p, e, .lst (off_in out hx) (h.to sb)⟩
    · have q := r.slot j s hs
      cases s with
      | un => trivial
      | val d =>
        obtain ⟨v, e', h'⟩ := q
        exact ⟨v, e', h'.to sb⟩
      | own es =>
        obtain ⟨q, ys, e', hq, hn', hx', h'⟩ := q
        refine ⟨q, ys, e', ofil hq fun z => hj ?_, hn', hx', h'.to sb⟩
        exact r.inj i j ds es _ hi hs e (by rw [e', z])
      | pen => exact q
  · rcases set_slot h1 with ⟨_, z, _⟩ | ⟨_, h1⟩
    · cases z
    · rcases set_slot h2 with ⟨_, z, _⟩ | ⟨_, h2⟩
      · cases z
      · exact r.inj j k ds' es o h1 h2 e1 e2
  · by_cases z : q = p
    · exact .inr z
    · exact .inl (ofil hq z)
theorem ints_only {K : PySem.W.Frag} {H : Hp} : ∀ {cells : List Int} {ds : List PyData}, DqAll K H (cells.map V.int) ds → ∀ d ∈ ds, ∃ i : Int, d = .int i
  | [], _, .nil, d, h => (nomatch h)
  | c :: cells, _, .cons h t, d, hd => by
    rcases List.mem_cons.mp hd with rfl | hd
    · cases h
      exact ⟨c, rfl⟩
    · exact ints_only t d hd
/-- the pen after data were read that hide less -/
theorem pen_back {K : PySem.W.Frag} {a p : Addr} {O O' : List Addr} {g1 : Nat} {H H1 : Hp} {xs : List V} {ds : List PyData} {Hd : Hp} (pn : Pen K a O' g1 H1) (k : Kp a H H1) (np : p ≠ a) (hx : H p = some (.lst xs)) (hd : DqAll K Hd xs ds) (ni : NotInts ds) (hq : ∀ q ∈ O, q ∈ O' ∨ q = p) : Pen K a O g1 H1 := by
  obtain ⟨c, cells, j, rest, h1, h2, h3, h4⟩ := pn
  refine ⟨c, cells, j, rest, h1, ?_, h3, h4⟩
  obtain ⟨n, e⟩ := off_some.mp h2
  refine off_in (fun z => ?_) e
  rcases List.mem_cons.mp z with z | z
  · exact n (by rw [z]; exact List.mem_cons_self)
  · rcases hq c z with z | z
    · exact n (List.mem_cons_of_mem _ z)
    · subst z
      rw [k c _ np hx] at e
      cases e
      obtain ⟨d, hm, hn⟩ := ni
      obtain ⟨i, rfl⟩ := ints_only hd d hm
      exact hn i rfl
def wBor (i : Nat) (T : WT) : WT := fun ρ g R => ∃ ds, ρ[i]? = some (.own ds) ∧ NotInts ds ∧ T (ρ.set i (.val (.list ds))) g R
theorem t_bor {X : Cx} {c : Expr} {T : WT} (i : Nat) (h : VT X c T) : VT X c (wBor i T) := pt_weak h fun σ H Q ⟨a, H0, O0, O, ρ, g, R, r, ⟨ds, hi, ni, w⟩, q⟩ => by
  obtain ⟨O', sb, r', p, xs, np, hx, hd, hq⟩ := r.disownP hi
  exact ⟨a, H0, O0, O', _, g, R, r', w, fun b g1 H1 k1 r1 w1 => q b g1 H1 k1 (r.step k1 (pen_back r1.pen k1 np hx hd ni hq)) w1⟩
end Vl
/-! V23: a module's constants: numbers, texts, tuples of these. -/
namespace Vl
open PySem PySem.Spec PyProof.Rows L2
/-- the global x is the data d -/
structure Gc (K : PySem.W.Frag) (mg : Str → Option Value) (x : Str) (d : PyData) : Prop where
  ex : ∃ (u : Value) (v : V), mg x = some u ∧ RelV v u ∧ ∀ H, Dq K H v d
theorem v_glob {X : Cx} {x : Str} {d : PyData} {pos : Pos} (G : Gc X.K X.mg x d) (hg : Gl X x) (hd : (x == ("__debug__" : Str)) = false := by decide) : VE X (.Name x pos) (wC d) := by
  obtain ⟨u, v, hm, r, h⟩ := G.ex
  exact pe_weak (pe_glob hg hm r hd) fun σ H Q ⟨a, H0, O0, O, ρ, g, R, rl, w, q⟩ => q d g v H (Kp.refl _ _) rl (h _) w
theorem gc_int {K : PySem.W.Frag} {h : Heap} {mg : Str → Option Value} {x : Str} {i : Int} {t} (X : K.In h) (G : h.Ns mainGlobals mg) (n : PySem.W.nsIn K mainGlobals x = some (some (.int i t))) : Gc K mg x (.int i) :=
  ⟨⟨_, .int i, PySem.W.mg_of X G n, ⟨t, rfl⟩, fun _ => .int i⟩⟩
/-- strings, bools, numbers of a tuple, by what they are -/
inductive Cs : List Value → List PyData → Prop
  | nil : Cs [] []
  | str {x : Str} {t} {us : List Value} {ds : List PyData} : Cs us ds → Cs (.str x t :: us) (.str x :: ds)
  | bl {b : Bool} {us : List Value} {ds : List PyData} : Cs us ds → Cs (.bool b :: us) (.bool b :: ds)
  | int {i : Int} {t} {us : List Value} {ds : List PyData} : Cs us ds → Cs (.int i t :: us) (.int i :: ds)
theorem Cs.vs {K : PySem.W.Frag} {H : Hp} : ∀ {us : List Value} {ds : List PyData}, Cs us ds → ∃ vs, Vals vs us ∧ DqAll K H vs ds
  | _, _, .nil => ⟨[], .nil, .nil⟩
  | _, _, .str h => by
    obtain ⟨vs, a, b⟩ := h.vs (K := K) (H := H)
    exact ⟨.str _ :: vs, .cons ⟨_, rfl⟩ a, .cons (.str _) b⟩
  | _, _, .bl h => by
    obtain ⟨vs, a, b⟩ := h.vs (K := K) (H := H)
    exact ⟨.bl _ :: vs, .cons rfl a, .cons (.bl _) b⟩
  | _, _, .int h => by
    obtain ⟨vs, a, b⟩ := h.vs (K := K) (H := H)
    exact ⟨.int _ :: vs, .cons ⟨_, rfl⟩ a, .cons (.int _) b⟩
theorem gc_tup {K : PySem.W.Frag} {h : Heap} {mg : Str → Option Value} {x : Str} {a : Addr} {o : Option Addr} {its : Array Value} {n : Nat} {sl : Array (Option Value)} {ds : List PyData} (X : K.In h) (G : h.Ns mainGlobals mg)
    (hn : PySem.W.nsIn K mainGlobals x = some (some (.ref a))) (hl : K.lookup a = some ⟨.type "tuple", o, .seq its n, sl⟩) (hc : Cs its.toList ds) (hz : its.size ≤ sizeLine) : Gc K mg x (.tuple ds) :=
  ⟨⟨_, .ref a, PySem.W.mg_of X G hn, rfl, fun H => by
    obtain ⟨vs, h1, h2⟩ := hc.vs (K := K) (H := H)
    exact .tup (.inr ⟨_, its, n, hl, rfl, rfl, hz, h1⟩) h2⟩⟩
end Vl
/-! V24: x, y = e, [..]: the second a slot's own list. -/
namespace Vl
open PySem PySem.Spec PyProof.Rows L2
section
variable {X : Cx} {a b : Expr} {pos : Pos} {Wa : WE}
theorem off_born {K : PySem.W.Frag} {a p : Addr} {O : List Addr} {H H' : Hp} (k : Kp a H H') (hp : H p = none) : Sub (Off (a :: O) H) (Off (a :: p :: O) H') := fun b o e => by
  obtain ⟨n, e⟩ := off_some.mp e
  have na : b ≠ a := fun z => n (by rw [z]; exact List.mem_cons_self)
  refine off_in (fun z => ?_) (k b o na e)
  rcases List.mem_cons.mp z with z | z
  · exact na z
  · rcases List.mem_cons.mp z with z | z
    · rw [z, hp] at e
      cases e
    · exact n (List.mem_cons_of_mem _ z)
def sPar2P (i j : Nat) (W1 : WE) (W2 : WL) : WS := fun V ρ g => W1 ρ g fun d g1 => W2 ρ g1 fun ds g2 => V.nx ((ρ.set i (.val d)).set j (.own ds)) g2
theorem tS_par2P {K : PySem.W.Frag} {i j : Nat} {W1 : WE} {W2 : WL} : ∀ D σ H, tS K (sPar2P i j W1 W2) D σ H → tPar i j (tCons (tE K W1) (tCons (tL K W2) tNil)) D σ H := fun D σ H ⟨a, H0, O0, O, ρ, g, V, r, w, en⟩ =>
  ⟨a, H0, O0, O, ρ, g, _, r, w, fun d g1 v1 H1 k1 r1 dd1 w1 => ⟨a, H0, O0, O, ρ, g1, _, r1, w1, fun ds g2 p xs H2 k2 r2 hp hx d2 w2 => by
    have npa : p ≠ a := fun z => r1.pen.live (z ▸ hp)
    refine ⟨v1, .ref p, rfl, en.nx (p :: O) _ g2 _ H2 ((off_kp k1).trans (off_born (K := K) k2 hp)) ((r2.setVal (dd1.to (off_born (K := K) k2 hp))).setOwn List.mem_cons_self (r1.freshH hp) hx d2 fun m es hm hs e => ?_) w2⟩
    rcases set_slot hs with ⟨_, z, _⟩ | ⟨hj, hs⟩
    · cases z
    · rw [List.getElem?_set_ne hj] at e
      obtain ⟨q, _, e', hq, _⟩ := r1.slot m _ hs
      rw [e] at e'
      cases e'
      exact r1.live p hq hp⟩⟩
theorem vs_par2P (i j : Nat) {x y : Str} {px py pt : Pos} {kt k2 pt2} {V : WL} (hc : X.calm = true) (hN : X.N.Nodup) (ha : VE X a Wa) (hb : VL X b V) (hi : X.N[i]? = some x := by rfl) (hj : X.N[j]? = some y := by rfl) (hij : i ≠ j := by decide)
    (hx : X.env.scope.names.lookup x = some .local := by rfl) (hy : X.env.scope.names.lookup y = some .local := by rfl) (hw : swappedStores [.Tuple [.Name x px, .Name y py] kt pt] (.Tuple [a, b] k2 pt2) X.env = pure (some [x, y]) := by rfl)
    (hs : swapsWithSole [.Tuple [.Name x px, .Name y py] kt pt] (.Tuple [a, b] k2 pt2) pos.line X.env = pure false := by rfl) (h1 : starEach [a, b] X.env = (false, eval a X.env) :: starEach [b] X.env := by rfl) (h2 : starEach [b] X.env = (false, eval b X.env) :: starEach [] X.env := by rfl) :
    VS X (.Assign [.Tuple [.Name x px, .Name y py] kt pt] (.Tuple [a, b] k2 pt2) pos) (sPar2P i j Wa V) := ps_weak (ps_par hc hN hi hj hij hx hy (pa_cons ha (pa_cons hb pa_nil h2) h1) hw hs) tS_par2P
end
end Vl
namespace Law
open PySem PySem.Spec PyProof.Rows L2 Vl
def topS (i : Nat) : Stmt := PySem.Challenge.pw_somerows_k05_messages_told.main.body.getD i (.Pass ⟨0, 0, 0, 0⟩)
abbrev s_value_passes : Stmt := topS 1
theorem sc_value_passes : FnScope ["case", "value", "pair"] ["case", "value"] (defScope s_value_passes) := ⟨rfl, rfl, rfl, by decide +kernel, rfl, by decide +kernel, by decide +kernel⟩
abbrev s_pair_passes : Stmt := topS 2
theorem sc_pair_passes : FnScope ["case", "kind", "value"] ["case", "kind", "value"] (defScope s_pair_passes) := ⟨rfl, rfl, rfl, by decide +kernel, rfl, by decide +kernel, by decide +kernel⟩
abbrev s_child_passes : Stmt := topS 9
theorem sc_child_passes : FnScope ["case", "source", "parents", "child", "kind", "p"] ["case", "source"] (defScope s_child_passes) := ⟨rfl, rfl, rfl, by decide +kernel, rfl, by decide +kernel, by decide +kernel⟩
abbrev s_after_commit : Stmt := topS 10
theorem sc_after_commit : FnScope ["source", "commit", "parents", "child", "change", "p", "state"] ["source", "commit"] (defScope s_after_commit) := ⟨rfl, rfl, rfl, by decide +kernel, rfl, by decide +kernel, by decide +kernel⟩
abbrev s_is_sent : Stmt := topS 13
theorem sc_is_sent : FnScope ["sending", "passed", "passes"] ["sending", "passed", "passes"] (defScope s_is_sent) := ⟨rfl, rfl, rfl, by decide +kernel, rfl, by decide +kernel, by decide +kernel⟩
abbrev s_told_kinds : Stmt := topS 14
theorem sc_told_kinds : FnScope ["plan", "later", "p", "child"] ["plan", "later", "p"] (defScope s_told_kinds) := ⟨rfl, rfl, rfl, by decide +kernel, rfl, by decide +kernel, by decide +kernel⟩
abbrev s_told_value : Stmt := topS 15
theorem sc_told_value : FnScope ["plan", "later", "state"] ["plan", "later", "state"] (defScope s_told_value) := ⟨rfl, rfl, rfl, by decide +kernel, rfl, by decide +kernel, by decide +kernel⟩
abbrev s_entries_of : Stmt := topS 16
theorem sc_entries_of : FnScope ["case", "plan", "source", "later", "change", "p", "state", "sent", "entry"] ["case", "plan", "source", "later", "change"] (defScope s_entries_of) := ⟨rfl, rfl, rfl, by decide +kernel, rfl, by decide +kernel, by decide +kernel⟩
abbrev s_message_of : Stmt := topS 17
theorem sc_message_of : FnScope ["changed", "word", "first", "entries"] ["changed", "word"] (defScope s_message_of) := ⟨rfl, rfl, rfl, by decide +kernel, rfl, by decide +kernel, by decide +kernel⟩
abbrev s_in_lanes : Stmt := topS 18
theorem sc_in_lanes : FnScope ["plan", "changed", "_", "entries", "entry", "word"] ["plan", "changed"] (defScope s_in_lanes) := ⟨rfl, rfl, rfl, by decide +kernel, rfl, by decide +kernel, by decide +kernel⟩
abbrev s_messages_of : Stmt := topS 19
theorem sc_messages_of : FnScope ["case", "plan", "source", "commit", "later", "change"] ["case", "plan", "source", "commit"] (defScope s_messages_of) := ⟨rfl, rfl, rfl, by decide +kernel, rfl, by decide +kernel, by decide +kernel⟩
abbrev s__law_open : Stmt := topS 21
theorem sc__law_open : FnScope ["script", "cells", "k", "cell"] ["script"] (defScope s__law_open) := ⟨rfl, rfl, rfl, by decide +kernel, rfl, by decide +kernel, by decide +kernel⟩
abbrev s__law_spread : Stmt := topS 22
theorem sc__law_spread : FnScope ["cell", "at", "primes", "one", "two", "three"] ["cell", "at"] (defScope s__law_spread) := ⟨rfl, rfl, rfl, by decide +kernel, rfl, by decide +kernel, by decide +kernel⟩
abbrev s__law_take : Stmt := topS 23
theorem sc__law_take : FnScope ["pen", "amount", "at", "cell", "found"] ["pen", "amount"] (defScope s__law_take) := ⟨rfl, rfl, rfl, by decide +kernel, rfl, by decide +kernel, by decide +kernel⟩
abbrev s__law_same : Stmt := topS 24
theorem sc__law_same : FnScope ["found", "due", "one", "other"] ["found", "due"] (defScope s__law_same) := ⟨rfl, rfl, rfl, by decide +kernel, rfl, by decide +kernel, by decide +kernel⟩
abbrev s__law_one_of : Stmt := topS 25
theorem sc__law_one_of : FnScope ["pen", "some"] ["pen", "some"] (defScope s__law_one_of) := ⟨rfl, rfl, rfl, by decide +kernel, rfl, by decide +kernel, by decide +kernel⟩
abbrev s__law_draw_test : Stmt := topS 26
theorem sc__law_draw_test : FnScope ["pen", "values", "kinds", "found", "kind", "value"] ["pen", "values", "kinds"] (defScope s__law_draw_test) := ⟨rfl, rfl, rfl, by decide +kernel, rfl, by decide +kernel, by decide +kernel⟩
abbrev s__law_draw_case : Stmt := topS 27
theorem sc__law_draw_case : FnScope ["pen", "shapes", "n", "values", "kinds"] ["pen", "shapes"] (defScope s__law_draw_case) := ⟨rfl, rfl, rfl, by decide +kernel, rfl, by decide +kernel, by decide +kernel⟩
abbrev s__law_draw_plan : Stmt := topS 28
theorem sc__law_draw_plan : FnScope ["pen", "late", "sends", "flags", "flag", "anew", "some"] ["pen", "late"] (defScope s__law_draw_plan) := ⟨rfl, rfl, rfl, by decide +kernel, rfl, by decide +kernel, by decide +kernel⟩
abbrev s__law_value_ok : Stmt := topS 29
theorem sc__law_value_ok : FnScope ["case", "value", "pair"] ["case", "value"] (defScope s__law_value_ok) := ⟨rfl, rfl, rfl, by decide +kernel, rfl, by decide +kernel, by decide +kernel⟩
abbrev s__law_child_ok : Stmt := topS 30
theorem sc__law_child_ok : FnScope ["case", "parents", "child"] ["case", "parents", "child"] (defScope s__law_child_ok) := ⟨rfl, rfl, rfl, by decide +kernel, rfl, by decide +kernel, by decide +kernel⟩
abbrev s__law_is_even : Stmt := topS 31
theorem sc__law_is_even : FnScope ["source"] ["source"] (defScope s__law_is_even) := ⟨rfl, rfl, rfl, by decide +kernel, rfl, by decide +kernel, by decide +kernel⟩
abbrev s__law_done : Stmt := topS 32
theorem sc__law_done : FnScope ["source", "commit", "parents", "child", "change"] ["source", "commit"] (defScope s__law_done) := ⟨rfl, rfl, rfl, by decide +kernel, rfl, by decide +kernel, by decide +kernel⟩
abbrev s__law_commits : Stmt := topS 33
theorem sc__law_commits : FnScope ["case", "source", "n", "values", "kinds", "test", "joint", "one", "two", "p", "state", "kind", "found", "change", "other", "commit"] ["case", "source"] (defScope s__law_commits) := ⟨rfl, rfl, rfl, by decide +kernel, rfl, by decide +kernel, by decide +kernel⟩
abbrev s__law_entries : Stmt := topS 34
theorem sc__law_entries : FnScope ["case", "plan", "source", "commit", "later", "found", "change", "value", "ways", "entry", "rule", "p", "child"] ["case", "plan", "source", "commit"] (defScope s__law_entries) := ⟨rfl, rfl, rfl, by decide +kernel, rfl, by decide +kernel, by decide +kernel⟩
abbrev s__law_messages : Stmt := topS 35
theorem sc__law_messages : FnScope ["case", "plan", "source", "commit", "entries", "found", "word", "mine", "entry", "change"] ["case", "plan", "source", "commit"] (defScope s__law_messages) := ⟨rfl, rfl, rfl, by decide +kernel, rfl, by decide +kernel, by decide +kernel⟩
abbrev s_law : Stmt := topS 36
theorem sc_law : FnScope ["script", "pen", "turn", "case", "plan", "source", "again", "some", "text", "commit", "each"] ["script"] (defScope s_law) := ⟨rfl, rfl, rfl, by decide +kernel, rfl, by decide +kernel, by decide +kernel⟩
structure Gs (K : PySem.W.Frag) (mg : Str → Option Value) : Prop where
  c_LANES : Gc K mg "LANES" (.int (0))
  c_CHILDREN : Gc K mg "CHILDREN" (.int (2))
  c_PARENTS : Gc K mg "PARENTS" (.int (3))
  c_TELLS_VALUE : Gc K mg "TELLS_VALUE" (.int (4))
  c_TELLS_CHILDREN : Gc K mg "TELLS_CHILDREN" (.int (5))
  c_LANE_WORDS : Gc K mg "LANE_WORDS" (.tuple [.str "parent", .str "child"])
section
variable {P : Program} {w : World} {K : PySem.W.Frag} {mg : Str → Option Value} {base : Heap}
theorem prime_of {d : PyData} (h : d ∈ [PyData.int 2147483629, .int 2147483587, .int 2147483579, .int 2147483563, .int 2147483549, .int 2147483543, .int 2147483497, .int 2147483489, .int 2147483477, .int 2147483423, .int 2147483399, .int 2147483353, .int 2147483323]) :
    ∃ p, d = .int p ∧ 0 < p ∧ p ≤ 2147483629 := by
  simp only [List.mem_cons, List.not_mem_nil, or_false] at h
  rcases h with rfl | rfl | rfl | rfl | rfl | rfl | rfl | rfl | rfl | rfl | rfl | rfl | rfl <;> exact ⟨_, rfl, by decide, by decide⟩
theorem ok_spread (B : Bi mg) (D : Df K mg "_law_spread" s__law_spread ["cell", "at"]) : Ck P w K mg base "_law_spread" ["cell", "at"] 1 spSpread := by
  refine ck_v D sc__law_spread (fun as g R h => ?_) (fun f cdv A outer s H E hr => (vss_cons (vs_if (t_ge (vv 0) (v_pow v_int v_int)) (vss_one (vs_ret (vv 0))) vss_nil) (vss_cons (vs_set 2 sc__law_spread.nd (v_lst (va_cons v_int (va_cons v_int (va_cons v_int (va_cons v_int (va_cons v_int (va_cons v_int (va_cons v_int (va_cons v_int va_nil)))))))))) (vss_cons (vs_set 2 sc__law_spread.nd (v_add (vv 2) (v_lst (va_cons v_int (va_cons v_int (va_cons v_int (va_cons v_int (va_cons v_int va_nil)))))))) (vss_cons (vs_set 3 sc__law_spread.nd (v_add (v_add (v_mulI (v_mod (v_toInt (by rfl) B.b_int (va_cons (vv 0) va_nil)) v_int) (v_add (v_mulI v_int (vv 1)) v_int)) (v_mulI (vv 1) v_int)) v_int)) (vss_cons (vs_set 3 sc__law_spread.nd (v_mod (v_toInt (by rfl) B.b_int (va_cons (v_pow (vv 3) v_int) va_nil)) (v_ix (vv 2) (v_mod (v_toInt (by rfl) B.b_int (va_cons (vv 1) va_nil)) v_int)))) (vss_cons (vs_set 4 sc__law_spread.nd (v_mod (v_toInt (by rfl) B.b_int (va_cons (v_pow (v_add (v_add (v_mulI (vv 3) (v_add (vv 1) v_int)) (v_mod (v_toInt (by rfl) B.b_int (va_cons (vv 0) va_nil)) v_int)) v_int) v_int) va_nil)) (v_ix (vv 2) (v_mod (v_toInt (by rfl) B.b_int (va_cons (v_add (vv 1) v_int) va_nil)) v_int)))) (vss_cons (vs_set 5 sc__law_spread.nd (v_mod (v_toInt (by rfl) B.b_int (va_cons (v_pow (v_add (v_add (vv 4) (v_mod (v_toInt (by rfl) B.b_int (va_cons (vv 3) va_nil)) v_int)) (vv 1)) v_int) va_nil)) (v_ix (vv 2) (v_mod (v_toInt (by rfl) B.b_int (va_cons (v_add (vv 1) v_int) va_nil)) v_int)))) (vss_one (vs_ret (v_add (v_mulI (v_add (v_mulI (vv 3) v_int) (vv 4)) v_int) (vv 5)))))))))))) (fun as g R h => ?_)
  · obtain ⟨c, k, rfl, _⟩ := h
    rfl
  · obtain ⟨c, k, rfl, hk, hR⟩ := h
    have hk' : k ≤ 4000000000 := hk
    have kn : ∀ m : Int, 0 ≤ ((k : Int) + m) % 13 ∧ ((k : Int) + m) % 13 < 13 := fun m => ⟨Int.emod_nonneg _ (by decide), Int.emod_lt_of_pos _ (by decide)⟩
    have k0 : 0 ≤ (k : Int) % 13 ∧ (k : Int) % 13 < 13 := ⟨Int.emod_nonneg _ (by decide), Int.emod_lt_of_pos _ (by decide)⟩
    simp only [sSeq, sIf, sSet, sOwn, sRet, sRetN, sNext, sDis, sSetIx, sApp, sAsg, sPar, sPar2O, sPar3, wB, wOp, wVar, wC, wNil, wCons, pNil, pCons, pPen, wTup, lLst, wL, wCall, wChain, Vl.wAnd, Vl.wOr, Vl.wNot, wAndV, wOrV, wNotV, wIf, wNeg, wIsN, wIsa, wFn, wSl, oNo, oPt, lList, wRevL, wIxO, wEqE, gN, gsNil, gsCons, gT, iL, iT, iR1, iR2, iZp, iEn, wYes, wipeV, endV, startV, e_fII, e_addI, e_addT, e_addL, e_intI, e_intB, e_mulT, e_mulL, e_lenL, e_lenT, e_tupL, e_tupT, e_eqI, e_neI, e_eqB, e_neB, e_eqS, e_neS, List.length_cons, List.length_nil, List.replicate, List.cons_append, List.nil_append, List.getElem?_cons_zero, List.getElem?_cons_succ, List.set_cons_zero, List.set_cons_succ, Nat.reduceAdd, Nat.reduceSub, List.replicate_succ, List.replicate_zero, true_and, if_true, if_false, Bool.false_eq_true, reduceIte, Int.toNat_natCast]
    refine ⟨pow_ok (a := 10) (n := 18) (by decide) (by decide), ?_⟩
    by_cases hc : (10 : Int) ^ Int.toNat 18 ≤ c
    · rw [if_pos (decide_eq_true hc)]
      exact ⟨g, Nat.le_refl _, hR c⟩
    · rw [if_neg (by rw [decide_eq_false hc]; exact Bool.false_ne_true)]
      have m1 := Int.emod_nonneg c (show (1000000007 : Int) ≠ 0 by decide)
      have m2 := Int.emod_lt_of_pos c (show (0 : Int) < 1000000007 by decide)
      have p1 := prod_le m1 (Int.le_of_lt m2) (show 0 ≤ 2 * (k : Int) + 69069 by omega) (show 2 * (k : Int) + 69069 ≤ 8000069069 by omega)
      generalize hq : c % 1000000007 * (2 * (k : Int) + 69069) = q at p1 ⊢
      refine ⟨by decide, by decide, by decide, by decide, mulL (by decide) (by decide), mulL (by omega) (by omega), mulR (by decide) (by decide), pow_ok (n := 3) (by omega) (by decide), by decide, ?_⟩
      refine fIx_mem k0.1 (by simpa using k0.2) fun d hd => ?_
      obtain ⟨p, rfl, hp0, hp1⟩ := prime_of hd
      simp only [sSeq, sIf, sSet, sOwn, sRet, sRetN, sNext, sDis, sSetIx, sApp, sAsg, sPar, sPar2O, sPar3, wB, wOp, wVar, wC, wNil, wCons, pNil, pCons, pPen, wTup, lLst, wL, wCall, wChain, Vl.wAnd, Vl.wOr, Vl.wNot, wAndV, wOrV, wNotV, wIf, wNeg, wIsN, wIsa, wFn, wSl, oNo, oPt, lList, wRevL, wIxO, wEqE, gN, gsNil, gsCons, gT, iL, iT, iR1, iR2, iZp, iEn, wYes, wipeV, endV, startV, e_fII, e_addI, e_addT, e_addL, e_intI, e_intB, e_mulT, e_mulL, e_lenL, e_lenT, e_tupL, e_tupT, e_eqI, e_neI, e_eqB, e_neB, e_eqS, e_neS, List.length_cons, List.length_nil, List.replicate, List.cons_append, List.nil_append, List.getElem?_cons_zero, List.getElem?_cons_succ, List.set_cons_zero, List.set_cons_succ, Nat.reduceAdd, Nat.reduceSub, List.replicate_succ, List.replicate_zero, true_and, if_true, if_false, Bool.false_eq_true, reduceIte, Int.toNat_natCast]
      have o1 := Int.emod_nonneg ((q + (k : Int) * 40503 + 977) ^ Int.toNat 3) (show p ≠ 0 by omega)
      have o2 := Int.emod_lt_of_pos ((q + (k : Int) * 40503 + 977) ^ Int.toNat 3) hp0
      generalize (q + (k : Int) * 40503 + 977) ^ Int.toNat 3 % p = one at o1 o2 ⊢
      have p2 := prod_le o1 (show one ≤ 2147483629 by omega) (show 0 ≤ (k : Int) + 3 by omega) (show (k : Int) + 3 ≤ 4000000003 by omega)
      have m3 := Int.emod_nonneg c (show (65537 : Int) ≠ 0 by decide)
      have m4 := Int.emod_lt_of_pos c (show (0 : Int) < 65537 by decide)
      generalize one * ((k : Int) + 3) = q2 at p2 ⊢
      generalize c % 65537 = q3 at m3 m4 ⊢
      refine ⟨hp0, mulL (by omega) (by omega), by decide, pow_ok (n := 5) (by omega) (by decide), by decide, ?_⟩
      refine fIx_mem (kn 5).1 (by simpa using (kn 5).2) fun d hd => ?_
      obtain ⟨p', rfl, hp0', hp1'⟩ := prime_of hd
      simp only [sSeq, sIf, sSet, sOwn, sRet, sRetN, sNext, sDis, sSetIx, sApp, sAsg, sPar, sPar2O, sPar3, wB, wOp, wVar, wC, wNil, wCons, pNil, pCons, pPen, wTup, lLst, wL, wCall, wChain, Vl.wAnd, Vl.wOr, Vl.wNot, wAndV, wOrV, wNotV, wIf, wNeg, wIsN, wIsa, wFn, wSl, oNo, oPt, lList, wRevL, wIxO, wEqE, gN, gsNil, gsCons, gT, iL, iT, iR1, iR2, iZp, iEn, wYes, wipeV, endV, startV, e_fII, e_addI, e_addT, e_addL, e_intI, e_intB, e_mulT, e_mulL, e_lenL, e_lenT, e_tupL, e_tupT, e_eqI, e_neI, e_eqB, e_neB, e_eqS, e_neS, List.length_cons, List.length_nil, List.replicate, List.cons_append, List.nil_append, List.getElem?_cons_zero, List.getElem?_cons_succ, List.set_cons_zero, List.set_cons_succ, Nat.reduceAdd, Nat.reduceSub, List.replicate_succ, List.replicate_zero, true_and, if_true, if_false, Bool.false_eq_true, reduceIte, Int.toNat_natCast]
      have t1 := Int.emod_nonneg ((q2 + q3 + 5) ^ Int.toNat 5) (show p' ≠ 0 by omega)
      have t2 := Int.emod_lt_of_pos ((q2 + q3 + 5) ^ Int.toNat 5) hp0'
      generalize (q2 + q3 + 5) ^ Int.toNat 5 % p' = two at t1 t2 ⊢
      have m5 := Int.emod_nonneg one (show (1009 : Int) ≠ 0 by decide)
      have m6 := Int.emod_lt_of_pos one (show (0 : Int) < 1009 by decide)
      generalize one % 1009 = q4 at m5 m6 ⊢
      refine ⟨hp0', by decide, pow_ok (n := 3) (by omega) (by decide), by decide, ?_⟩
      refine fIx_mem (kn 7).1 (by simpa using (kn 7).2) fun d hd => ?_
      obtain ⟨p'', rfl, hp0'', hp1''⟩ := prime_of hd
      simp only [sSeq, sIf, sSet, sOwn, sRet, sRetN, sNext, sDis, sSetIx, sApp, sAsg, sPar, sPar2O, sPar3, wB, wOp, wVar, wC, wNil, wCons, pNil, pCons, pPen, wTup, lLst, wL, wCall, wChain, Vl.wAnd, Vl.wOr, Vl.wNot, wAndV, wOrV, wNotV, wIf, wNeg, wIsN, wIsa, wFn, wSl, oNo, oPt, lList, wRevL, wIxO, wEqE, gN, gsNil, gsCons, gT, iL, iT, iR1, iR2, iZp, iEn, wYes, wipeV, endV, startV, e_fII, e_addI, e_addT, e_addL, e_intI, e_intB, e_mulT, e_mulL, e_lenL, e_lenT, e_tupL, e_tupT, e_eqI, e_neI, e_eqB, e_neB, e_eqS, e_neS, List.length_cons, List.length_nil, List.replicate, List.cons_append, List.nil_append, List.getElem?_cons_zero, List.getElem?_cons_succ, List.set_cons_zero, List.set_cons_succ, Nat.reduceAdd, Nat.reduceSub, List.replicate_succ, List.replicate_zero, true_and, if_true, if_false, Bool.false_eq_true, reduceIte, Int.toNat_natCast]
      exact ⟨hp0'', mulR (by decide) (by decide), mulR (by decide) (by decide), g, Nat.le_refl _, hR _⟩
theorem ok_take (B : Bi mg) (C_spread : Ck P w K mg base "_law_spread" ["cell", "at"] 1 spSpread) (D : Df K mg "_law_take" s__law_take ["pen", "amount"]) : Ck P w K mg base "_law_take" ["pen", "amount"] 2 spTake := by
  obtain ⟨f, fd, F, b, m⟩ := D.ex
  obtain ⟨fS, fdS, FS, bS, gS, kS⟩ := C_spread.ex
  refine ⟨f, fd, F.ok sc__law_take (fun vs H Q E h => ?_) (fun cdv A outer s H vs Q E hr h => ?_), b, m, F.kp⟩
  · obtain ⟨a, O, g, as, R, _, _, _, r, ⟨n, rfl, _⟩, _⟩ := h
    exact r.len
  · obtain ⟨a, O, g, as, R, hp, ha, hl, r, ⟨n, rfl, ⟨hn, hn2⟩, hg, hR⟩, q⟩ := h
    cases r with
    | pen t =>
    cases t with
    | val h1 t =>
    cases t
    cases h1
    obtain ⟨c, cells, k, rest, e1, e2, e3, e4⟩ := hp
    refine ⟨_, (pss_join (ps_if (pt_cmpR op_lt (pe_ix ix_list (pv 0) pe_int (fun _ _ => rfl)) (pv 1) (nomark _))
      (pss_cons (ps_set (i := 2) sc__law_take.nd rfl (.inl rfl) (pe_ix ix_list (pv 0) pe_int (fun _ _ => rfl))) (pss_cons (ps_set (i := 3) sc__law_take.nd rfl (.inl rfl) pe_int)
        (pss_join (ps_if (pt_cmpR op_lt (pv 2) (pe_callB call_len_seq (by rfl) B.b_len PySem.boot_len (pa_cons (pe_ix ix_list (pv 0) pe_int (fun _ _ => rfl)) pa_nil)) (nomark _)) (pss_one (ps_set (i := 3) sc__law_take.nd rfl (.inl rfl) (pe_ix ix_list (pe_ix ix_list (pv 0) pe_int (fun _ _ => rfl)) (pv 2) (fun _ _ => rfl))))
          (pss_one (ps_if (pt_cmpR op_gt (pe_callB call_len_seq (by rfl) B.b_len PySem.boot_len (pa_cons (pe_ix ix_list (pv 0) pe_int (fun _ _ => rfl)) pa_nil)) pe_int (nomark _)) (pss_one (ps_set (i := 3) sc__law_take.nd rfl (.inl rfl) (pe_op op_mod (pe_callTy call_int1 (by rfl) B.b_int boot_int' (pa_cons (pe_ix ix_list (pe_ix ix_list (pv 0) pe_int (fun _ _ => rfl)) (pe_op op_mod (pe_callTy call_int1 (by rfl) B.b_int boot_int' (pa_cons (pe_op op_add (pe_op op_mul (pv 2) pe_int) pe_int) pa_nil)) (pe_callB call_len_seq (by rfl) B.b_len PySem.boot_len (pa_cons (pe_ix ix_list (pv 0) pe_int (fun _ _ => rfl)) pa_nil))) (fun _ _ => rfl)) pa_nil)) (pe_op op_add (pe_op op_pow pe_int pe_int) (pv 2))))) pss_nil)))
        (pss_cons (ps_asg (pe_op op_add (pv 2) pe_int) (pg_sub (pv 0) pe_int set_list))
        (pss_one (ps_asg (pe_call FS (hr.mono (by decide)) (by rfl) gS kS bS .nil pass0 (pa_cons (pv 3) (pa_cons (pv 2) pa_nil))) (pg_sub (pv 0) pe_int set_list))))))) pss_nil)
    (pss_cons (ps_set (i := 4) sc__law_take.nd rfl (.inl rfl) (pe_op op_mod (pe_callTy call_int1 (by rfl) B.b_int boot_int' (pa_cons (pe_ix ix_list (pv 0) pe_int (fun _ _ => rfl)) pa_nil)) (pv 1))) (pss_cons (ps_asg (pe_op op_fdiv (pe_ix ix_list (pv 0) pe_int (fun _ _ => rfl)) (pv 1)) (pg_sub (pv 0) pe_int set_list)) (pss_one (ps_ret (pv 4)))))), ?_⟩
    have hca : c ∉ a :: O := (off_some.mp e2).1
    have hc : H c = some (.lst (cells.map V.int)) := (off_some.mp e2).2
    have nca : c ≠ a := fun z => hca (by rw [z]; exact List.mem_cons_self)
    have hg' : g < 4000000000 := hg
    -- behind the first if: the pen has some rest
    refine ⟨fun σ' H1 => ∃ (y2 y3 : Option V), σ' = [some (.ref a), some (.int n), y2, y3, none] ∧ Pen K a O (g + 1) H1 ∧ Kp a H H1, ?_, ?_⟩
    · refine ⟨.ref a, rfl, a, _, 2, _, rfl, rfl, SqL.of e1, rfl, .int n, rfl, _, _, rfl, rfl, _, rfl, ite2 (fun _ => ?_) (fun _ => ?_)⟩
      · refine ⟨.ref a, rfl, a, _, 1, _, rfl, rfl, SqL.of e1, rfl, ?_⟩
        -- behind the second if: some cell
        refine ⟨fun σ' H1 => ∃ cell : Int, σ' = [some (.ref a), some (.int n), some (.int (k : Int)), some (.int cell), none] ∧ H1 = H, ?_, ?_⟩
        · refine ⟨.int (k : Int), rfl, .ref a, rfl, a, _, 0, _, rfl, rfl, SqL.of e1, rfl, c, _, rfl, .inl (SqL.of hc), _, _, rfl, rfl, _, rfl, ite2 (fun h1 => ?_) (fun h1 => ?_)⟩
          · have hk : k < cells.length := by
              have := of_decide_eq_true h1
              rw [List.length_map] at this
              omega
            exact ⟨.ref a, rfl, a, _, 0, _, rfl, rfl, SqL.of e1, rfl, .int (k : Int), rfl, c, _, _, .int cells[k], rfl, rfl, SqL.of hc, atI_nat (by rw [List.getElem?_map, List.getElem?_eq_getElem hk]; rfl), cells[k], rfl, rfl⟩
          · refine ⟨.ref a, rfl, a, _, 0, _, rfl, rfl, SqL.of e1, rfl, c, _, rfl, .inl (SqL.of hc), _, _, rfl, rfl, _, rfl, ite2 (fun h2 => ?_) (fun h2 => ?_)⟩
            · have hl0 : 0 < cells.length := by
                have := of_decide_eq_true h2
                rw [List.length_map] at this
                omega
              have j0 := Int.emod_nonneg ((k : Int) * 5 + 3) (show ((cells.length : Nat) : Int) ≠ 0 by omega)
              have j1 := Int.emod_lt_of_pos ((k : Int) * 5 + 3) (show (0 : Int) < ((cells.length : Nat) : Int) by omega)
              obtain ⟨j, hj⟩ := Int.eq_ofNat_of_zero_le j0
              have hjl : j < cells.length := by omega
              refine ⟨.ref a, rfl, a, _, 0, _, rfl, rfl, SqL.of e1, rfl, .int (k : Int), rfl, _, _, rfl, rfl, mulR (by decide) (by decide), _, _, rfl, rfl, .inl ⟨_, rfl, ?_⟩⟩
              refine ⟨.ref a, rfl, a, _, 0, _, rfl, rfl, SqL.of e1, rfl, c, _, rfl, .inl (SqL.of hc), _, _, rfl, rfl, by rw [List.length_map]; omega, ?_⟩
              refine ⟨c, _, ((k : Int) * 5 + 3) % (cells.length : Nat), .int cells[j], rfl, by rw [List.length_map], SqL.of hc, (by rw [hj]; exact atI_nat (by rw [List.getElem?_map, List.getElem?_eq_getElem hjl]; rfl)), .inl ⟨_, rfl, ?_⟩⟩
              refine ⟨_, _, rfl, rfl, pow_ok (a := 10) (n := 17) (by decide) (by decide), .int (k : Int), rfl, _, _, rfl, rfl, _, _, rfl, rfl, ?_, ?_⟩
              · have : (0 : Int) < 10 ^ Int.toNat 17 := by decide
                show (0 : Int) < 10 ^ Int.toNat 17 + (k : Int)
                omega
              · exact ⟨_, rfl, rfl⟩
            · exact ⟨0, rfl, rfl⟩
        · rintro σ' H1 ⟨cell, rfl, rfl⟩
          -- pen[1] = at + 1
          refine ⟨.int (k : Int), rfl, _, _, rfl, rfl, .ref a, rfl, a, _, 1, 1, rfl, rfl, e1, rfl, ?_⟩
          -- pen[2] = _law_spread(cell, at)
          have nO : ∀ {o : HO} (p : Addr), p ∈ O → upd H1 a o p ≠ none := fun {o} p hp z => by
            rw [upd_ne (show p ≠ a from fun y => ha (y ▸ hp))] at z
            exact hl p hp z
          refine ⟨.int cell, rfl, .int (k : Int), rfl, a, O, g + 1, [.val (.int cell), .val (.int (k : Int))], fun d g' => (∃ z, d = .int z) ∧ g' = g + 1, ⟨c, cells, k + 1, rest, ?_, ?_, e3, Nat.succ_le_succ e4⟩, ha, nO, .val (.int _) (.val (.int _) .nil), ⟨cell, k, rfl, by omega, fun z => ⟨⟨z, rfl⟩, rfl⟩⟩, ?_⟩
          · rw [upd_same]
            rfl
          · exact off_in hca (by rw [upd_ne nca]; exact hc)
          · rintro d g' v H' kp ⟨c', cells', k', rest', f1, f2, f3, f4⟩ dv ⟨⟨z, rfl⟩, rfl⟩
            cases dv with
            | int _ =>
            obtain ⟨f1, f2, f3, f4⟩ := (⟨f1, f2, f3, f4⟩ : H' a = _ ∧ _ ∧ _ ∧ _)
            have hca' : c' ∉ a :: O := (off_some.mp f2).1
            have hc' : H' c' = some (.lst (cells'.map V.int)) := (off_some.mp f2).2
            have nca' : c' ≠ a := fun z => hca' (by rw [z]; exact List.mem_cons_self)
            refine ⟨.ref a, rfl, a, _, 2, 2, rfl, rfl, f1, rfl, ?_⟩
            refine ⟨_, _, rfl, ⟨c', cells', k', z, by rw [upd_same]; rfl, off_in hca' (by rw [upd_ne nca']; exact hc'), f3, f4⟩, ?_⟩
            intro b o nb e
            rw [upd_ne nb]
            exact kp b o nb (by rw [upd_ne nb]; exact e)
      · exact ⟨none, none, rfl, ⟨c, cells, k, rest, e1, e2, e3, Nat.le_succ_of_le e4⟩, Kp.refl _ _⟩
    · rintro σ' H1 ⟨y2, y3, rfl, ⟨c1, cells1, k1, rest1, f1, f2, f3, f4⟩, kp⟩
      have hca1 : c1 ∉ a :: O := (off_some.mp f2).1
      have hc1 : H1 c1 = some (.lst (cells1.map V.int)) := (off_some.mp f2).2
      have nca1 : c1 ≠ a := fun z => hca1 (by rw [z]; exact List.mem_cons_self)
      refine ⟨.ref a, rfl, a, _, 2, _, rfl, rfl, SqL.of f1, rfl, .inl ⟨_, rfl, .int n, rfl, _, _, rfl, rfl, hn, ?_⟩⟩
      refine ⟨.ref a, rfl, a, _, 2, _, rfl, rfl, SqL.of f1, rfl, .int n, rfl, _, _, rfl, rfl, ⟨hn, by omega⟩, .ref a, rfl, a, _, 2, 2, rfl, rfl, f1, rfl, .int (rest1 % n), rfl, ?_⟩
      refine q (.int (rest1 % n)) (g + 1) _ _ (fun b o nb e => by rw [upd_ne nb]; exact kp b o nb e) ⟨c1, cells1, k1, rest1 / n, by rw [upd_same]; rfl, off_in hca1 (by rw [upd_ne nca1]; exact hc1), f3, f4⟩ (.int _) (hR _ (Int.emod_nonneg _ (by omega)) (Int.emod_lt_of_pos _ hn))
/-- the pen is made of a script: a new list of a new list of cells, and two noughts -/
def spOpen (K : PySem.W.Frag) : Sp := fun vs H Q _ => ∃ (a : Addr) (ns : List Int), vs = [.ref a] ∧ SqL K H a (ns.map V.int) ∧ ns.length ≤ 63 ∧
  ∀ p H', H p = none → Sub H H' → Pen K p [] 0 H' → Q (.ref p) H'
theorem set_ints (l : List Int) (n : Nat) (y : Int) : (l.map V.int).set n (V.int y) = (l.set n y).map V.int := (List.map_set ..).symm
theorem cut_take (ns : List Int) : cutV (ns.map V.int) none (some 12) = (ns.take 12).map V.int := by
  simp only [cutV, HT.sIx, List.length_map]
  rw [if_neg (by decide), List.drop_zero, Nat.sub_zero, show Int.toNat 12 = 12 from rfl, ← List.map_take]
  congr 1
  by_cases h : 12 ≤ ns.length
  · rw [Nat.min_eq_left h]
  · rw [Nat.min_eq_right (by omega), List.take_length, List.take_of_length_le (by omega)]
theorem cut_mid (ns : List Int) : cutV (ns.map V.int) (some 12) (some 63) = ((ns.drop 12).take 51).map V.int := by
  simp only [cutV, HT.sIx, List.length_map]
  rw [if_neg (by decide), if_neg (by decide), show Int.toNat 12 = 12 from rfl, show Int.toNat 63 = 63 from rfl, ← List.map_drop, ← List.map_take]
  congr 1
  by_cases h : 63 ≤ ns.length
  · rw [Nat.min_eq_left h, Nat.min_eq_left (by omega)]
  · rw [Nat.min_eq_right (by omega)]
    by_cases h2 : 12 ≤ ns.length
    · rw [Nat.min_eq_left h2, List.take_of_length_le (by rw [List.length_drop]; omega), List.take_of_length_le (by rw [List.length_drop]; omega)]
    · rw [Nat.min_eq_right (by omega), List.drop_eq_nil_of_le (Nat.le_refl _), List.drop_eq_nil_of_le (by omega), List.take_nil, List.take_nil]
theorem ok_open (B : Bi mg) (D : Df K mg "_law_open" s__law_open ["script"]) : ∃ (f : Addr) (fd : FuncData), FnOk P w K mg base CX0 1 f fd ["script"] (spOpen K) ∧ L2.Binds K fd ["script"] [] ∧ mg "_law_open" = some (.ref f) ∧ PySem.W.keepIn K (.ref f) = true := by
  obtain ⟨f, fd, F, b, m⟩ := D.ex
  refine ⟨f, fd, F.ok sc__law_open (fun vs H Q E h => ?_) (fun cdv A outer s H vs Q E hr h => ?_), b, m, F.kp⟩
  · obtain ⟨a, ns, rfl, _⟩ := h
    rfl
  · obtain ⟨a, ns, rfl, ha, hl, q⟩ := h
    refine ⟨_, (pss_cons (ps_set (i := 1) sc__law_open.nd rfl (.inl rfl) (pe_callTy call_list_of (by rfl) B.b_list (by decide +kernel) (pa_cons (pe_slice sl_list (pv 0) po_none (po_some pe_int)) pa_nil)))
      (pss_cons (ps_for PassesOwn.never rfl (pi_enum (by rfl) B.b_enumerate (pa_cons (pe_slice sl_list (pv 0) (po_some pe_int) (po_some pe_int)) pa_nil)) (pg_tup rfl (pgs_cons (pg_name (i := 2) sc__law_open.nd rfl (.inl rfl)) (pgs_cons (pg_name (i := 3) sc__law_open.nd rfl (.inl rfl)) pgs_nil)))
        (pss_one (ps_asg (pe_op op_add (pe_ix ix_list (pv 1) (pe_op op_mod (pe_callTy call_int1 (by rfl) B.b_int boot_int' (pa_cons (pv 2) pa_nil)) pe_int) (fun _ _ => rfl)) (pv 3))
          (pg_sub (pv 1) (pe_op op_mod (pe_callTy call_int1 (by rfl) B.b_int boot_int' (pa_cons (pv 2) pa_nil)) pe_int) set_list))))
      (pss_one (ps_ret (pe_lst (pa_cons (pv 1) (pa_cons pe_int (pa_cons pe_int pa_nil)))))))), ?_⟩
    refine ⟨.ref a, rfl, 12, rfl, a, _, rfl, ha, fun p1 hp1 => ?_⟩
    have s1 := sub_upd (o := .lst (cutV (ns.map V.int) none (some 12))) hp1
    refine ⟨p1, _, rfl, .inl (SqL.of upd_same), fun c hc => ?_⟩
    have Hc : H c = none := by
      cases e : H c with
      | none => rfl
      | some o => rw [s1 c o e] at hc; cases hc
    generalize hH1 : upd (upd H p1 (HO.lst (cutV (ns.map V.int) none (some 12)))) c (HO.lst (cutV (ns.map V.int) none (some 12))) = H1
    have s2 : Sub H H1 := by
      rw [← hH1]
      exact s1.trans (sub_upd hc)
    have hc1 : H1 c = some (.lst ((ns.take 12).map V.int)) := by
      rw [← hH1, upd_same, cut_take]
    clear hH1
    refine ⟨.ref a, rfl, 12, rfl, 63, rfl, a, _, rfl, sql_mono s2 ha, fun e he => ⟨e, _, rfl, SqL.of upd_same, ?_⟩⟩
    rw [cut_mid]
    have he1 : upd H1 e (HO.lst (((ns.drop 12).take 51).map V.int)) e = some (HO.lst (((ns.drop 12).take 51).map V.int)) := upd_same
    have hce : c ≠ e := fun z => by
      rw [z, he] at hc1
      cases hc1
    have hc2 : upd H1 e (HO.lst (((ns.drop 12).take 51).map V.int)) c = some (.lst ((ns.take 12).map V.int)) := by rw [upd_ne hce]; exact hc1
    have s3 : Sub H (upd H1 e (HO.lst (((ns.drop 12).take 51).map V.int))) := s2.trans (sub_upd he)
    generalize upd H1 e (HO.lst (((ns.drop 12).take 51).map V.int)) = H2 at he1 hc2 s3 ⊢
    refine ⟨fun i m σ' H' => ∃ (cells : List Int) (y2 y3 : Option V), cells.length = (ns.take 12).length ∧ σ' = [some (.ref a), some (.ref c), y2, y3] ∧ H' c = some (.lst (cells.map V.int)) ∧
      H' e = some (.lst (((ns.drop 12).take 51).map V.int)) ∧ Sub H H' ∧ m = 51 - i, ⟨51, ns.take 12, none, none, rfl, rfl, hc2, he1, s3, rfl⟩, ?_⟩
    rintro i m σ' H' ⟨cells, y2, y3, hlen, rfl, g1, g2, g3, rfl⟩
    by_cases hi : i < ((ns.drop 12).take 51).length
    · have h12 : cells.length = 12 := by
        rw [List.length_take, List.length_drop] at hi
        rw [hlen, List.length_take]
        omega
      have hi51 : i < 51 := by
        rw [List.length_take] at hi
        omega
      refine .inr ⟨⟨_, .int (((ns.drop 12).take 51)[i]), SqL.of g2, by rw [List.getElem?_map, List.getElem?_eq_getElem hi]; rfl⟩, fun σ2 H3 => ∃ (cells : List Int) (y2 y3 : Option V), cells.length = (ns.take 12).length ∧ σ2 = [some (.ref a), some (.ref c), y2, y3] ∧ H3 c = some (.lst (cells.map V.int)) ∧
        H3 e = some (.lst (((ns.drop 12).take 51).map V.int)) ∧ Sub H H3, fun σ2 H3 ⟨x1, x2, x3, x4, x5, x6, x7, x8⟩ => ⟨51 - (i + 1), by omega, x1, x2, x3, x4, x5, x6, x7, x8, rfl⟩, ?_⟩
      rintro x H3 ⟨T, v, rfl, hT, rfl, hv⟩
      have hv := hv _ (SqL.of g2)
      rw [List.getElem?_map, List.getElem?_eq_getElem hi] at hv
      obtain rfl : V.int (((ns.drop 12).take 51)[i]) = v := Option.some.inj hv
      have s4 : Sub H' (upd H' T (.tup [.int (i : Nat), .int (((ns.drop 12).take 51)[i])])) := sub_upd hT
      have gc := s4 _ _ g1
      have ge := s4 _ _ g2
      have gs := g3.trans s4
      have k0 : 0 ≤ ((i : Nat) : Int) % 12 := Int.emod_nonneg _ (by decide)
      have k1 : ((i : Nat) : Int) % 12 < 12 := Int.emod_lt_of_pos _ (by decide)
      obtain ⟨j, hj⟩ := Int.eq_ofNat_of_zero_le k0
      have hjl : j < cells.length := by omega
      refine ⟨T, _, rfl, .inl (.inl upd_same), rfl, _, _, rfl, _, _, rfl, rfl, ?_⟩
      generalize upd H' T (.tup [.int (i : Nat), .int (((ns.drop 12).take 51)[i])]) = H4 at gc ge gs ⊢
      refine ⟨.ref c, rfl, .int (i : Nat), rfl, .inl ⟨_, rfl, _, _, rfl, rfl, (show (0 : Int) < 12 by decide), c, _, ((i : Nat) : Int) % 12, .int cells[j], rfl, rfl, SqL.of gc, (by rw [hj]; exact atI_nat (by rw [List.getElem?_map, List.getElem?_eq_getElem hjl]; rfl)), ?_⟩⟩
      refine ⟨_, rfl, _, _, rfl, rfl, .ref c, rfl, .int (i : Nat), rfl, .inl ⟨_, rfl, _, _, rfl, rfl, (show (0 : Int) < 12 by decide), c, _, ((i : Nat) : Int) % 12, j, rfl, rfl, gc, ?_, ?_⟩⟩
      · rw [List.length_map, hj]
        unfold ixN
        rw [if_pos (by omega), if_pos (by omega), Int.toNat_natCast]
      · refine ⟨cells.set j (cells[j] + (((ns.drop 12).take 51)[i])), _, _, ?_, rfl, ?_, ?_, ?_⟩
        · rw [List.length_set]
          exact hlen
        · rw [upd_same]
          show some (HO.lst ((cells.map V.int).set j (V.int (cells[j] + ((ns.drop 12).take 51)[i])))) = _
          rw [set_ints]
        · rw [upd_ne (Ne.symm hce)]
          exact ge
        · exact fun b o eb => by
            have hb : b ≠ c := fun z => by
              rw [z, Hc] at eb
              cases eb
            rw [upd_ne hb]
            exact gs b o eb
    · refine .inl ⟨⟨_, SqL.of g2, by rw [List.length_map]; omega⟩, .ref c, rfl, ?_⟩
      refine ⟨by show 3 ≤ sizeLine; decide, fun p hp => q p _ ?_ ?_ ?_⟩
      · cases ep : H p with
        | none => rfl
        | some o => rw [g3 p o ep] at hp; cases hp
      · exact g3.trans (sub_upd hp)
      · refine ⟨c, cells, 0, 0, upd_same, off_in ?_ ?_, ?_, Nat.le_refl _⟩
        · intro z
          obtain rfl : c = p := by simpa using z
          rw [g1] at hp
          cases hp
        · rw [upd_ne (ne_of_none g1 hp)]
          exact g1
        · rw [hlen, List.length_take]
          omega
end
end Law
namespace Law
open PySem PySem.Spec PyProof.Rows L2 Vl
section
variable {P : Program} {w : World} {K : PySem.W.Frag} {mg : Str → Option Value} {base : Heap}
def spPst : VSp := fun as g R => ∃ (n v k : Int) (ps : List (Int × Int)) (j : Bool), as = [.val (caseD n v k ps j)] ∧ CaseOk n v k ps ∧ R (.list (rangeD (-1) v)) g
/-- the pairs (kind, parent) there are -/
def prsOf (n k : Int) : List (Int × Int) := (List.range k.toNat).flatMap fun (a : Nat) => (List.range n.toNat).map fun (b : Nat) => (((a : Nat) : Int), ((b : Nat) : Int))
def cstD (n k : Int) : List PyData := .tuple [] :: (prsOf n k).map prD
theorem prs_len {n k : Int} (h1 : n ≤ 3) (h2 : k ≤ 2) : (prsOf n k).length ≤ 6 := by
  have e1 : n.toNat ≤ 3 := by omega
  have e2 : k.toNat ≤ 2 := by omega
  unfold prsOf
  simp only [List.length_flatMap, List.length_map, List.length_range]
  rw [List.map_const', List.length_range, List.sum_replicate_nat]
  exact Nat.le_trans (Nat.mul_le_mul e2 e1) (by decide)
theorem rangeD_0 (k : Int) : rangeD 0 k = (List.range k.toNat).map fun a => PyData.int ((a : Nat) : Int) := by
  unfold rangeD
  rw [Int.sub_zero]
  exact List.map_congr_left fun a _ => by rw [Int.zero_add]
def spCst : VSp := fun as g R => ∃ (n v k : Int) (ps : List (Int × Int)) (j : Bool), as = [.val (caseD n v k ps j)] ∧ CaseOk n v k ps ∧ R (.list (cstD n k)) g
theorem eqv_ch (s c : Option (Int × Int)) : PyData.eqv (chD s) (chD c) = decide (s = c) := by
  cases s with
  | none =>
    cases c with
    | none => simp only [chD, PyData.eqv, PyData.eqvAll, decide_true]
    | some q => simp only [chD, prD, PyData.eqv, PyData.eqvAll, reduceCtorEq, decide_false]
  | some p =>
    cases c with
    | none => simp only [chD, prD, PyData.eqv, PyData.eqvAll, reduceCtorEq, decide_false]
    | some q =>
      rw [show chD (some p) = prD p from rfl, show chD (some q) = prD q from rfl, eqv_pr]
      obtain ⟨p1, p2⟩ := p
      obtain ⟨q1, q2⟩ := q
      simp only [Option.some.injEq, Prod.mk.injEq, Bool.decide_and]
      rfl
theorem plain_ch : ∀ c : Option (Int × Int), (chD c).plain = true
  | none => by simp only [chD, PyData.plain, PyData.plainAll]
  | some p => plain_pr
theorem depth_ch : ∀ c : Option (Int × Int), (chD c).depth ≤ 1
  | none => by simp [chD, PyData.depth, PyData.depthAll]
  | some p => by show (prD p).depth ≤ 1; rw [depth_pr]; exact Nat.le_refl _
theorem ne_ch {s c : Option (Int × Int)} {R : PyData → Prop} (h : R (.bool (decide (s ≠ c)))) : fNe (chD s) (chD c) R := by
  have := depth_ch s
  refine ⟨⟨plain_ch s, plain_ch c, by omega⟩, ?_⟩
  rw [eqv_ch]
  simpa using h
/-- the child states there are -/
def cstsOf (n k : Int) : List (Option (Int × Int)) := none :: (prsOf n k).map some
theorem cstD_eq (n k : Int) : cstD n k = (cstsOf n k).map chD := by
  unfold cstD cstsOf
  rw [List.map_cons, List.map_map]
  rfl
def chChg (s : Option (Int × Int)) : PyData := .tuple [.str "child", chD s]
def chChgs (n k : Int) (c : Option (Int × Int)) : List PyData := ((cstsOf n k).filter fun s => decide (s ≠ c)).map chChg
def spCch : VSp := fun as g R => ∃ (n v k : Int) (ps : List (Int × Int)) (j : Bool) (xs : List Int) (c : Option (Int × Int)), as = [.val (caseD n v k ps j), .val (srcD xs c)] ∧ CaseOk n v k ps ∧ SrcOk n v k xs c ∧ R (.list (chChgs n k c)) g
theorem enum_eq : ∀ xs : List Int, (List.range (xs.map PyData.int).length).zipWith (fun (k : Nat) d => PyData.tuple [.int (k : Nat), d]) (xs.map PyData.int) = xs.zipIdx.map fun q => PyData.tuple [.int ((q.2 : Nat) : Int), .int q.1] := fun xs => by
  refine List.ext_getElem (by simp) fun i h1 h2 => ?_
  simp
def pcOf (v : Int) (q : Int × Nat) : List PyData := ((List.range (v - -1).toNat).filter fun (i : Nat) => !((-1 + (i : Int)) == q.1)).map fun (i : Nat) => .tuple [.str "parent", .int ((q.2 : Nat) : Int), .int (-1 + (i : Int))]
def pcsOf (v : Int) (xs : List Int) : List PyData := xs.zipIdx.flatMap (pcOf v)
theorem pcs_len {v : Int} (hv : v ≤ 3) : ∀ (l : List (Int × Nat)), (l.flatMap (pcOf v)).length ≤ 4 * l.length
  | [] => by simp
  | q :: l => by
    have h1 := pcs_len hv l
    have h2 : (pcOf v q).length ≤ 4 := by
      unfold pcOf
      rw [List.length_map]
      refine Nat.le_trans (List.length_filter_le _ _) ?_
      rw [List.length_range]
      omega
    rw [List.flatMap_cons, List.length_append, List.length_cons]
    omega
def spPch : VSp := fun as g R => ∃ (n v k : Int) (ps : List (Int × Int)) (j : Bool) (xs : List Int) (c : Option (Int × Int)), as = [.val (caseD n v k ps j), .val (srcD xs c)] ∧ CaseOk n v k ps ∧ SrcOk n v k xs c ∧ R (.list (pcsOf v xs)) g
theorem chs_len {n k : Int} {c : Option (Int × Int)} (h1 : n ≤ 3) (h2 : k ≤ 2) : (chChgs n k c).length ≤ 7 := by
  have := prs_len h1 h2
  unfold chChgs
  rw [List.length_map]
  refine Nat.le_trans (List.length_filter_le _ _) ?_
  unfold cstsOf
  rw [List.length_cons, List.length_map]
  omega
def triedOf (n v k : Int) (j : Bool) (xs : List Int) (c : Option (Int × Int)) : List PyData :=
  (pcsOf v xs ++ chChgs n k c).map (fun d => .tuple [d]) ++ (if j = true then (pcsOf v xs).flatMap fun d => (chChgs n k c).map fun e => .tuple [d, e] else [])
theorem flat_len {α β : Type} {f : α → List β} {m : Nat} : ∀ l : List α, (∀ x ∈ l, (f x).length ≤ m) → (l.flatMap f).length ≤ m * l.length
  | [], _ => by simp
  | x :: l, h => by
    have h1 := h x List.mem_cons_self
    have h2 := flat_len l fun y hy => h y (List.mem_cons_of_mem _ hy)
    rw [List.flatMap_cons, List.length_append, List.length_cons, Nat.mul_succ]
    omega
def spTri : VSp := fun as g R => ∃ (n v k : Int) (ps : List (Int × Int)) (j : Bool) (xs : List Int) (c : Option (Int × Int)), as = [.val (caseD n v k ps j), .val (srcD xs c)] ∧ CaseOk n v k ps ∧ SrcOk n v k xs c ∧ R (.list (triedOf n v k j xs c)) g
theorem ix_par {xs : List Int} {i : Int} {R : PyData → Prop} (h0 : 0 ≤ i) (h1 : i < (xs.length : Int)) (h : R (.int (xs.getD i.toNat 0))) : fIx (.tuple (xs.map .int)) (.int i) R := by
  obtain ⟨j, rfl⟩ := Int.eq_ofNat_of_zero_le h0
  have hj : j < xs.length := by omega
  refine fIxT_at (d := .int (xs.getD j 0)) ?_ h
  rw [List.getElem?_map, List.getElem?_eq_getElem hj, List.getD_eq_getElem?_getD, List.getElem?_eq_getElem hj]
  rfl
/-- the child refers to a parent that is there, or to none -/
def rrB (xs : List Int) (c : Option (Int × Int)) : Bool := match c with
  | none => true
  | some q => !(xs.getD q.2.toNat 0 == -1)
def spRr : VSp := fun as g R => ∃ (xs : List Int) (c : Option (Int × Int)), as = [.val (.tuple (xs.map .int)), .val (chD c)] ∧ (∀ q, c = some q → 0 ≤ q.2 ∧ q.2 < (xs.length : Int)) ∧ R (.bool (rrB xs c)) g
inductive Chg where
  | par (p : Nat) (s : Int)
  | chl (c : Option (Int × Int))
  deriving DecidableEq
def chgD : Chg → PyData
  | .par p s => .tuple [.str "parent", .int ((p : Nat) : Int), .int s]
  | .chl c => chChg c
theorem cut_lo {l : List PyData} {p : Nat} (h : p < l.length) : Vl.cutD l none (some ((p : Nat) : Int)) = l.take p := by
  have e1 : HT.sIx l.length 0 none = 0 := rfl
  have e2 : HT.sIx l.length l.length (some ((p : Nat) : Int)) = p := by
    show (if ((p : Nat) : Int) < 0 then (((p : Nat) : Int) + (l.length : Int)).toNat else min ((p : Nat) : Int).toNat l.length) = p
    rw [if_neg (by omega)]
    omega
  unfold Vl.cutD
  rw [e1, e2, Nat.sub_zero, List.drop_zero]
theorem cut_hi {l : List PyData} {p : Nat} (h : p ≤ l.length) : Vl.cutD l (some ((p : Nat) : Int)) none = l.drop p := by
  have e1 : HT.sIx l.length l.length none = l.length := rfl
  have e2 : HT.sIx l.length 0 (some ((p : Nat) : Int)) = p := by
    show (if ((p : Nat) : Int) < 0 then (((p : Nat) : Int) + (l.length : Int)).toNat else min ((p : Nat) : Int).toNat l.length) = p
    rw [if_neg (by omega)]
    omega
  unfold Vl.cutD
  rw [e1, e2, List.take_of_length_le (by rw [List.length_drop]; exact Nat.le_refl _)]
theorem set_map {l : List Int} {p : Nat} {s : Int} (h : p < l.length) : (l.map PyData.int).take p ++ [PyData.int s] ++ (l.map PyData.int).drop (p + 1) = (l.set p s).map PyData.int := by
  rw [List.set_eq_take_append_cons_drop, if_pos h, List.map_append, List.map_cons, List.map_take, List.map_drop, List.append_assoc]
  rfl
abbrev SrcV := List Int × Option (Int × Int)
def stepC (b : SrcV) : Chg → SrcV
  | .par p s => (b.1.set p s, b.2)
  | .chl c => (b.1, c)
def spAft : VSp := fun as g R => ∃ (xs : List Int) (c : Option (Int × Int)) (cs : List Chg), as = [.val (srcD xs c), .val (.tuple (cs.map chgD))] ∧ xs.length ≤ 3 ∧ (∀ p s, Chg.par p s ∈ cs → p < xs.length) ∧ R (srcD (cs.foldl stepC (xs, c)).1 (cs.foldl stepC (xs, c)).2) g
theorem ok_after_commit (B : Bi mg)  (D : Df K mg "after_commit" s_after_commit ["source", "commit"]) : Ck P w K mg base "after_commit" ["source", "commit"] 1 spAft := by
  refine ck_v D sc_after_commit (fun as g R h => ?_) (fun f cdv A outer s H E hr => (vss_cons (vs_asg (vv 0) (vg_tupn (vgs_cons (vg_n 2 sc_after_commit.nd) (vgs_cons (vg_n 3 sc_after_commit.nd) vgs_nil)))) (vss_cons (vs_for PassesOwn.never rfl (vi_tup (vv 1)) (vg_n 4 sc_after_commit.nd) (vss_one (vs_if (t_eq hr.units (v_ix (vv 4) v_int) v_str) (vss_cons (vs_asg (v_slice (vv 4) (vo_some v_int) vo_none) (vg_tupn (vgs_cons (vg_n 5 sc_after_commit.nd) (vgs_cons (vg_n 6 sc_after_commit.nd) vgs_nil)))) (vss_one (vs_set 2 sc_after_commit.nd (v_add (v_add (v_slice (vv 2) vo_none (vo_some (vv 5))) (v_tup (va_cons (vv 6) va_nil))) (v_slice (vv 2) (vo_some (v_add (vv 5) v_int)) vo_none))))) (vss_one (vs_set 3 sc_after_commit.nd (v_ix (vv 4) v_int)))))) (vss_one (vs_ret (v_tup (va_cons (vv 2) (va_cons (vv 3) va_nil)))))))) (fun as g R h => ?_)
  · obtain ⟨xs, c, cs, rfl, hx, hp, hR⟩ := h
    rfl
  · obtain ⟨xs, c, cs, rfl, hx, hp, hR⟩ := h
    simp only [sSeq, sIf, sSet, sOwn, sRet, sRetN, sNext, sDis, sSetIx, sApp, sAsg, sPar, sPar2O, sPar3, wB, wOp, wVar, wC, wNil, wCons, pNil, pCons, pPen, wTup, lLst, wL, wCall, wChain, Vl.wAnd, Vl.wOr, Vl.wNot, wAndV, wOrV, wNotV, wIf, wNeg, wIsN, wIsa, wFn, wSl, oNo, oPt, lList, wRevL, wIxO, wEqE, gN, gsNil, gsCons, gT, iL, iT, iR1, iR2, iZp, iEn, wYes, wipeV, endV, startV, e_fII, e_addI, e_addT, e_addL, e_intI, e_intB, e_mulT, e_mulL, e_lenL, e_lenT, e_tupL, e_tupT, e_eqI, e_neI, e_eqB, e_neB, e_eqS, e_neS, e_ix0T, e_ix1T, e_ix2T, e_ix3T, e_ix4T, e_ix0L, e_ix1L, e_ix2L, List.length_cons, List.length_nil, List.replicate, List.cons_append, List.nil_append, List.getElem?_cons_zero, List.getElem?_cons_succ, List.set_cons_zero, List.set_cons_succ, Nat.reduceAdd, Nat.reduceSub, List.replicate_succ, List.replicate_zero, true_and, if_true, if_false, Bool.false_eq_true, reduceIte, Int.toNat_natCast, fGt, fLtI, fLe, fGe, wFn, startV_one, isIntStr, isTupList, Bool.not_true, Bool.not_false, k_isInt_none, k_isInt_bool, k_isInt_int, k_isInt_str, k_isInt_list, k_isInt_tuple, k_isInt_dict, k_isBool_none, k_isBool_bool, k_isBool_int, k_isBool_str, k_isBool_list, k_isBool_tuple, k_isBool_dict, k_isTuple_none, k_isTuple_bool, k_isTuple_int, k_isTuple_str, k_isTuple_list, k_isTuple_tuple, k_isTuple_dict, k_isList_none, k_isList_bool, k_isList_int, k_isList_str, k_isList_list, k_isList_tuple, k_isList_dict, k_isStr_none, k_isStr_bool, k_isStr_int, k_isStr_str, k_isStr_list, k_isStr_tuple, k_isStr_dict, lRg1, lRg2, lLc2, iEm, srcD]
    refine lp_fold (enc := chgD) (fun (b : SrcV) ρ => b.1.length = xs.length ∧ ∃ s4 s5 s6, ρ = [Sl.val (srcD xs c), Sl.val (.tuple (cs.map chgD)), Sl.val (.tuple (b.1.map .int)), Sl.val (chD b.2), s4, s5, s6]) stepC cs (xs, c) _ (fun x hxm b ρ N hI hN => ?_) ⟨rfl, _, _, _, rfl⟩ (fun ρ' hI => ?_)
    · obtain ⟨hb, s4, s5, s6, rfl⟩ := hI
      cases x with
      | par p s =>
        have hpl : p < b.1.length := by rw [hb]; exact hp p s hxm
        have hml : (b.1.map PyData.int).length = b.1.length := List.length_map _
        have e3 : ((p : Nat) : Int) + 1 = ((p + 1 : Nat) : Int) := by omega
        simp only [sSeq, sIf, sSet, sOwn, sRet, sRetN, sNext, sDis, sSetIx, sApp, sAsg, sPar, sPar2O, sPar3, wB, wOp, wVar, wC, wNil, wCons, pNil, pCons, pPen, wTup, lLst, wL, wCall, wChain, Vl.wAnd, Vl.wOr, Vl.wNot, wAndV, wOrV, wNotV, wIf, wNeg, wIsN, wIsa, wFn, wSl, oNo, oPt, lList, wRevL, wIxO, wEqE, gN, gsNil, gsCons, gT, iL, iT, iR1, iR2, iZp, iEn, wYes, wipeV, endV, startV, e_fII, e_addI, e_addT, e_addL, e_intI, e_intB, e_mulT, e_mulL, e_lenL, e_lenT, e_tupL, e_tupT, e_eqI, e_neI, e_eqB, e_neB, e_eqS, e_neS, e_ix0T, e_ix1T, e_ix2T, e_ix3T, e_ix4T, e_ix0L, e_ix1L, e_ix2L, List.length_cons, List.length_nil, List.replicate, List.cons_append, List.nil_append, List.getElem?_cons_zero, List.getElem?_cons_succ, List.set_cons_zero, List.set_cons_succ, Nat.reduceAdd, Nat.reduceSub, List.replicate_succ, List.replicate_zero, true_and, if_true, if_false, Bool.false_eq_true, reduceIte, Int.toNat_natCast, fGt, fLtI, fLe, fGe, wFn, startV_one, isIntStr, isTupList, Bool.not_true, Bool.not_false, k_isInt_none, k_isInt_bool, k_isInt_int, k_isInt_str, k_isInt_list, k_isInt_tuple, k_isInt_dict, k_isBool_none, k_isBool_bool, k_isBool_int, k_isBool_str, k_isBool_list, k_isBool_tuple, k_isBool_dict, k_isTuple_none, k_isTuple_bool, k_isTuple_int, k_isTuple_str, k_isTuple_list, k_isTuple_tuple, k_isTuple_dict, k_isList_none, k_isList_bool, k_isList_int, k_isList_str, k_isList_list, k_isList_tuple, k_isList_dict, k_isStr_none, k_isStr_bool, k_isStr_int, k_isStr_str, k_isStr_list, k_isStr_tuple, k_isStr_dict, lRg1, lRg2, lLc2, iEm, chgD, beq_self_eq_true]
        rw [show Vl.cutD [PyData.str (Str.ofString "parent"), PyData.int ((p : Nat) : Int), PyData.int s] (some 1) none = [PyData.int ((p : Nat) : Int), PyData.int s] from rfl]
        simp only [sSeq, sIf, sSet, sOwn, sRet, sRetN, sNext, sDis, sSetIx, sApp, sAsg, sPar, sPar2O, sPar3, wB, wOp, wVar, wC, wNil, wCons, pNil, pCons, pPen, wTup, lLst, wL, wCall, wChain, Vl.wAnd, Vl.wOr, Vl.wNot, wAndV, wOrV, wNotV, wIf, wNeg, wIsN, wIsa, wFn, wSl, oNo, oPt, lList, wRevL, wIxO, wEqE, gN, gsNil, gsCons, gT, iL, iT, iR1, iR2, iZp, iEn, wYes, wipeV, endV, startV, e_fII, e_addI, e_addT, e_addL, e_intI, e_intB, e_mulT, e_mulL, e_lenL, e_lenT, e_tupL, e_tupT, e_eqI, e_neI, e_eqB, e_neB, e_eqS, e_neS, e_ix0T, e_ix1T, e_ix2T, e_ix3T, e_ix4T, e_ix0L, e_ix1L, e_ix2L, List.length_cons, List.length_nil, List.replicate, List.cons_append, List.nil_append, List.getElem?_cons_zero, List.getElem?_cons_succ, List.set_cons_zero, List.set_cons_succ, Nat.reduceAdd, Nat.reduceSub, List.replicate_succ, List.replicate_zero, true_and, if_true, if_false, Bool.false_eq_true, reduceIte, Int.toNat_natCast, fGt, fLtI, fLe, fGe, wFn, startV_one, isIntStr, isTupList, Bool.not_true, Bool.not_false, k_isInt_none, k_isInt_bool, k_isInt_int, k_isInt_str, k_isInt_list, k_isInt_tuple, k_isInt_dict, k_isBool_none, k_isBool_bool, k_isBool_int, k_isBool_str, k_isBool_list, k_isBool_tuple, k_isBool_dict, k_isTuple_none, k_isTuple_bool, k_isTuple_int, k_isTuple_str, k_isTuple_list, k_isTuple_tuple, k_isTuple_dict, k_isList_none, k_isList_bool, k_isList_int, k_isList_str, k_isList_list, k_isList_tuple, k_isList_dict, k_isStr_none, k_isStr_bool, k_isStr_int, k_isStr_str, k_isStr_list, k_isStr_tuple, k_isStr_dict, lRg1, lRg2, lLc2, iEm, e3]
        rw [cut_lo (by rw [hml]; exact hpl), cut_hi (by rw [hml]; exact hpl), set_map hpl]
        refine ⟨by decide, ?_, ?_, ?_⟩
        · rw [List.length_take, hml]
          show _ ≤ 16777216
          omega
        · rw [List.length_append, List.length_take, List.length_drop, hml, List.length_cons, List.length_nil]
          show _ ≤ 16777216
          omega
        · exact hN _ ⟨by show (b.1.set p s).length = _; rw [List.length_set]; exact hb, _, _, _, rfl⟩
      | chl c' =>
        simp only [sSeq, sIf, sSet, sOwn, sRet, sRetN, sNext, sDis, sSetIx, sApp, sAsg, sPar, sPar2O, sPar3, wB, wOp, wVar, wC, wNil, wCons, pNil, pCons, pPen, wTup, lLst, wL, wCall, wChain, Vl.wAnd, Vl.wOr, Vl.wNot, wAndV, wOrV, wNotV, wIf, wNeg, wIsN, wIsa, wFn, wSl, oNo, oPt, lList, wRevL, wIxO, wEqE, gN, gsNil, gsCons, gT, iL, iT, iR1, iR2, iZp, iEn, wYes, wipeV, endV, startV, e_fII, e_addI, e_addT, e_addL, e_intI, e_intB, e_mulT, e_mulL, e_lenL, e_lenT, e_tupL, e_tupT, e_eqI, e_neI, e_eqB, e_neB, e_eqS, e_neS, e_ix0T, e_ix1T, e_ix2T, e_ix3T, e_ix4T, e_ix0L, e_ix1L, e_ix2L, List.length_cons, List.length_nil, List.replicate, List.cons_append, List.nil_append, List.getElem?_cons_zero, List.getElem?_cons_succ, List.set_cons_zero, List.set_cons_succ, Nat.reduceAdd, Nat.reduceSub, List.replicate_succ, List.replicate_zero, true_and, if_true, if_false, Bool.false_eq_true, reduceIte, Int.toNat_natCast, fGt, fLtI, fLe, fGe, wFn, startV_one, isIntStr, isTupList, Bool.not_true, Bool.not_false, k_isInt_none, k_isInt_bool, k_isInt_int, k_isInt_str, k_isInt_list, k_isInt_tuple, k_isInt_dict, k_isBool_none, k_isBool_bool, k_isBool_int, k_isBool_str, k_isBool_list, k_isBool_tuple, k_isBool_dict, k_isTuple_none, k_isTuple_bool, k_isTuple_int, k_isTuple_str, k_isTuple_list, k_isTuple_tuple, k_isTuple_dict, k_isList_none, k_isList_bool, k_isList_int, k_isList_str, k_isList_list, k_isList_tuple, k_isList_dict, k_isStr_none, k_isStr_bool, k_isStr_int, k_isStr_str, k_isStr_list, k_isStr_tuple, k_isStr_dict, lRg1, lRg2, lLc2, iEm, chgD, chChg]
        rw [show (Str.ofString "child" == Str.ofString "parent") = false by decide]
        exact hN _ ⟨hb, _, _, _, rfl⟩
    · obtain ⟨hb, s4, s5, s6, rfl⟩ := hI
      simp only [sSeq, sIf, sSet, sOwn, sRet, sRetN, sNext, sDis, sSetIx, sApp, sAsg, sPar, sPar2O, sPar3, wB, wOp, wVar, wC, wNil, wCons, pNil, pCons, pPen, wTup, lLst, wL, wCall, wChain, Vl.wAnd, Vl.wOr, Vl.wNot, wAndV, wOrV, wNotV, wIf, wNeg, wIsN, wIsa, wFn, wSl, oNo, oPt, lList, wRevL, wIxO, wEqE, gN, gsNil, gsCons, gT, iL, iT, iR1, iR2, iZp, iEn, wYes, wipeV, endV, startV, e_fII, e_addI, e_addT, e_addL, e_intI, e_intB, e_mulT, e_mulL, e_lenL, e_lenT, e_tupL, e_tupT, e_eqI, e_neI, e_eqB, e_neB, e_eqS, e_neS, e_ix0T, e_ix1T, e_ix2T, e_ix3T, e_ix4T, e_ix0L, e_ix1L, e_ix2L, List.length_cons, List.length_nil, List.replicate, List.cons_append, List.nil_append, List.getElem?_cons_zero, List.getElem?_cons_succ, List.set_cons_zero, List.set_cons_succ, Nat.reduceAdd, Nat.reduceSub, List.replicate_succ, List.replicate_zero, true_and, if_true, if_false, Bool.false_eq_true, reduceIte, Int.toNat_natCast, fGt, fLtI, fLe, fGe, wFn, startV_one, isIntStr, isTupList, Bool.not_true, Bool.not_false, k_isInt_none, k_isInt_bool, k_isInt_int, k_isInt_str, k_isInt_list, k_isInt_tuple, k_isInt_dict, k_isBool_none, k_isBool_bool, k_isBool_int, k_isBool_str, k_isBool_list, k_isBool_tuple, k_isBool_dict, k_isTuple_none, k_isTuple_bool, k_isTuple_int, k_isTuple_str, k_isTuple_list, k_isTuple_tuple, k_isTuple_dict, k_isList_none, k_isList_bool, k_isList_int, k_isList_str, k_isList_list, k_isList_tuple, k_isList_dict, k_isStr_none, k_isStr_bool, k_isStr_int, k_isStr_str, k_isStr_list, k_isStr_tuple, k_isStr_dict, lRg1, lRg2, lLc2, iEm]
      exact ⟨by decide, g, Nat.le_refl _, hR⟩

def comD (f : List Chg) : PyData := .tuple (f.map chgD)
def pcC (v : Int) (q : Int × Nat) : List Chg := ((List.range (v - -1).toNat).filter fun (i : Nat) => !((-1 + (i : Int)) == q.1)).map fun (i : Nat) => .par q.2 (-1 + (i : Int))
def pcsC (v : Int) (xs : List Int) : List Chg := xs.zipIdx.flatMap (pcC v)
theorem pcs_map (v : Int) (xs : List Int) : pcsOf v xs = (pcsC v xs).map chgD := by
  unfold pcsOf pcsC
  rw [List.map_flatMap]
  congr 1
  funext q
  unfold pcOf pcC
  rw [List.map_map]
  rfl
def chC (n k : Int) (c : Option (Int × Int)) : List Chg := ((cstsOf n k).filter fun s => decide (s ≠ c)).map .chl
theorem ch_map (n k : Int) (c : Option (Int × Int)) : chChgs n k c = (chC n k c).map chgD := by
  unfold chChgs chC
  rw [List.map_map]
  rfl
def joinC (j : Bool) (one two : List Chg) : List (List Chg) := (one ++ two).map (fun d => [d]) ++ (if j = true then one.flatMap fun d => two.map fun e => [d, e] else [])
theorem join_map (j : Bool) (one two : List Chg) : ((one.map chgD ++ two.map chgD).map (fun d => PyData.tuple [d]) ++ (if j = true then (one.map chgD).flatMap fun d => (two.map chgD).map fun e => PyData.tuple [d, e] else [])) = (joinC j one two).map comD := by
  unfold joinC
  have e1 : ((one.map chgD ++ two.map chgD).map fun d => PyData.tuple [d]) = ((one ++ two).map fun d => [d]).map comD := by
    rw [← List.map_append, List.map_map, List.map_map]
    rfl
  refine Eq.trans ?_ List.map_append.symm
  rw [e1]
  refine congrArg (_ ++ ·) ?_
  cases j with
  | false => rfl
  | true =>
    rw [if_pos rfl, if_pos rfl, List.map_flatMap, List.flatMap_map]
    congr 1
    funext d
    rw [List.map_map, List.map_map]
    rfl
theorem tried_map (n v k : Int) (j : Bool) (xs : List Int) (c : Option (Int × Int)) : triedOf n v k j xs c = (joinC j (pcsC v xs) (chC n k c)).map comD := by
  unfold triedOf
  rw [pcs_map, ch_map, join_map]
/-- a change within the case -/
def ChgIn (n v k : Int) : Chg → Prop
  | .par p s => ((p : Nat) : Int) < n ∧ -1 ≤ s ∧ s < v
  | .chl c => ∀ q, c = some q → (0 ≤ q.1 ∧ q.1 < k) ∧ 0 ≤ q.2 ∧ q.2 < n
theorem pcs_in {n v : Int} {xs : List Int} (k : Int) (hl : (xs.length : Int) = n) : ∀ y ∈ pcsC v xs, ChgIn n v k y ∧ ∃ p s, y = .par p s := fun y hy => by
  obtain ⟨q, hq, hy⟩ := List.mem_flatMap.mp hy
  obtain ⟨i, hi, rfl⟩ := List.mem_map.mp hy
  have h1 := List.mem_range.mp (List.mem_filter.mp hi).1
  have h2 := List.snd_lt_of_mem_zipIdx hq
  refine ⟨⟨?_, ?_, ?_⟩, _, _, rfl⟩
  · omega
  · omega
  · omega
theorem prs_in {n k : Int} : ∀ q ∈ prsOf n k, (0 ≤ q.1 ∧ q.1 < k) ∧ 0 ≤ q.2 ∧ q.2 < n := fun q hq => by
  obtain ⟨a, ha, hq⟩ := List.mem_flatMap.mp hq
  obtain ⟨b, hb, rfl⟩ := List.mem_map.mp hq
  have h1 := List.mem_range.mp ha
  have h2 := List.mem_range.mp hb
  show (0 ≤ ((a : Nat) : Int) ∧ ((a : Nat) : Int) < k) ∧ 0 ≤ ((b : Nat) : Int) ∧ ((b : Nat) : Int) < n
  omega
theorem ch_in {n k : Int} (v : Int) {c : Option (Int × Int)} : ∀ y ∈ chC n k c, ChgIn n v k y ∧ ∃ s, y = .chl s := fun y hy => by
  obtain ⟨s, hs, rfl⟩ := List.mem_map.mp hy
  refine ⟨fun q hq => ?_, _, rfl⟩
  subst hq
  have h := (List.mem_filter.mp hs).1
  unfold cstsOf at h
  rcases List.mem_cons.mp h with h | h
  · cases h
  · obtain ⟨q2, h2, e⟩ := List.mem_map.mp h
    cases e
    exact prs_in q h2
/-- what is asked of a commit -/
def ComOk (n v k : Int) (f : List Chg) : Prop := (∃ a, f = [a] ∧ ChgIn n v k a) ∨ ∃ a b, f = [a, b] ∧ ChgIn n v k a ∧ ChgIn n v k b
theorem ComOk.mem {n v k : Int} {f : List Chg} (h : ComOk n v k f) : ∀ y ∈ f, ChgIn n v k y := fun y hy => by
  rcases h with ⟨a, rfl, ha⟩ | ⟨a, b, rfl, ha, hb⟩
  · rw [List.mem_singleton.mp hy]; exact ha
  · rcases List.mem_cons.mp hy with rfl | hy
    · exact ha
    · rw [List.mem_singleton.mp hy]; exact hb
theorem join_ok {n v k : Int} {j : Bool} {one two : List Chg} (h1 : ∀ y ∈ one, ChgIn n v k y) (h2 : ∀ y ∈ two, ChgIn n v k y) : ∀ f ∈ joinC j one two, ComOk n v k f := fun f hf => by
  unfold joinC at hf
  rcases List.mem_append.mp hf with hf | hf
  · obtain ⟨y, hy, rfl⟩ := List.mem_map.mp hf
    exact .inl ⟨y, rfl, (List.mem_append.mp hy).elim (h1 y) (h2 y)⟩
  · cases j with
    | false => exact (nomatch hf)
    | true =>
      rw [if_pos rfl] at hf
      obtain ⟨a, ha, hf⟩ := List.mem_flatMap.mp hf
      obtain ⟨b, hb, rfl⟩ := List.mem_map.mp hf
      exact .inr ⟨a, b, rfl, h1 a ha, h2 b hb⟩
/-! the number of a commit -/
def nC : Chg → Int
  | .chl none => 4096
  | .chl (some q) => 4096 + (q.1 + 1) * 64 + (q.2 + 1)
  | .par p s => 8192 + (((p : Nat) : Int) + 1) * 64 + (s + 2)
def nCom : List Chg → Int
  | [a] => nC a * 262144
  | [a, b] => nC a * 262144 + nC b
  | _ => 0
def chgN : PyData → Int
  | .tuple [_, .tuple []] => 4096
  | .tuple [_, .tuple [.int a, .int b]] => 4096 + (a + 1) * 64 + (b + 1)
  | .tuple [_, .int a, .int b] => 8192 + (a + 1) * 64 + (b + 2)
  | _ => 0
def comN : PyData → Int
  | .tuple [a] => chgN a * 262144
  | .tuple [a, b] => chgN a * 262144 + chgN b
  | _ => 0
theorem chgN_eq : ∀ y : Chg, chgN (chgD y) = nC y
  | .chl none => rfl
  | .chl (some _) => rfl
  | .par _ _ => rfl
theorem comN_eq {n v k : Int} {f : List Chg} (h : ComOk n v k f) : comN (comD f) = nCom f := by
  rcases h with ⟨a, rfl, _⟩ | ⟨a, b, rfl, _⟩
  · show chgN (chgD a) * 262144 = _
    rw [chgN_eq]; rfl
  · show chgN (chgD a) * 262144 + chgN (chgD b) = _
    rw [chgN_eq, chgN_eq]; rfl
theorem nC_pos {n v k : Int} (hn : n ≤ 3) (hv : v ≤ 3) (hk : k ≤ 2) : ∀ {y : Chg}, ChgIn n v k y → 4096 ≤ nC y ∧ nC y < 16384
  | .chl none, _ => by show (4096 : Int) ≤ 4096 ∧ (4096 : Int) < 16384; omega
  | .chl (some q), h => by
    have := h q rfl
    show 4096 ≤ 4096 + (q.1 + 1) * 64 + (q.2 + 1) ∧ 4096 + (q.1 + 1) * 64 + (q.2 + 1) < 16384
    omega
  | .par p s, h => by
    obtain ⟨h1, h2, h3⟩ := h
    show 4096 ≤ 8192 + (((p : Nat) : Int) + 1) * 64 + (s + 2) ∧ 8192 + (((p : Nat) : Int) + 1) * 64 + (s + 2) < 16384
    omega
theorem nC_inj {n v k : Int} (hn : n ≤ 3) (hv : v ≤ 3) (hk : k ≤ 2) : ∀ {y z : Chg}, ChgIn n v k y → ChgIn n v k z → nC y = nC z → y = z
  | .chl none, .chl none, _, _, _ => rfl
  | .chl none, .chl (some q), _, h, e => by
    have := h q rfl
    have e : (4096 : Int) = 4096 + (q.1 + 1) * 64 + (q.2 + 1) := e
    omega
  | .chl (some q), .chl none, h, _, e => by
    have := h q rfl
    have e : 4096 + (q.1 + 1) * 64 + (q.2 + 1) = (4096 : Int) := e
    omega
  | .chl (some (a, b)), .chl (some (c, d)), h, h', e => by
    have h1 := h (a, b) rfl
    have h2 := h' (c, d) rfl
    have e : 4096 + (a + 1) * 64 + (b + 1) = 4096 + (c + 1) * 64 + (d + 1) := e
    simp only at h1 h2
    obtain rfl : a = c := by omega
    obtain rfl : b = d := by omega
    rfl
  | .chl none, .par p s, _, ⟨h1, h2, h3⟩, e => by
    have e : (4096 : Int) = 8192 + (((p : Nat) : Int) + 1) * 64 + (s + 2) := e
    omega
  | .chl (some q), .par p s, h, ⟨h1, h2, h3⟩, e => by
    have := h q rfl
    have e : 4096 + (q.1 + 1) * 64 + (q.2 + 1) = 8192 + (((p : Nat) : Int) + 1) * 64 + (s + 2) := e
    omega
  | .par p s, .chl none, ⟨h1, h2, h3⟩, _, e => by
    have e : 8192 + (((p : Nat) : Int) + 1) * 64 + (s + 2) = (4096 : Int) := e
    omega
  | .par p s, .chl (some q), ⟨h1, h2, h3⟩, h, e => by
    have := h q rfl
    have e : 8192 + (((p : Nat) : Int) + 1) * 64 + (s + 2) = 4096 + (q.1 + 1) * 64 + (q.2 + 1) := e
    omega
  | .par p s, .par p' s', ⟨h1, h2, h3⟩, ⟨k1, k2, k3⟩, e => by
    have e : 8192 + (((p : Nat) : Int) + 1) * 64 + (s + 2) = 8192 + (((p' : Nat) : Int) + 1) * 64 + (s' + 2) := e
    obtain rfl : p = p' := by omega
    obtain rfl : s = s' := by omega
    rfl
theorem nCom_inj {n v k : Int} (hn : n ≤ 3) (hv : v ≤ 3) (hk : k ≤ 2) {f h : List Chg} (hf : ComOk n v k f) (hh : ComOk n v k h) (e : nCom f = nCom h) : f = h := by
  rcases hf with ⟨a, rfl, ha⟩ | ⟨a, b, rfl, ha, hb⟩ <;> rcases hh with ⟨c, rfl, hc⟩ | ⟨c, d, rfl, hc, hd⟩
  · have e : nC a * 262144 = nC c * 262144 := e
    rw [nC_inj hn hv hk ha hc (by omega)]
  · have e : nC a * 262144 = nC c * 262144 + nC d := e
    have := nC_pos hn hv hk hd
    omega
  · have e : nC a * 262144 + nC b = nC c * 262144 := e
    have := nC_pos hn hv hk hb
    omega
  · have e : nC a * 262144 + nC b = nC c * 262144 + nC d := e
    have := nC_pos hn hv hk hb
    have := nC_pos hn hv hk hd
    rw [nC_inj hn hv hk ha hc (by omega), nC_inj hn hv hk hb hd (by omega)]
/-! how Python orders changes and commits -/
theorem _root_.Vl.CmpR.is {m : Nat} {x y : PyData} {a b : Bool} (h : CmpR m x y a) (e : a = b) : CmpR m x y b := e ▸ h
theorem _root_.Vl.CmpS.is {m : Nat} {x y : List PyData} {a b : Bool} (h : CmpS m x y a) (e : a = b) : CmpS m x y b := e ▸ h
theorem plain_chg : ∀ y : Chg, (chgD y).plain = true
  | .par _ _ => by simp only [chgD, PyData.plain, PyData.plainAll, Bool.and_self]
  | .chl c => by simp only [chgD, chChg, PyData.plain, PyData.plainAll, plain_ch, Bool.and_self]
theorem depth_chg : ∀ y : Chg, (chgD y).depth ≤ 2
  | .par _ _ => by simp [chgD, PyData.depth, PyData.depthAll]
  | .chl c => by
    have := depth_ch c
    simp only [chgD, chChg, PyData.depth, PyData.depthAll]
    omega
theorem cs_str {m : Nat} {x y : Str} {xs ys : List PyData} {b : Bool} (hm : x ≠ y) (hb : decide (x.cps.toList < y.cps.toList) = b) : CmpS m (.str x :: xs) (.str y :: ys) b :=
  .diff rfl rfl (by simp [PyData.depth]) (by simp only [PyData.eqv]; exact beq_eq_false_iff_ne.mpr hm) ((CmpR.str m x y).is hb)
theorem cs_same {m : Nat} {x : Str} {xs ys : List PyData} {b : Bool} (h : CmpS m xs ys b) : CmpS m (.str x :: xs) (.str x :: ys) b :=
  .same rfl rfl (by simp [PyData.depth]) (by simp only [PyData.eqv]; exact beq_self_eq_true x) h
theorem cs_int {m : Nat} {i j : Int} {xs ys : List PyData} {b : Bool} (h : i = j → CmpS m xs ys b) (hb : i ≠ j → decide (i < j) = b) : CmpS m (.int i :: xs) (.int j :: ys) b := by
  by_cases e : i = j
  · subst e
    exact .same rfl rfl (by simp [PyData.depth]) (by simp only [PyData.eqv]; exact beq_self_eq_true i) (h rfl)
  · exact .diff rfl rfl (by simp [PyData.depth]) (by simp only [PyData.eqv]; exact beq_eq_false_iff_ne.mpr e) ((CmpR.int m i j).is (hb e))
theorem cs_nil {m : Nat} {b : Bool} (h : false = b) : CmpS m [] [] b := (CmpS.nilL m []).is h
theorem s_cp : (Str.ofString "child") ≠ (Str.ofString "parent") := by decide
theorem s_cp2 : decide ((Str.ofString "child").cps.toList < (Str.ofString "parent").cps.toList) = true := by decide
theorem s_pc2 : decide ((Str.ofString "parent").cps.toList < (Str.ofString "child").cps.toList) = false := by decide
theorem cmp_chg {n v k : Int} (hn : n ≤ 3) (hv : v ≤ 3) (hk : k ≤ 2) : ∀ {y z : Chg}, ChgIn n v k y → ChgIn n v k z → CmpR 3 (chgD y) (chgD z) (decide (nC y < nC z))
  | .chl none, .chl none, _, _ => .tup (cs_same (.same rfl rfl (by have := depth_ch (none : Option (Int × Int)); omega) (by simp only [chD, PyData.eqv, PyData.eqvAll]) (cs_nil (by simp))))
  | .chl none, .chl (some q), _, h => .tup (cs_same (.diff rfl plain_pr (by have := depth_ch (none : Option (Int × Int)); omega) (by simp only [chD, prD, PyData.eqv, PyData.eqvAll]) (.tup ((CmpS.nilL 1 [.int q.1, .int q.2]).is (by
      have := h q rfl
      symm
      show decide (4096 < 4096 + (q.1 + 1) * 64 + (q.2 + 1)) = true
      exact decide_eq_true (by omega))))))
  | .chl (some q), .chl none, h, _ => .tup (cs_same (.diff plain_pr rfl (by have := depth_ch (none : Option (Int × Int)); omega) (by simp only [chD, prD, PyData.eqv, PyData.eqvAll]) (.tup ((CmpS.nilR 1 (.int q.1) [.int q.2]).is (by
      have := h q rfl
      symm
      show decide (4096 + (q.1 + 1) * 64 + (q.2 + 1) < 4096) = false
      exact decide_eq_false (by omega))))))
  | .chl (some (a, b)), .chl (some (c, d)), h, h' => by
    have h1 := h (a, b) rfl
    have h2 := h' (c, d) rfl
    simp only at h1 h2
    have hd := depth_ch (some (a, b))
    refine .tup (cs_same ?_)
    show CmpS 2 (chD (some (a, b)) :: []) (chD (some (c, d)) :: []) (decide (4096 + (a + 1) * 64 + (b + 1) < 4096 + (c + 1) * 64 + (d + 1)))
    by_cases e : a = c ∧ b = d
    · obtain ⟨rfl, rfl⟩ := e
      exact .same (plain_ch _) (plain_ch _) (by omega) (by rw [eqv_ch]; simp) (cs_nil (by simp))
    · refine .diff (plain_ch _) (plain_ch _) (by omega) (by rw [eqv_ch]; simp only [Option.some.injEq, Prod.mk.injEq, e, decide_false]) (.tup (cs_int (fun e1 => cs_int (fun e2 => (e ⟨e1, e2⟩).elim) (fun _ => ?_)) (fun _ => ?_)))
      · exact decide_eq_decide.mpr (by omega)
      · exact decide_eq_decide.mpr (by omega)
  | .chl none, .par p s, _, ⟨h1, h2, h3⟩ => .tup (cs_str s_cp (s_cp2.trans (by
      symm
      show decide (4096 < 8192 + (((p : Nat) : Int) + 1) * 64 + (s + 2)) = true
      exact decide_eq_true (by omega))))
  | .chl (some q), .par p s, h, ⟨h1, h2, h3⟩ => .tup (cs_str s_cp (s_cp2.trans (by
      have := h q rfl
      symm
      show decide (4096 + (q.1 + 1) * 64 + (q.2 + 1) < 8192 + (((p : Nat) : Int) + 1) * 64 + (s + 2)) = true
      exact decide_eq_true (by omega))))
  | .par p s, .chl none, ⟨h1, h2, h3⟩, _ => .tup (cs_str (Ne.symm s_cp) (s_pc2.trans (by
      symm
      show decide (8192 + (((p : Nat) : Int) + 1) * 64 + (s + 2) < 4096) = false
      exact decide_eq_false (by omega))))
  | .par p s, .chl (some q), ⟨h1, h2, h3⟩, h => .tup (cs_str (Ne.symm s_cp) (s_pc2.trans (by
      have := h q rfl
      symm
      show decide (8192 + (((p : Nat) : Int) + 1) * 64 + (s + 2) < 4096 + (q.1 + 1) * 64 + (q.2 + 1)) = false
      exact decide_eq_false (by omega))))
  | .par p s, .par p' s', ⟨h1, h2, h3⟩, ⟨k1, k2, k3⟩ => .tup (cs_same (cs_int (fun e1 => cs_int (fun e2 => cs_nil (by
      have : nC (.par p s) = nC (.par p' s') := by
        show 8192 + (((p : Nat) : Int) + 1) * 64 + (s + 2) = 8192 + (((p' : Nat) : Int) + 1) * 64 + (s' + 2)
        omega
      rw [this]
      simp)) (fun e => by
      show _ = decide (8192 + (((p : Nat) : Int) + 1) * 64 + (s + 2) < 8192 + (((p' : Nat) : Int) + 1) * 64 + (s' + 2))
      exact decide_eq_decide.mpr (by omega))) (fun e => by
      show _ = decide (8192 + (((p : Nat) : Int) + 1) * 64 + (s + 2) < 8192 + (((p' : Nat) : Int) + 1) * 64 + (s' + 2))
      exact decide_eq_decide.mpr (by omega))))
theorem eqv_chg : ∀ y z : Chg, PyData.eqv (chgD y) (chgD z) = decide (y = z)
  | .chl c, .chl d => by
    simp only [chgD, chChg, PyData.eqv, PyData.eqvAll, eqv_ch, beq_self_eq_true, Bool.true_and, Bool.and_true, Chg.chl.injEq]
  | .par p s, .par q t => by
    simp only [chgD, PyData.eqv, PyData.eqvAll, beq_self_eq_true, Bool.true_and, Bool.and_true, Chg.par.injEq, Bool.decide_and]
    congr 1
    rw [Bool.eq_iff_iff]
    simp only [beq_iff_eq, decide_eq_true_eq]
    omega
  | .chl c, .par q t => by
    simp only [chgD, chChg, PyData.eqv, PyData.eqvAll, show (Str.ofString "child" == Str.ofString "parent") = false from by decide, Bool.false_and, reduceCtorEq, decide_false]
  | .par q t, .chl c => by
    simp only [chgD, chChg, PyData.eqv, PyData.eqvAll, show (Str.ofString "parent" == Str.ofString "child") = false from by decide, Bool.false_and, reduceCtorEq, decide_false]
theorem cs_chg {n v k : Int} (hn : n ≤ 3) (hv : v ≤ 3) (hk : k ≤ 2) {y z : Chg} (hy : ChgIn n v k y) (hz : ChgIn n v k z) {xs ys : List PyData} {b : Bool} (h : y = z → CmpS 3 xs ys b) (hb : nC y ≠ nC z → decide (nC y < nC z) = b) : CmpS 3 (chgD y :: xs) (chgD z :: ys) b := by
  have hd := depth_chg y
  by_cases e : y = z
  · exact .same (plain_chg _) (plain_chg _) (by omega) (by rw [eqv_chg, e]; simp) (h e)
  · exact .diff (plain_chg _) (plain_chg _) (by omega) (by rw [eqv_chg]; exact decide_eq_false e) ((cmp_chg hn hv hk hy hz).is (hb fun e2 => e (nC_inj hn hv hk hy hz e2)))
theorem cmp_com {n v k : Int} (hn : n ≤ 3) (hv : v ≤ 3) (hk : k ≤ 2) {f h : List Chg} (hf : ComOk n v k f) (hh : ComOk n v k h) : CmpR 4 (comD f) (comD h) (decide (nCom f < nCom h)) := by
  refine .tup ?_
  rcases hf with ⟨a, rfl, ha⟩ | ⟨a, b, rfl, ha, hb⟩ <;> rcases hh with ⟨c, rfl, hc⟩ | ⟨c, d, rfl, hc, hd⟩
  · refine cs_chg hn hv hk ha hc (fun e => cs_nil ?_) (fun e => ?_)
    · subst e; simp
    · show _ = decide (nC a * 262144 < nC c * 262144)
      exact decide_eq_decide.mpr (by omega)
  · have p := nC_pos hn hv hk hd
    refine cs_chg hn hv hk ha hc (fun e => (CmpS.nilL 3 [chgD d]).is ?_) (fun e => ?_)
    · subst e
      symm
      show decide (nC a * 262144 < nC a * 262144 + nC d) = true
      exact decide_eq_true (by omega)
    · show _ = decide (nC a * 262144 < nC c * 262144 + nC d)
      exact decide_eq_decide.mpr (by omega)
  · have p := nC_pos hn hv hk hb
    refine cs_chg hn hv hk ha hc (fun e => (CmpS.nilR 3 (chgD b) []).is ?_) (fun e => ?_)
    · subst e
      symm
      show decide (nC a * 262144 + nC b < nC a * 262144) = false
      exact decide_eq_false (by omega)
    · show _ = decide (nC a * 262144 + nC b < nC c * 262144)
      exact decide_eq_decide.mpr (by omega)
  · have p := nC_pos hn hv hk hb
    have p2 := nC_pos hn hv hk hd
    refine cs_chg hn hv hk ha hc (fun e => cs_chg hn hv hk hb hd (fun e2 => cs_nil ?_) (fun e2 => ?_)) (fun e => ?_)
    · subst e; subst e2; simp
    · subst e
      show _ = decide (nC a * 262144 + nC b < nC a * 262144 + nC d)
      exact decide_eq_decide.mpr (by omega)
    · show _ = decide (nC a * 262144 + nC b < nC c * 262144 + nC d)
      exact decide_eq_decide.mpr (by omega)
theorem ord_com {n v k : Int} (hn : n ≤ 3) (hv : v ≤ 3) (hk : k ≤ 2) {fs : List (List Chg)} (h : ∀ f ∈ fs, ComOk n v k f) : OrdC comN (fs.map comD) where
  nx := fun d hd => by
    obtain ⟨f, _, rfl⟩ := List.mem_map.mp hd
    simp only [comD, noX]
    exact noXs_all fun x hx => by
      obtain ⟨y, _, rfl⟩ := List.mem_map.mp hx
      exact noX_plain _ (plain_chg y)
  hd := fun d hd => by
    obtain ⟨f, hf, rfl⟩ := List.mem_map.mp hd
    rcases h f hf with ⟨a, rfl, _⟩ | ⟨a, b, rfl, _⟩ <;> cases a <;> exact ⟨_, _, rfl⟩
  cmp := fun d hd e he => by
    obtain ⟨f, hf, rfl⟩ := List.mem_map.mp hd
    obtain ⟨f', hf', rfl⟩ := List.mem_map.mp he
    rw [comN_eq (h f hf), comN_eq (h f' hf')]
    exact cmp_com hn hv hk (h f hf) (h f' hf')
/-! the one list of commits -/
theorem srt_one {α : Type} {c : α → Int} : ∀ {l1 l2 : List α}, l1.Perm l2 → (∀ a ∈ l1, ∀ b ∈ l1, c a = c b → a = b) → l1.Pairwise (fun a b => c a ≤ c b) → l2.Pairwise (fun a b => c a ≤ c b) → l1 = l2
  | [], l2, p, _, _, _ => p.nil_eq
  | a :: l1, [], p, _, _, _ => absurd p.length_eq (by simp)
  | a :: l1, b :: l2, p, inj, s1, s2 => by
    have hb : b ∈ a :: l1 := p.mem_iff.mpr List.mem_cons_self
    have ha : a ∈ b :: l2 := p.mem_iff.mp List.mem_cons_self
    obtain ⟨q1, t1⟩ := List.pairwise_cons.mp s1
    obtain ⟨q2, t2⟩ := List.pairwise_cons.mp s2
    have e : a = b := inj a List.mem_cons_self b hb (by
      have x1 : c a ≤ c b := by
        rcases List.mem_cons.mp hb with h | h
        · rw [h]; exact Int.le_refl _
        · exact q1 b h
      have x2 : c b ≤ c a := by
        rcases List.mem_cons.mp ha with h | h
        · rw [h]; exact Int.le_refl _
        · exact q2 a h
      omega)
    subst e
    rw [srt_one ((List.perm_cons a).mp p) (fun x hx y hy => inj x (List.mem_cons_of_mem _ hx) y (List.mem_cons_of_mem _ hy)) t1 t2]
def rrC (xs : List Int) (c : Option (Int × Int)) (f : List Chg) : Bool := rrB (f.foldl stepC (xs, c)).1 (f.foldl stepC (xs, c)).2
def comsOf (n v k : Int) (j : Bool) (xs : List Int) (c : Option (Int × Int)) : List (List Chg) := ((joinC j (pcsC v xs) (chC n k c)).filter (rrC xs c)).mergeSort fun a b => decide (nCom a ≤ nCom b)
theorem coms_perm (n v k : Int) (j : Bool) (xs : List Int) (c : Option (Int × Int)) : (comsOf n v k j xs c).Perm ((joinC j (pcsC v xs) (chC n k c)).filter (rrC xs c)) := List.mergeSort_perm _ _
theorem coms_srt (n v k : Int) (j : Bool) (xs : List Int) (c : Option (Int × Int)) : (comsOf n v k j xs c).Pairwise fun a b => nCom a ≤ nCom b := by
  have := List.pairwise_mergeSort (le := fun a b : List Chg => decide (nCom a ≤ nCom b)) (fun a b c h1 h2 => by simp only [decide_eq_true_eq] at *; omega) (fun a b => by simp only [Bool.or_eq_true, decide_eq_true_eq]; omega) ((joinC j (pcsC v xs) (chC n k c)).filter (rrC xs c))
  exact this.imp fun h => of_decide_eq_true h
theorem coms_ok {n v k : Int} {j : Bool} {xs : List Int} {c : Option (Int × Int)} (hl : (xs.length : Int) = n) : ∀ f ∈ comsOf n v k j xs c, ComOk n v k f := fun f hf => by
  have h := (List.mem_filter.mp ((coms_perm n v k j xs c).mem_iff.mp hf)).1
  exact join_ok (fun y hy => (pcs_in k hl y hy).1) (fun y hy => (ch_in v y hy).1) f h
/-- what is sorted is the one list -/
theorem coms_one {n v k : Int} {j : Bool} {xs : List Int} {c : Option (Int × Int)} (ho : n ≤ 3 ∧ v ≤ 3 ∧ k ≤ 2) (hl : (xs.length : Int) = n) {fs : List (List Chg)} (hp : fs.Perm ((joinC j (pcsC v xs) (chC n k c)).filter (rrC xs c))) {ys : List PyData} (h1 : ys.Perm (fs.map comD)) (h2 : ys.Pairwise fun d e => comN d ≤ comN e) : ys = (comsOf n v k j xs c).map comD := by
  obtain ⟨gs, gp, rfl⟩ := Vl.perm_lift comD h1 fs rfl
  have hg : ∀ f ∈ gs, ComOk n v k f := fun f hf => coms_ok (j := j) (c := c) hl f ((coms_perm n v k j xs c).mem_iff.mpr (hp.mem_iff.mp (gp.mem_iff.mp hf)))
  have hs : gs.Pairwise fun a b => nCom a ≤ nCom b := (List.pairwise_map.mp h2).imp_of_mem fun {a b} ha hb h => by
    rw [comN_eq (hg a ha), comN_eq (hg b hb)] at h
    exact h
  rw [srt_one ((gp.trans hp).trans (coms_perm n v k j xs c).symm) (fun a ha b hb e => nCom_inj ho.1 ho.2.1 ho.2.2 (hg a ha) (hg b hb) e) hs (coms_srt n v k j xs c)]
theorem _root_.Vl.lp_pre {α : Type} {enc : α → PyData} {G : WG} {B : WS} {V : EndsV} {g : Nat} (I : List α → Rho → Prop) (all : List α)
    (hs : ∀ (pre : List α) (x : α) (post : List α), all = pre ++ x :: post → ∀ (ρ : Rho) (N : Rho → Nat → Prop), I pre ρ → (∀ ρ', I (pre ++ [x]) ρ' → N ρ' g) → G (enc x) ρ fun ρ' => B { nx := N, rt := V.rt, bk := V.nx, ct := N } ρ' g)
    (e : ∀ ρ', I all ρ' → V.nx ρ' g) : ∀ (xs pre : List α) (ρ : Rho), all = pre ++ xs → I pre ρ → loopV G B V (xs.map enc) ρ g
  | [], pre, ρ, h, hI => by
    rw [List.append_nil] at h
    subst h
    exact e ρ hI
  | x :: xs, pre, ρ, h, hI => by
    show G (enc x) ρ _
    exact hs pre x xs h ρ (loopV G B V (xs.map enc)) hI fun ρ' h' => Vl.lp_pre I all hs e xs (pre ++ [x]) ρ' (by rw [h]; simp) h'
theorem foldl_keep {α : Type} (p : α → Bool) : ∀ (l b : List α), l.foldl (fun b x => if p x = true then b ++ [x] else b) b = b ++ l.filter p
  | [], b => by simp
  | x :: l, b => by
    rw [List.foldl_cons, foldl_keep p l]
    cases h : p x with
    | true => simp [h]
    | false => simp [h]
theorem fold_ok {n v k : Int} : ∀ {f : List Chg} {z : SrcV}, SrcOk n v k z.1 z.2 → (∀ y ∈ f, ChgIn n v k y) → SrcOk n v k (f.foldl stepC z).1 (f.foldl stepC z).2
  | [], _, h, _ => h
  | .chl c :: f, z, h, hf => fold_ok (f := f) (z := (z.1, c)) ⟨h.len, h.hx, hf _ List.mem_cons_self⟩ fun w hw => hf w (List.mem_cons_of_mem _ hw)
  | .par p s :: f, z, h, hf => fold_ok (f := f) (z := (z.1.set p s, z.2)) ⟨by show ((z.1.set p s).length : Int) = n; rw [List.length_set]; exact h.len, fun x hx => by
      rcases List.mem_or_eq_of_mem_set hx with hx | rfl
      · exact h.hx x hx
      · exact (hf _ List.mem_cons_self).2, h.hc⟩ fun w hw => hf w (List.mem_cons_of_mem _ hw)
theorem join_len {j : Bool} {one two : List Chg} (h1 : one.length ≤ 12) (h2 : two.length ≤ 7) : (joinC j one two).length ≤ 103 := by
  unfold joinC
  rw [List.length_append, List.length_map, List.length_append]
  cases j with
  | false => simp; omega
  | true =>
    rw [if_pos rfl]
    have := flat_len (m := 7) (f := fun d => two.map fun e => [d, e]) one fun d hd => by rw [List.length_map]; exact h2
    omega
theorem pcsC_len {v : Int} {xs : List Int} (hv : v ≤ 3) (hx : xs.length ≤ 3) : (pcsC v xs).length ≤ 12 := by
  have := pcs_len hv xs.zipIdx
  rw [List.length_zipIdx] at this
  have e : (pcsOf v xs).length = (pcsC v xs).length := by rw [pcs_map, List.length_map]
  unfold pcsOf at e
  omega
theorem chC_len {n k : Int} {c : Option (Int × Int)} (h1 : n ≤ 3) (h2 : k ≤ 2) : (chC n k c).length ≤ 7 := by
  have := chs_len (c := c) h1 h2
  rw [ch_map, List.length_map] at this
  exact this
def spCom : VSpL := fun as g R => ∃ (n v k : Int) (ps : List (Int × Int)) (j : Bool) (xs : List Int) (c : Option (Int × Int)), as = [.val (caseD n v k ps j), .val (srcD xs c)] ∧ CaseOk n v k ps ∧ SrcOk n v k xs c ∧ R ((comsOf n v k j xs c).map comD) g
def spEv : VSp := fun as g R => ∃ (xs : List Int) (c : Option (Int × Int)), as = [.val (srcD xs c)] ∧ (∀ q, c = some q → 0 ≤ q.2 ∧ q.2 < (xs.length : Int)) ∧ R (.bool (rrB xs c)) g
theorem e_pc : (Str.ofString "parent" == Str.ofString "child") = false := by decide
theorem ok__law_is_even (B : Bi mg)  (D : Df K mg "_law_is_even" s__law_is_even ["source"]) : Ck P w K mg base "_law_is_even" ["source"] 1 spEv := by
  refine ck_v D sc__law_is_even (fun as g R h => ?_) (fun f cdv A outer s H E hr => (vss_one (vs_ret (v_or (v_eqE hr.units (v_ix (vv 0) v_int)) (v_one (v_ne hr.units (v_ix (v_ix (vv 0) v_int) (v_ix (v_ix (vv 0) v_int) v_int)) (v_neg v_int))))))) (fun as g R h => ?_)
  · obtain ⟨xs, c, rfl, hc, hR⟩ := h
    rfl
  · obtain ⟨xs, c, rfl, hc, hR⟩ := h
    cases c with
    | none =>
      simp only [sSeq, sIf, sSet, sOwn, sRet, sRetN, sNext, sDis, sSetIx, sApp, sAsg, sPar, sPar2O, sPar3, wB, wOp, wVar, wC, wNil, wCons, pNil, pCons, pPen, wTup, lLst, wL, wCall, wChain, Vl.wAnd, Vl.wOr, Vl.wNot, wAndV, wOrV, wNotV, wIf, wNeg, wIsN, wIsa, wFn, wSl, oNo, oPt, lList, wRevL, wIxO, wEqE, gN, gsNil, gsCons, gT, iL, iT, iR1, iR2, iZp, iEn, wYes, wipeV, endV, startV, e_fII, e_addI, e_addT, e_addL, e_intI, e_intB, e_mulT, e_mulL, e_lenL, e_lenT, e_tupL, e_tupT, e_eqI, e_neI, e_eqB, e_neB, e_eqS, e_neS, e_ix0T, e_ix1T, e_ix2T, e_ix3T, e_ix4T, e_ix0L, e_ix1L, e_ix2L, List.length_cons, List.length_nil, List.replicate, List.cons_append, List.nil_append, List.getElem?_cons_zero, List.getElem?_cons_succ, List.set_cons_zero, List.set_cons_succ, Nat.reduceAdd, Nat.reduceSub, List.replicate_succ, List.replicate_zero, true_and, if_true, if_false, Bool.false_eq_true, reduceIte, Int.toNat_natCast, fGt, fLtI, fLe, fGe, wFn, startV_one, isIntStr, isTupList, Bool.not_true, Bool.not_false, k_isInt_none, k_isInt_bool, k_isInt_int, k_isInt_str, k_isInt_list, k_isInt_tuple, k_isInt_dict, k_isBool_none, k_isBool_bool, k_isBool_int, k_isBool_str, k_isBool_list, k_isBool_tuple, k_isBool_dict, k_isTuple_none, k_isTuple_bool, k_isTuple_int, k_isTuple_str, k_isTuple_list, k_isTuple_tuple, k_isTuple_dict, k_isList_none, k_isList_bool, k_isList_int, k_isList_str, k_isList_list, k_isList_tuple, k_isList_dict, k_isStr_none, k_isStr_bool, k_isStr_int, k_isStr_str, k_isStr_list, k_isStr_tuple, k_isStr_dict, lRg1, lRg2, lLc2, iEm, srcD, chD, isUnit, notDict, List.isEmpty_nil]
      exact ⟨noX_ch (c := none), g, Nat.le_refl _, hR⟩
    | some q =>
      have hq := hc q rfl
      simp only [sSeq, sIf, sSet, sOwn, sRet, sRetN, sNext, sDis, sSetIx, sApp, sAsg, sPar, sPar2O, sPar3, wB, wOp, wVar, wC, wNil, wCons, pNil, pCons, pPen, wTup, lLst, wL, wCall, wChain, Vl.wAnd, Vl.wOr, Vl.wNot, wAndV, wOrV, wNotV, wIf, wNeg, wIsN, wIsa, wFn, wSl, oNo, oPt, lList, wRevL, wIxO, wEqE, gN, gsNil, gsCons, gT, iL, iT, iR1, iR2, iZp, iEn, wYes, wipeV, endV, startV, e_fII, e_addI, e_addT, e_addL, e_intI, e_intB, e_mulT, e_mulL, e_lenL, e_lenT, e_tupL, e_tupT, e_eqI, e_neI, e_eqB, e_neB, e_eqS, e_neS, e_ix0T, e_ix1T, e_ix2T, e_ix3T, e_ix4T, e_ix0L, e_ix1L, e_ix2L, List.length_cons, List.length_nil, List.replicate, List.cons_append, List.nil_append, List.getElem?_cons_zero, List.getElem?_cons_succ, List.set_cons_zero, List.set_cons_succ, Nat.reduceAdd, Nat.reduceSub, List.replicate_succ, List.replicate_zero, true_and, if_true, if_false, Bool.false_eq_true, reduceIte, Int.toNat_natCast, fGt, fLtI, fLe, fGe, wFn, startV_one, isIntStr, isTupList, Bool.not_true, Bool.not_false, k_isInt_none, k_isInt_bool, k_isInt_int, k_isInt_str, k_isInt_list, k_isInt_tuple, k_isInt_dict, k_isBool_none, k_isBool_bool, k_isBool_int, k_isBool_str, k_isBool_list, k_isBool_tuple, k_isBool_dict, k_isTuple_none, k_isTuple_bool, k_isTuple_int, k_isTuple_str, k_isTuple_list, k_isTuple_tuple, k_isTuple_dict, k_isList_none, k_isList_bool, k_isList_int, k_isList_str, k_isList_list, k_isList_tuple, k_isList_dict, k_isStr_none, k_isStr_bool, k_isStr_int, k_isStr_str, k_isStr_list, k_isStr_tuple, k_isStr_dict, lRg1, lRg2, lLc2, iEm, srcD, chD, prD, isUnit, notDict, List.isEmpty_cons]
      refine ⟨noX_pr (p := q), ix_par hq.1 hq.2 ?_⟩
      simp only [sSeq, sIf, sSet, sOwn, sRet, sRetN, sNext, sDis, sSetIx, sApp, sAsg, sPar, sPar2O, sPar3, wB, wOp, wVar, wC, wNil, wCons, pNil, pCons, pPen, wTup, lLst, wL, wCall, wChain, Vl.wAnd, Vl.wOr, Vl.wNot, wAndV, wOrV, wNotV, wIf, wNeg, wIsN, wIsa, wFn, wSl, oNo, oPt, lList, wRevL, wIxO, wEqE, gN, gsNil, gsCons, gT, iL, iT, iR1, iR2, iZp, iEn, wYes, wipeV, endV, startV, e_fII, e_addI, e_addT, e_addL, e_intI, e_intB, e_mulT, e_mulL, e_lenL, e_lenT, e_tupL, e_tupT, e_eqI, e_neI, e_eqB, e_neB, e_eqS, e_neS, e_ix0T, e_ix1T, e_ix2T, e_ix3T, e_ix4T, e_ix0L, e_ix1L, e_ix2L, List.length_cons, List.length_nil, List.replicate, List.cons_append, List.nil_append, List.getElem?_cons_zero, List.getElem?_cons_succ, List.set_cons_zero, List.set_cons_succ, Nat.reduceAdd, Nat.reduceSub, List.replicate_succ, List.replicate_zero, true_and, if_true, if_false, Bool.false_eq_true, reduceIte, Int.toNat_natCast, fGt, fLtI, fLe, fGe, wFn, startV_one, isIntStr, isTupList, Bool.not_true, Bool.not_false, k_isInt_none, k_isInt_bool, k_isInt_int, k_isInt_str, k_isInt_list, k_isInt_tuple, k_isInt_dict, k_isBool_none, k_isBool_bool, k_isBool_int, k_isBool_str, k_isBool_list, k_isBool_tuple, k_isBool_dict, k_isTuple_none, k_isTuple_bool, k_isTuple_int, k_isTuple_str, k_isTuple_list, k_isTuple_tuple, k_isTuple_dict, k_isList_none, k_isList_bool, k_isList_int, k_isList_str, k_isList_list, k_isList_tuple, k_isList_dict, k_isStr_none, k_isStr_bool, k_isStr_int, k_isStr_str, k_isStr_list, k_isStr_tuple, k_isStr_dict, lRg1, lRg2, lLc2, iEm]
      exact ⟨g, Nat.le_refl _, hR⟩

theorem ok__law_done (B : Bi mg)  (D : Df K mg "_law_done" s__law_done ["source", "commit"]) : Ck P w K mg base "_law_done" ["source", "commit"] 1 spAft := by
  refine ck_v D sc__law_done (fun as g R h => ?_) (fun f cdv A outer s H E hr => (vss_cons (vs_par2O 2 3 rfl sc__law_done.nd (vl_list (by rfl) B.b_list (v_ix (vv 0) v_int)) (v_ix (vv 0) v_int)) (vss_cons (vs_for PassesOwn.never rfl (vi_tup (vv 1)) (vg_n 4 sc__law_done.nd) (vss_one (vs_if (t_eq hr.units (v_ix (vv 4) v_int) v_str) (vss_one (vs_set 3 sc__law_done.nd (v_ix (vv 4) v_int))) (vss_one (vs_setIx 2 (v_ix (vv 4) v_int) (v_ix (vv 4) v_int)))))) (vss_dis 2 (vss_one (vs_ret (v_tup (va_cons (v_toTuple (by rfl) B.b_tuple (va_cons (vv 2) va_nil)) (va_cons (vv 3) va_nil))))))))) (fun as g R h => ?_)
  · obtain ⟨xs, c, cs, rfl, hx, hp, hR⟩ := h
    rfl
  · obtain ⟨xs, c, cs, rfl, hx, hp, hR⟩ := h
    simp only [sSeq, sIf, sSet, sOwn, sRet, sRetN, sNext, sDis, sSetIx, sApp, sAsg, sPar, sPar2O, sPar3, wB, wOp, wVar, wC, wNil, wCons, pNil, pCons, pPen, wTup, lLst, wL, wCall, wChain, Vl.wAnd, Vl.wOr, Vl.wNot, wAndV, wOrV, wNotV, wIf, wNeg, wIsN, wIsa, wFn, wSl, oNo, oPt, lList, wRevL, wIxO, wEqE, gN, gsNil, gsCons, gT, iL, iT, iR1, iR2, iZp, iEn, wYes, wipeV, endV, startV, e_fII, e_addI, e_addT, e_addL, e_intI, e_intB, e_mulT, e_mulL, e_lenL, e_lenT, e_tupL, e_tupT, e_eqI, e_neI, e_eqB, e_neB, e_eqS, e_neS, e_ix0T, e_ix1T, e_ix2T, e_ix3T, e_ix4T, e_ix0L, e_ix1L, e_ix2L, List.length_cons, List.length_nil, List.replicate, List.cons_append, List.nil_append, List.getElem?_cons_zero, List.getElem?_cons_succ, List.set_cons_zero, List.set_cons_succ, Nat.reduceAdd, Nat.reduceSub, List.replicate_succ, List.replicate_zero, true_and, if_true, if_false, Bool.false_eq_true, reduceIte, Int.toNat_natCast, fGt, fLtI, fLe, fGe, wFn, startV_one, isIntStr, isTupList, Bool.not_true, Bool.not_false, k_isInt_none, k_isInt_bool, k_isInt_int, k_isInt_str, k_isInt_list, k_isInt_tuple, k_isInt_dict, k_isBool_none, k_isBool_bool, k_isBool_int, k_isBool_str, k_isBool_list, k_isBool_tuple, k_isBool_dict, k_isTuple_none, k_isTuple_bool, k_isTuple_int, k_isTuple_str, k_isTuple_list, k_isTuple_tuple, k_isTuple_dict, k_isList_none, k_isList_bool, k_isList_int, k_isList_str, k_isList_list, k_isList_tuple, k_isList_dict, k_isStr_none, k_isStr_bool, k_isStr_int, k_isStr_str, k_isStr_list, k_isStr_tuple, k_isStr_dict, lRg1, lRg2, lLc2, iEm, srcD]
    refine ⟨_, rfl, ?_⟩
    show loopV _ _ _ (cs.map chgD) _ _
    refine lp_fold (enc := chgD) (fun (b : SrcV) ρ => b.1.length = xs.length ∧ ∃ s4, ρ = [Sl.val (srcD xs c), Sl.val (.tuple (cs.map chgD)), Sl.own (b.1.map .int), Sl.val (chD b.2), s4]) stepC cs (xs, c) _ (fun x hxm b ρ N hI hN => ?_) ⟨rfl, _, rfl⟩ (fun ρ' hI => ?_)
    · obtain ⟨hb, s4, rfl⟩ := hI
      cases x with
      | chl c2 =>
        simp only [sSeq, sIf, sSet, sOwn, sRet, sRetN, sNext, sDis, sSetIx, sApp, sAsg, sPar, sPar2O, sPar3, wB, wOp, wVar, wC, wNil, wCons, pNil, pCons, pPen, wTup, lLst, wL, wCall, wChain, Vl.wAnd, Vl.wOr, Vl.wNot, wAndV, wOrV, wNotV, wIf, wNeg, wIsN, wIsa, wFn, wSl, oNo, oPt, lList, wRevL, wIxO, wEqE, gN, gsNil, gsCons, gT, iL, iT, iR1, iR2, iZp, iEn, wYes, wipeV, endV, startV, e_fII, e_addI, e_addT, e_addL, e_intI, e_intB, e_mulT, e_mulL, e_lenL, e_lenT, e_tupL, e_tupT, e_eqI, e_neI, e_eqB, e_neB, e_eqS, e_neS, e_ix0T, e_ix1T, e_ix2T, e_ix3T, e_ix4T, e_ix0L, e_ix1L, e_ix2L, List.length_cons, List.length_nil, List.replicate, List.cons_append, List.nil_append, List.getElem?_cons_zero, List.getElem?_cons_succ, List.set_cons_zero, List.set_cons_succ, Nat.reduceAdd, Nat.reduceSub, List.replicate_succ, List.replicate_zero, true_and, if_true, if_false, Bool.false_eq_true, reduceIte, Int.toNat_natCast, fGt, fLtI, fLe, fGe, wFn, startV_one, isIntStr, isTupList, Bool.not_true, Bool.not_false, k_isInt_none, k_isInt_bool, k_isInt_int, k_isInt_str, k_isInt_list, k_isInt_tuple, k_isInt_dict, k_isBool_none, k_isBool_bool, k_isBool_int, k_isBool_str, k_isBool_list, k_isBool_tuple, k_isBool_dict, k_isTuple_none, k_isTuple_bool, k_isTuple_int, k_isTuple_str, k_isTuple_list, k_isTuple_tuple, k_isTuple_dict, k_isList_none, k_isList_bool, k_isList_int, k_isList_str, k_isList_list, k_isList_tuple, k_isList_dict, k_isStr_none, k_isStr_bool, k_isStr_int, k_isStr_str, k_isStr_list, k_isStr_tuple, k_isStr_dict, lRg1, lRg2, lLc2, iEm, chgD, chChg, beq_self_eq_true]
        exact hN _ ⟨hb, _, rfl⟩
      | par p s =>
        have hpl : p < b.1.length := by rw [hb]; exact hp p s hxm
        simp only [sSeq, sIf, sSet, sOwn, sRet, sRetN, sNext, sDis, sSetIx, sApp, sAsg, sPar, sPar2O, sPar3, wB, wOp, wVar, wC, wNil, wCons, pNil, pCons, pPen, wTup, lLst, wL, wCall, wChain, Vl.wAnd, Vl.wOr, Vl.wNot, wAndV, wOrV, wNotV, wIf, wNeg, wIsN, wIsa, wFn, wSl, oNo, oPt, lList, wRevL, wIxO, wEqE, gN, gsNil, gsCons, gT, iL, iT, iR1, iR2, iZp, iEn, wYes, wipeV, endV, startV, e_fII, e_addI, e_addT, e_addL, e_intI, e_intB, e_mulT, e_mulL, e_lenL, e_lenT, e_tupL, e_tupT, e_eqI, e_neI, e_eqB, e_neB, e_eqS, e_neS, e_ix0T, e_ix1T, e_ix2T, e_ix3T, e_ix4T, e_ix0L, e_ix1L, e_ix2L, List.length_cons, List.length_nil, List.replicate, List.cons_append, List.nil_append, List.getElem?_cons_zero, List.getElem?_cons_succ, List.set_cons_zero, List.set_cons_succ, Nat.reduceAdd, Nat.reduceSub, List.replicate_succ, List.replicate_zero, true_and, if_true, if_false, Bool.false_eq_true, reduceIte, Int.toNat_natCast, fGt, fLtI, fLe, fGe, wFn, startV_one, isIntStr, isTupList, Bool.not_true, Bool.not_false, k_isInt_none, k_isInt_bool, k_isInt_int, k_isInt_str, k_isInt_list, k_isInt_tuple, k_isInt_dict, k_isBool_none, k_isBool_bool, k_isBool_int, k_isBool_str, k_isBool_list, k_isBool_tuple, k_isBool_dict, k_isTuple_none, k_isTuple_bool, k_isTuple_int, k_isTuple_str, k_isTuple_list, k_isTuple_tuple, k_isTuple_dict, k_isList_none, k_isList_bool, k_isList_int, k_isList_str, k_isList_list, k_isList_tuple, k_isList_dict, k_isStr_none, k_isStr_bool, k_isStr_int, k_isStr_str, k_isStr_list, k_isStr_tuple, k_isStr_dict, lRg1, lRg2, lLc2, iEm, chgD, e_pc]
        refine ⟨_, rfl, _, p, rfl, ?_, ?_⟩
        · unfold ixN
          rw [List.length_map, if_pos (by omega), if_pos (by omega), Int.toNat_natCast]
        · refine hN _ ⟨by show (b.1.set p s).length = _; rw [List.length_set]; exact hb, Sl.val (chgD (.par p s)), ?_⟩
          rw [show (b.1.map PyData.int).set p (.int s) = (b.1.set p s).map .int from (List.map_set ..).symm]
          exact rfl
    · obtain ⟨hb, s4, rfl⟩ := hI
      show sDis 2 _ _ _ _
      refine ⟨_, rfl, ?_⟩
      simp only [sSeq, sIf, sSet, sOwn, sRet, sRetN, sNext, sDis, sSetIx, sApp, sAsg, sPar, sPar2O, sPar3, wB, wOp, wVar, wC, wNil, wCons, pNil, pCons, pPen, wTup, lLst, wL, wCall, wChain, Vl.wAnd, Vl.wOr, Vl.wNot, wAndV, wOrV, wNotV, wIf, wNeg, wIsN, wIsa, wFn, wSl, oNo, oPt, lList, wRevL, wIxO, wEqE, gN, gsNil, gsCons, gT, iL, iT, iR1, iR2, iZp, iEn, wYes, wipeV, endV, startV, e_fII, e_addI, e_addT, e_addL, e_intI, e_intB, e_mulT, e_mulL, e_lenL, e_lenT, e_tupL, e_tupT, e_eqI, e_neI, e_eqB, e_neB, e_eqS, e_neS, e_ix0T, e_ix1T, e_ix2T, e_ix3T, e_ix4T, e_ix0L, e_ix1L, e_ix2L, List.length_cons, List.length_nil, List.replicate, List.cons_append, List.nil_append, List.getElem?_cons_zero, List.getElem?_cons_succ, List.set_cons_zero, List.set_cons_succ, Nat.reduceAdd, Nat.reduceSub, List.replicate_succ, List.replicate_zero, true_and, if_true, if_false, Bool.false_eq_true, reduceIte, Int.toNat_natCast, fGt, fLtI, fLe, fGe, wFn, startV_one, isIntStr, isTupList, Bool.not_true, Bool.not_false, k_isInt_none, k_isInt_bool, k_isInt_int, k_isInt_str, k_isInt_list, k_isInt_tuple, k_isInt_dict, k_isBool_none, k_isBool_bool, k_isBool_int, k_isBool_str, k_isBool_list, k_isBool_tuple, k_isBool_dict, k_isTuple_none, k_isTuple_bool, k_isTuple_int, k_isTuple_str, k_isTuple_list, k_isTuple_tuple, k_isTuple_dict, k_isList_none, k_isList_bool, k_isList_int, k_isList_str, k_isList_list, k_isList_tuple, k_isList_dict, k_isStr_none, k_isStr_bool, k_isStr_int, k_isStr_str, k_isStr_list, k_isStr_tuple, k_isStr_dict, lRg1, lRg2, lLc2, iEm]
      exact ⟨by decide, g, Nat.le_refl _, hR⟩

/-! the law's own list of commits -/
def ccL (k : Int) (c : Option (Int × Int)) (p : Nat) : List Chg := ((List.range k.toNat).filter fun (i : Nat) => decide (some (((i : Nat) : Int), ((p : Nat) : Int)) ≠ c)).map fun (i : Nat) => .chl (some (((i : Nat) : Int), ((p : Nat) : Int)))
def twoL (n k : Int) (c : Option (Int × Int)) : List Chg := (if none ≠ c then [.chl none] else []) ++ (List.range n.toNat).flatMap (ccL k c)
theorem zipIdx_range (xs : List Int) : xs.zipIdx = (List.range xs.length).map fun p => (xs.getD p 0, p) := by
  refine List.ext_getElem (by simp) fun i h1 h2 => ?_
  have h3 : i < xs.length := by rw [List.length_zipIdx] at h1; exact h1
  simp [h3]
theorem pcsC_range (v : Int) (xs : List Int) : pcsC v xs = (List.range xs.length).flatMap fun p => pcC v (xs.getD p 0, p) := by
  unfold pcsC
  rw [zipIdx_range, List.flatMap_map]
theorem flat_perm {α β : Type} {f g : α → List β} : ∀ l : List α, (∀ x ∈ l, (f x).Perm (g x)) → (l.flatMap f).Perm (l.flatMap g)
  | [], _ => by simp
  | x :: l, h => by
    rw [List.flatMap_cons, List.flatMap_cons]
    exact (h x List.mem_cons_self).append (flat_perm l fun y hy => h y (List.mem_cons_of_mem _ hy))
theorem flat_cons {α β : Type} {g : α → β} {h : α → List β} : ∀ l : List α, (l.flatMap fun b => g b :: h b).Perm (l.map g ++ l.flatMap h)
  | [] => by simp
  | x :: l => by
    rw [List.flatMap_cons, List.map_cons, List.flatMap_cons, List.cons_append, List.cons_append, List.perm_cons]
    refine ((flat_cons l).append_left (h x)).trans ?_
    rw [← List.append_assoc, ← List.append_assoc]
    exact (List.perm_append_comm).append_right _
theorem flat_swap {α β γ : Type} {f : α → β → γ} : ∀ (as : List α) (bs : List β), (as.flatMap fun a => bs.map fun b => f a b).Perm (bs.flatMap fun b => as.map fun a => f a b)
  | [], bs => by simp
  | a :: as, bs => by
    rw [List.flatMap_cons]
    simp only [List.map_cons]
    exact ((flat_swap as bs).append_left _).trans (flat_cons bs).symm
theorem two_perm (n k : Int) (c : Option (Int × Int)) : (twoL n k c).Perm (chC n k c) := by
  have e1 : (List.range n.toNat).flatMap (ccL k c) = (((List.range n.toNat).flatMap fun (p : Nat) => (List.range k.toNat).map fun (i : Nat) => some (((i : Nat) : Int), ((p : Nat) : Int))).filter fun s => decide (s ≠ c)).map Chg.chl := by
    rw [List.filter_flatMap, List.map_flatMap]
    congr 1
    funext p
    unfold ccL
    rw [List.filter_map, List.map_map]
    rfl
  have e2 : (prsOf n k).map some = (List.range k.toNat).flatMap fun (i : Nat) => (List.range n.toNat).map fun (p : Nat) => some (((i : Nat) : Int), ((p : Nat) : Int)) := by
    unfold prsOf
    rw [List.map_flatMap]
    congr 1
    funext i
    rw [List.map_map]
    rfl
  unfold twoL chC cstsOf
  rw [e1, e2, List.filter_cons]
  have p := ((flat_swap (f := fun (p i : Nat) => some (((i : Nat) : Int), ((p : Nat) : Int))) (List.range n.toNat) (List.range k.toNat)).filter fun s => decide (s ≠ c)).map Chg.chl
  by_cases h : none = c
  · rw [if_neg (by simp [h]), if_neg (by simp [h]), List.nil_append]
    exact p
  · rw [if_pos h, if_pos (by simpa using h), List.map_cons]
    exact List.Perm.cons _ p
theorem join_perm {j : Bool} {one two two' : List Chg} (h : two.Perm two') : (joinC j one two).Perm (joinC j one two') := by
  unfold joinC
  refine ((h.append_left one).map _).append ?_
  cases j with
  | false => exact List.Perm.refl _
  | true =>
    rw [if_pos rfl, if_pos rfl]
    exact flat_perm one fun x _ => h.map _
theorem two_len {n k : Int} {c : Option (Int × Int)} (h1 : n ≤ 3) (h2 : k ≤ 2) : (twoL n k c).length ≤ 7 := by
  rw [(two_perm n k c).length_eq]
  exact chC_len h1 h2
theorem foldl_flat {α β : Type} (f : α → List β) : ∀ (l : List α) (b : List β), l.foldl (fun b x => b ++ f x) b = b ++ l.flatMap f
  | [], b => by simp
  | x :: l, b => by rw [List.foldl_cons, foldl_flat f l, List.flatMap_cons, List.append_assoc]
def spLco : VSp := fun as g R => ∃ (n v k : Int) (ps : List (Int × Int)) (j : Bool) (xs : List Int) (c : Option (Int × Int)), as = [.val (caseD n v k ps j), .val (srcD xs c)] ∧ CaseOk n v k ps ∧ SrcOk n v k xs c ∧ R (.list ((comsOf n v k j xs c).map comD)) g
theorem e_mul_two {c : Option (Int × Int)} {R : PyData → Prop} : (fInt [.bool (decide (c ≠ none))] fun d => fMulL (.list [.tuple [.str "child", .tuple []]]) d R) = R (.list ((if none ≠ c then [Chg.chl none] else []).map chgD)) := by
  cases c with
  | none =>
    simp only [ne_eq, not_true_eq_false, decide_false, e_intB, e_mulL, Bool.false_eq_true, if_false]
    exact propext ⟨fun h => h.2, fun h => ⟨by decide, h⟩⟩
  | some q =>
    simp only [ne_eq, reduceCtorEq, not_false_eq_true, decide_true, e_intB, e_mulL, if_true]
    exact propext ⟨fun h => h.2, fun h => ⟨by decide, h⟩⟩
theorem sFor_eq {WI : WL} {G : WG} {B : WS} {V : EndsV} {ρ : Rho} {g : Nat} : sFor WI G B V ρ g = WI ρ g fun ds g1 => loopV G B V ds ρ g1 := rfl
theorem pcC_len {v : Int} (hv : v ≤ 3) (q : Int × Nat) : (pcC v q).length ≤ 4 := by
  unfold pcC
  rw [List.length_map]
  have := List.length_filter_le (fun (i : Nat) => !((-1 + (i : Int)) == q.1)) (List.range (v - -1).toNat)
  rw [List.length_range] at this
  omega
theorem ccL_len {k : Int} (hk : k ≤ 2) (c : Option (Int × Int)) (p : Nat) : (ccL k c p).length ≤ 2 := by
  unfold ccL
  rw [List.length_map]
  have := List.length_filter_le (fun (i : Nat) => decide (some (((i : Nat) : Int), ((p : Nat) : Int)) ≠ c)) (List.range k.toNat)
  rw [List.length_range] at this
  omega
theorem e_ne_ch {c : Option (Int × Int)} {R : PyData → Prop} (h : R (.bool (decide (c ≠ none)))) : fNe (chD c) (.tuple []) R := ne_ch (c := none) h
theorem ok__law_commits (B : Bi mg) (C__law_is_even : Ck P w K mg base "_law_is_even" ["source"] 1 spEv) (C__law_done : Ck P w K mg base "_law_done" ["source", "commit"] 1 spAft) (D : Df K mg "_law_commits" s__law_commits ["case", "source"]) : Ck P w K mg base "_law_commits" ["case", "source"] 2 spLco := by
  refine ck_v D sc__law_commits (fun as g R h => ?_) (fun f cdv A outer s H E hr => (vss_cons (vs_asg (vv 0) (vg_tupn (vgs_cons (vg_n 2 sc__law_commits.nd) (vgs_cons (vg_n 3 sc__law_commits.nd) (vgs_cons (vg_n 4 sc__law_commits.nd) (vgs_cons (vg_n 5 sc__law_commits.nd) (vgs_cons (vg_n 6 sc__law_commits.nd) vgs_nil))))))) (vss_cons (vs_par2 7 8 rfl sc__law_commits.nd (v_lst va_nil) (v_mulL (v_lst (va_cons (v_tup (va_cons v_str (va_cons (v_tup va_nil) va_nil))) va_nil)) (v_toInt (by rfl) B.b_int (va_cons (v_ne hr.units (v_ix (vv 1) v_int) (v_tup va_nil)) va_nil)))) (vss_cons (vs_for PassesOwn.never rfl (vi_range1 (by rfl) B.b_range (va_cons (vv 2) va_nil)) (vg_n 9 sc__law_commits.nd) (vss_cons (vs_set 7 sc__law_commits.nd (v_add (vv 7) (v_l (vl_lc rfl sc__law_commits.nd (vi_range2 (by rfl) B.b_range (va_cons (v_neg v_int) (va_cons (vv 3) va_nil))) (blkOk_by (own := [("state", 10)]) (by show blkC ["case", "source", "n", "values", "kinds", "test", "joint", "one", "two", "p", "state", "kind", "found", "change", "other", "commit"] (defScope s__law_commits) _ _ = true; decide +kernel)) (fun _ _ _ _ _ => (vg_n 10 sc__law_commits.nd)) (fun _ _ _ _ _ => (vts_one (t_ne hr.units (vv 10) (v_ix (v_ix (vv 1) v_int) (vv 9))))) (fun _ _ _ _ _ => (v_tup (va_cons v_str (va_cons (vv 9) (va_cons (vv 10) va_nil))))))))) (vss_one (vs_set 8 sc__law_commits.nd (v_add (vv 8) (v_l (vl_lc rfl sc__law_commits.nd (vi_range1 (by rfl) B.b_range (va_cons (vv 4) va_nil)) (blkOk_by (own := [("kind", 11)]) (by show blkC ["case", "source", "n", "values", "kinds", "test", "joint", "one", "two", "p", "state", "kind", "found", "change", "other", "commit"] (defScope s__law_commits) _ _ = true; decide +kernel)) (fun _ _ _ _ _ => (vg_n 11 sc__law_commits.nd)) (fun _ _ _ _ _ => (vts_one (t_ne hr.units (v_tup (va_cons (vv 11) (va_cons (vv 9) va_nil))) (v_ix (vv 1) v_int)))) (fun _ _ _ _ _ => (v_tup (va_cons v_str (va_cons (v_tup (va_cons (vv 11) (va_cons (vv 9) va_nil))) va_nil))))))))))) (vss_cons (vs_setLc 12 rfl sc__law_commits.nd (vi_list (v_add (vv 7) (vv 8))) (blkOk_by (own := [("change", 13)]) (by show blkC ["case", "source", "n", "values", "kinds", "test", "joint", "one", "two", "p", "state", "kind", "found", "change", "other", "commit"] (defScope s__law_commits) _ _ = true; decide +kernel)) (fun _ _ _ _ _ => (vg_n 13 sc__law_commits.nd)) (fun _ _ _ _ _ => vts_nil) (fun _ _ _ _ _ => (v_tup (va_cons (vv 13) va_nil)))) (vss_cons (vs_if (t_val (vv 6)) (vss_one (vs_for PassesOwn.never rfl (vi_list (vv 7)) (vg_n 13 sc__law_commits.nd) (vss_one (vs_set 12 sc__law_commits.nd (v_add (vv 12) (v_l (vl_lc rfl sc__law_commits.nd (vi_list (vv 8)) (blkOk_by (own := [("other", 14)]) (by show blkC ["case", "source", "n", "values", "kinds", "test", "joint", "one", "two", "p", "state", "kind", "found", "change", "other", "commit"] (defScope s__law_commits) _ _ = true; decide +kernel)) (fun _ _ _ _ _ => (vg_n 14 sc__law_commits.nd)) (fun _ _ _ _ _ => vts_nil) (fun _ _ _ _ _ => (v_tup (va_cons (vv 13) (va_cons (vv 14) va_nil))))))))))) vss_nil) (vss_one (vs_ret (v_l (vl_sortedC comN hr.units (by rfl) B.b_sorted (v_l (vl_lc rfl sc__law_commits.nd (vi_list (vv 12)) (blkOk_by (own := [("commit", 15)]) (by show blkC ["case", "source", "n", "values", "kinds", "test", "joint", "one", "two", "p", "state", "kind", "found", "change", "other", "commit"] (defScope s__law_commits) _ _ = true; decide +kernel)) (fun _ _ _ _ _ => (vg_n 15 sc__law_commits.nd)) (fun _ _ _ _ _ => (vts_one (t_val (v_callC C__law_is_even (hr.mono (by decide)) (by rfl) (vp_cons (v_callC C__law_done (hr.mono (by decide)) (by rfl) (vp_cons (vv 1) (vp_cons (vv 15) vp_nil))) vp_nil))))) (fun _ _ _ _ _ => (vv 15)))))))))))))) (fun as g R h => ?_)
  · obtain ⟨n, v, k, ps, j, xs, c, rfl, ho, so, hR⟩ := h
    rfl
  · obtain ⟨n, v, k, ps, j, xs, c, rfl, ho, so, hR⟩ := h
    have hl3 : xs.length ≤ 3 := by
      have := so.len
      have := ho.n1
      omega
    have := ho.n0
    have := ho.n1
    have hv0 := ho.v0
    have hv1 := ho.v1
    have := ho.k0
    have := ho.k1
    have hlen := so.len
    simp only [sSeq, sIf, sSet, sOwn, sRet, sRetN, sNext, sDis, sSetIx, sApp, sAsg, sPar, sPar2O, sPar3, wB, wOp, wVar, wC, wNil, wCons, pNil, pCons, pPen, wTup, lLst, wL, wCall, wChain, Vl.wAnd, Vl.wOr, Vl.wNot, wAndV, wOrV, wNotV, wIf, wNeg, wIsN, wIsa, wFn, wSl, oNo, oPt, lList, wRevL, wIxO, wEqE, gN, gsNil, gsCons, gT, iL, iT, iR1, iR2, iZp, iEn, wYes, wipeV, endV, startV, e_fII, e_addI, e_addT, e_addL, e_intI, e_intB, e_mulT, e_mulL, e_lenL, e_lenT, e_tupL, e_tupT, e_eqI, e_neI, e_eqB, e_neB, e_eqS, e_neS, e_ix0T, e_ix1T, e_ix2T, e_ix3T, e_ix4T, e_ix0L, e_ix1L, e_ix2L, List.length_cons, List.length_nil, List.replicate, List.cons_append, List.nil_append, List.getElem?_cons_zero, List.getElem?_cons_succ, List.set_cons_zero, List.set_cons_succ, Nat.reduceAdd, Nat.reduceSub, List.replicate_succ, List.replicate_zero, true_and, if_true, if_false, Bool.false_eq_true, reduceIte, Int.toNat_natCast, fGt, fLtI, fLe, fGe, wFn, startV_one, isIntStr, isTupList, Bool.not_true, Bool.not_false, k_isInt_none, k_isInt_bool, k_isInt_int, k_isInt_str, k_isInt_list, k_isInt_tuple, k_isInt_dict, k_isBool_none, k_isBool_bool, k_isBool_int, k_isBool_str, k_isBool_list, k_isBool_tuple, k_isBool_dict, k_isTuple_none, k_isTuple_bool, k_isTuple_int, k_isTuple_str, k_isTuple_list, k_isTuple_tuple, k_isTuple_dict, k_isList_none, k_isList_bool, k_isList_int, k_isList_str, k_isList_list, k_isList_tuple, k_isList_dict, k_isStr_none, k_isStr_bool, k_isStr_int, k_isStr_str, k_isStr_list, k_isStr_tuple, k_isStr_dict, lRg1, lRg2, lLc2, iEm, lSeq, lOf, lRet, lRetO, lDis, lIf, lFn, sApp, lLc, caseD, srcD]
    refine ⟨by decide, by decide, by decide, by decide, by decide, e_ne_ch ?_⟩
    rw [e_mul_two, sFor_eq]
    simp only [sSeq, sIf, sSet, sOwn, sRet, sRetN, sNext, sDis, sSetIx, sApp, sAsg, sPar, sPar2O, sPar3, wB, wOp, wVar, wC, wNil, wCons, pNil, pCons, pPen, wTup, lLst, wL, wCall, wChain, Vl.wAnd, Vl.wOr, Vl.wNot, wAndV, wOrV, wNotV, wIf, wNeg, wIsN, wIsa, wFn, wSl, oNo, oPt, lList, wRevL, wIxO, wEqE, gN, gsNil, gsCons, gT, iL, iT, iR1, iR2, iZp, iEn, wYes, wipeV, endV, startV, e_fII, e_addI, e_addT, e_addL, e_intI, e_intB, e_mulT, e_mulL, e_lenL, e_lenT, e_tupL, e_tupT, e_eqI, e_neI, e_eqB, e_neB, e_eqS, e_neS, e_ix0T, e_ix1T, e_ix2T, e_ix3T, e_ix4T, e_ix0L, e_ix1L, e_ix2L, List.length_cons, List.length_nil, List.replicate, List.cons_append, List.nil_append, List.getElem?_cons_zero, List.getElem?_cons_succ, List.set_cons_zero, List.set_cons_succ, Nat.reduceAdd, Nat.reduceSub, List.replicate_succ, List.replicate_zero, true_and, if_true, if_false, Bool.false_eq_true, reduceIte, Int.toNat_natCast, fGt, fLtI, fLe, fGe, wFn, startV_one, isIntStr, isTupList, Bool.not_true, Bool.not_false, k_isInt_none, k_isInt_bool, k_isInt_int, k_isInt_str, k_isInt_list, k_isInt_tuple, k_isInt_dict, k_isBool_none, k_isBool_bool, k_isBool_int, k_isBool_str, k_isBool_list, k_isBool_tuple, k_isBool_dict, k_isTuple_none, k_isTuple_bool, k_isTuple_int, k_isTuple_str, k_isTuple_list, k_isTuple_tuple, k_isTuple_dict, k_isList_none, k_isList_bool, k_isList_int, k_isList_str, k_isList_list, k_isList_tuple, k_isList_dict, k_isStr_none, k_isStr_bool, k_isStr_int, k_isStr_str, k_isStr_list, k_isStr_tuple, k_isStr_dict, lRg1, lRg2, lLc2, iEm, lSeq, lOf, lRet, lRetO, lDis, lIf, lFn, sApp]
    refine ⟨⟨by omega, by omega⟩, ?_⟩
    rw [rangeD_0]
    refine lp_pre (enc := fun (a : Nat) => PyData.int ((a : Nat) : Int)) (fun pre ρ => ∃ s9 s10 s11 s12 s13 s14 s15, ρ = [Sl.val (.tuple [.int n, .int v, .int k, .tuple (ps.map prD), .bool j]), Sl.val (.tuple [.tuple (xs.map .int), chD c]), Sl.val (.int n), Sl.val (.int v), Sl.val (.int k), Sl.val (.tuple (ps.map prD)), Sl.val (.bool j),
      Sl.val (.list ((pre.flatMap fun p => pcC v (xs.getD p 0, p)).map chgD)), Sl.val (.list (((if none ≠ c then [Chg.chl none] else []) ++ pre.flatMap (ccL k c)).map chgD)), s9, s10, s11, s12, s13, s14, s15]) (List.range n.toNat) (fun pre p post hsp ρ N hI hN => ?_) (fun ρ' hI => ?_) _ [] _ rfl ⟨_, _, _, _, _, _, _, by simp only [List.flatMap_nil, List.append_nil, List.map_nil]; rfl⟩
    · obtain ⟨s9, s10, s11, s12, s13, s14, s15, rfl⟩ := hI
      have hp : p < n.toNat := List.mem_range.mp (by rw [hsp]; exact List.mem_append_right _ List.mem_cons_self)
      have hpre : pre.length < 3 := by
        have := congrArg List.length hsp
        rw [List.length_range, List.length_append, List.length_cons] at this
        omega
      have la := flat_len (m := 4) (f := fun p => pcC v (xs.getD p 0, p)) pre fun x _ => pcC_len hv1 _
      have lb := flat_len (m := 2) (f := ccL k c) pre fun x _ => ccL_len ho.k1 c x
      have lc : (if none ≠ c then [Chg.chl none] else []).length ≤ 1 := by split <;> decide
      have la2 := pcC_len hv1 (xs.getD p 0, p)
      have lb2 := ccL_len ho.k1 c p
      simp only [sSeq, sIf, sSet, sOwn, sRet, sRetN, sNext, sDis, sSetIx, sApp, sAsg, sPar, sPar2O, sPar3, wB, wOp, wVar, wC, wNil, wCons, pNil, pCons, pPen, wTup, lLst, wL, wCall, wChain, Vl.wAnd, Vl.wOr, Vl.wNot, wAndV, wOrV, wNotV, wIf, wNeg, wIsN, wIsa, wFn, wSl, oNo, oPt, lList, wRevL, wIxO, wEqE, gN, gsNil, gsCons, gT, iL, iT, iR1, iR2, iZp, iEn, wYes, wipeV, endV, startV, e_fII, e_addI, e_addT, e_addL, e_intI, e_intB, e_mulT, e_mulL, e_lenL, e_lenT, e_tupL, e_tupT, e_eqI, e_neI, e_eqB, e_neB, e_eqS, e_neS, e_ix0T, e_ix1T, e_ix2T, e_ix3T, e_ix4T, e_ix0L, e_ix1L, e_ix2L, List.length_cons, List.length_nil, List.replicate, List.cons_append, List.nil_append, List.getElem?_cons_zero, List.getElem?_cons_succ, List.set_cons_zero, List.set_cons_succ, Nat.reduceAdd, Nat.reduceSub, List.replicate_succ, List.replicate_zero, true_and, if_true, if_false, Bool.false_eq_true, reduceIte, Int.toNat_natCast, fGt, fLtI, fLe, fGe, wFn, startV_one, isIntStr, isTupList, Bool.not_true, Bool.not_false, k_isInt_none, k_isInt_bool, k_isInt_int, k_isInt_str, k_isInt_list, k_isInt_tuple, k_isInt_dict, k_isBool_none, k_isBool_bool, k_isBool_int, k_isBool_str, k_isBool_list, k_isBool_tuple, k_isBool_dict, k_isTuple_none, k_isTuple_bool, k_isTuple_int, k_isTuple_str, k_isTuple_list, k_isTuple_tuple, k_isTuple_dict, k_isList_none, k_isList_bool, k_isList_int, k_isList_str, k_isList_list, k_isList_tuple, k_isList_dict, k_isStr_none, k_isStr_bool, k_isStr_int, k_isStr_str, k_isStr_list, k_isStr_tuple, k_isStr_dict, lRg1, lRg2, lLc2, iEm, lSeq, lOf, lRet, lRetO, lDis, lIf, lFn, sApp, lLc]
      refine ⟨⟨by decide, by decide, by omega, by omega⟩, by rw [rangeD, List.length_map, List.length_range]; show _ ≤ 16777216; omega, ?_⟩
      refine lc_pure (enc := fun i : Nat => .int (-1 + (i : Int))) (keep := fun i : Nat => !((-1 + (i : Int)) == xs.getD p 0)) (f := fun i : Nat => chgD (.par p (-1 + (i : Int)))) (List.range (v - -1).toNat) [] (fun i hi M acc hM => ?_) ?_
      · simp only [sSeq, sIf, sSet, sOwn, sRet, sRetN, sNext, sDis, sSetIx, sApp, sAsg, sPar, sPar2O, sPar3, wB, wOp, wVar, wC, wNil, wCons, pNil, pCons, pPen, wTup, lLst, wL, wCall, wChain, Vl.wAnd, Vl.wOr, Vl.wNot, wAndV, wOrV, wNotV, wIf, wNeg, wIsN, wIsa, wFn, wSl, oNo, oPt, lList, wRevL, wIxO, wEqE, gN, gsNil, gsCons, gT, iL, iT, iR1, iR2, iZp, iEn, wYes, wipeV, endV, startV, e_fII, e_addI, e_addT, e_addL, e_intI, e_intB, e_mulT, e_mulL, e_lenL, e_lenT, e_tupL, e_tupT, e_eqI, e_neI, e_eqB, e_neB, e_eqS, e_neS, e_ix0T, e_ix1T, e_ix2T, e_ix3T, e_ix4T, e_ix0L, e_ix1L, e_ix2L, List.length_cons, List.length_nil, List.replicate, List.cons_append, List.nil_append, List.getElem?_cons_zero, List.getElem?_cons_succ, List.set_cons_zero, List.set_cons_succ, Nat.reduceAdd, Nat.reduceSub, List.replicate_succ, List.replicate_zero, true_and, if_true, if_false, Bool.false_eq_true, reduceIte, Int.toNat_natCast, fGt, fLtI, fLe, fGe, wFn, startV_one, isIntStr, isTupList, Bool.not_true, Bool.not_false, k_isInt_none, k_isInt_bool, k_isInt_int, k_isInt_str, k_isInt_list, k_isInt_tuple, k_isInt_dict, k_isBool_none, k_isBool_bool, k_isBool_int, k_isBool_str, k_isBool_list, k_isBool_tuple, k_isBool_dict, k_isTuple_none, k_isTuple_bool, k_isTuple_int, k_isTuple_str, k_isTuple_list, k_isTuple_tuple, k_isTuple_dict, k_isList_none, k_isList_bool, k_isList_int, k_isList_str, k_isList_list, k_isList_tuple, k_isList_dict, k_isStr_none, k_isStr_bool, k_isStr_int, k_isStr_str, k_isStr_list, k_isStr_tuple, k_isStr_dict, lRg1, lRg2, lLc2, iEm, lSeq, lOf, lRet, lRetO, lDis, lIf, lFn, sApp, List.map_cons, List.map_nil]
        refine ix_par (i := ((p : Nat) : Int)) (by omega) (by omega) ?_
        simp only [sSeq, sIf, sSet, sOwn, sRet, sRetN, sNext, sDis, sSetIx, sApp, sAsg, sPar, sPar2O, sPar3, wB, wOp, wVar, wC, wNil, wCons, pNil, pCons, pPen, wTup, lLst, wL, wCall, wChain, Vl.wAnd, Vl.wOr, Vl.wNot, wAndV, wOrV, wNotV, wIf, wNeg, wIsN, wIsa, wFn, wSl, oNo, oPt, lList, wRevL, wIxO, wEqE, gN, gsNil, gsCons, gT, iL, iT, iR1, iR2, iZp, iEn, wYes, wipeV, endV, startV, e_fII, e_addI, e_addT, e_addL, e_intI, e_intB, e_mulT, e_mulL, e_lenL, e_lenT, e_tupL, e_tupT, e_eqI, e_neI, e_eqB, e_neB, e_eqS, e_neS, e_ix0T, e_ix1T, e_ix2T, e_ix3T, e_ix4T, e_ix0L, e_ix1L, e_ix2L, List.length_cons, List.length_nil, List.replicate, List.cons_append, List.nil_append, List.getElem?_cons_zero, List.getElem?_cons_succ, List.set_cons_zero, List.set_cons_succ, Nat.reduceAdd, Nat.reduceSub, List.replicate_succ, List.replicate_zero, true_and, if_true, if_false, Bool.false_eq_true, reduceIte, Int.toNat_natCast, fGt, fLtI, fLe, fGe, wFn, startV_one, isIntStr, isTupList, Bool.not_true, Bool.not_false, k_isInt_none, k_isInt_bool, k_isInt_int, k_isInt_str, k_isInt_list, k_isInt_tuple, k_isInt_dict, k_isBool_none, k_isBool_bool, k_isBool_int, k_isBool_str, k_isBool_list, k_isBool_tuple, k_isBool_dict, k_isTuple_none, k_isTuple_bool, k_isTuple_int, k_isTuple_str, k_isTuple_list, k_isTuple_tuple, k_isTuple_dict, k_isList_none, k_isList_bool, k_isList_int, k_isList_str, k_isList_list, k_isList_tuple, k_isList_dict, k_isStr_none, k_isStr_bool, k_isStr_int, k_isStr_str, k_isStr_list, k_isStr_tuple, k_isStr_dict, lRg1, lRg2, lLc2, iEm, lSeq, lOf, lRet, lRetO, lDis, lIf, lFn, sApp]
        cases hk : (!((-1 + (i : Int)) == xs.getD p 0)) <;> rw [hk] at hM
        · exact hM
        · exact ⟨by decide, hM⟩
      · rw [List.nil_append, show ((List.range (v - -1).toNat).filter fun i : Nat => !((-1 + (i : Int)) == xs.getD p 0)).map (fun i : Nat => chgD (.par p (-1 + (i : Int)))) = (pcC v (xs.getD p 0, p)).map chgD by unfold pcC; rw [List.map_map]; rfl]
        simp only [sSeq, sIf, sSet, sOwn, sRet, sRetN, sNext, sDis, sSetIx, sApp, sAsg, sPar, sPar2O, sPar3, wB, wOp, wVar, wC, wNil, wCons, pNil, pCons, pPen, wTup, lLst, wL, wCall, wChain, Vl.wAnd, Vl.wOr, Vl.wNot, wAndV, wOrV, wNotV, wIf, wNeg, wIsN, wIsa, wFn, wSl, oNo, oPt, lList, wRevL, wIxO, wEqE, gN, gsNil, gsCons, gT, iL, iT, iR1, iR2, iZp, iEn, wYes, wipeV, endV, startV, e_fII, e_addI, e_addT, e_addL, e_intI, e_intB, e_mulT, e_mulL, e_lenL, e_lenT, e_tupL, e_tupT, e_eqI, e_neI, e_eqB, e_neB, e_eqS, e_neS, e_ix0T, e_ix1T, e_ix2T, e_ix3T, e_ix4T, e_ix0L, e_ix1L, e_ix2L, List.length_cons, List.length_nil, List.replicate, List.cons_append, List.nil_append, List.getElem?_cons_zero, List.getElem?_cons_succ, List.set_cons_zero, List.set_cons_succ, Nat.reduceAdd, Nat.reduceSub, List.replicate_succ, List.replicate_zero, true_and, if_true, if_false, Bool.false_eq_true, reduceIte, Int.toNat_natCast, fGt, fLtI, fLe, fGe, wFn, startV_one, isIntStr, isTupList, Bool.not_true, Bool.not_false, k_isInt_none, k_isInt_bool, k_isInt_int, k_isInt_str, k_isInt_list, k_isInt_tuple, k_isInt_dict, k_isBool_none, k_isBool_bool, k_isBool_int, k_isBool_str, k_isBool_list, k_isBool_tuple, k_isBool_dict, k_isTuple_none, k_isTuple_bool, k_isTuple_int, k_isTuple_str, k_isTuple_list, k_isTuple_tuple, k_isTuple_dict, k_isList_none, k_isList_bool, k_isList_int, k_isList_str, k_isList_list, k_isList_tuple, k_isList_dict, k_isStr_none, k_isStr_bool, k_isStr_int, k_isStr_str, k_isStr_list, k_isStr_tuple, k_isStr_dict, lRg1, lRg2, lLc2, iEm, lSeq, lOf, lRet, lRetO, lDis, lIf, lFn, sApp, ← List.map_append]
        refine ⟨by rw [List.length_map, List.length_map]; show _ ≤ 16777216; omega, ⟨by omega, by omega⟩, by rw [rangeD, List.length_map, List.length_range]; show _ ≤ 16777216; omega, ?_⟩
        rw [rangeD_0]
        refine lc_pure (enc := fun i : Nat => .int ((i : Nat) : Int)) (keep := fun i : Nat => decide (some (((i : Nat) : Int), ((p : Nat) : Int)) ≠ c)) (f := fun i : Nat => chgD (.chl (some (((i : Nat) : Int), ((p : Nat) : Int))))) (List.range k.toNat) [] (fun i hi M acc hM => ?_) ?_
        · simp only [sSeq, sIf, sSet, sOwn, sRet, sRetN, sNext, sDis, sSetIx, sApp, sAsg, sPar, sPar2O, sPar3, wB, wOp, wVar, wC, wNil, wCons, pNil, pCons, pPen, wTup, lLst, wL, wCall, wChain, Vl.wAnd, Vl.wOr, Vl.wNot, wAndV, wOrV, wNotV, wIf, wNeg, wIsN, wIsa, wFn, wSl, oNo, oPt, lList, wRevL, wIxO, wEqE, gN, gsNil, gsCons, gT, iL, iT, iR1, iR2, iZp, iEn, wYes, wipeV, endV, startV, e_fII, e_addI, e_addT, e_addL, e_intI, e_intB, e_mulT, e_mulL, e_lenL, e_lenT, e_tupL, e_tupT, e_eqI, e_neI, e_eqB, e_neB, e_eqS, e_neS, e_ix0T, e_ix1T, e_ix2T, e_ix3T, e_ix4T, e_ix0L, e_ix1L, e_ix2L, List.length_cons, List.length_nil, List.replicate, List.cons_append, List.nil_append, List.getElem?_cons_zero, List.getElem?_cons_succ, List.set_cons_zero, List.set_cons_succ, Nat.reduceAdd, Nat.reduceSub, List.replicate_succ, List.replicate_zero, true_and, if_true, if_false, Bool.false_eq_true, reduceIte, Int.toNat_natCast, fGt, fLtI, fLe, fGe, wFn, startV_one, isIntStr, isTupList, Bool.not_true, Bool.not_false, k_isInt_none, k_isInt_bool, k_isInt_int, k_isInt_str, k_isInt_list, k_isInt_tuple, k_isInt_dict, k_isBool_none, k_isBool_bool, k_isBool_int, k_isBool_str, k_isBool_list, k_isBool_tuple, k_isBool_dict, k_isTuple_none, k_isTuple_bool, k_isTuple_int, k_isTuple_str, k_isTuple_list, k_isTuple_tuple, k_isTuple_dict, k_isList_none, k_isList_bool, k_isList_int, k_isList_str, k_isList_list, k_isList_tuple, k_isList_dict, k_isStr_none, k_isStr_bool, k_isStr_int, k_isStr_str, k_isStr_list, k_isStr_tuple, k_isStr_dict, lRg1, lRg2, lLc2, iEm, lSeq, lOf, lRet, lRetO, lDis, lIf, lFn, sApp, List.map_cons, List.map_nil]
          refine ⟨by decide, ne_ch (s := some (((i : Nat) : Int), ((p : Nat) : Int))) ?_⟩
          cases hk : decide (some (((i : Nat) : Int), ((p : Nat) : Int)) ≠ c) <;> rw [hk] at hM
          · exact hM
          · exact ⟨by decide, by decide, hM⟩
        · rw [List.nil_append, show ((List.range k.toNat).filter fun i : Nat => decide (some (((i : Nat) : Int), ((p : Nat) : Int)) ≠ c)).map (fun i : Nat => chgD (.chl (some (((i : Nat) : Int), ((p : Nat) : Int))))) = (ccL k c p).map chgD by unfold ccL; rw [List.map_map]; rfl]
          simp only [sSeq, sIf, sSet, sOwn, sRet, sRetN, sNext, sDis, sSetIx, sApp, sAsg, sPar, sPar2O, sPar3, wB, wOp, wVar, wC, wNil, wCons, pNil, pCons, pPen, wTup, lLst, wL, wCall, wChain, Vl.wAnd, Vl.wOr, Vl.wNot, wAndV, wOrV, wNotV, wIf, wNeg, wIsN, wIsa, wFn, wSl, oNo, oPt, lList, wRevL, wIxO, wEqE, gN, gsNil, gsCons, gT, iL, iT, iR1, iR2, iZp, iEn, wYes, wipeV, endV, startV, e_fII, e_addI, e_addT, e_addL, e_intI, e_intB, e_mulT, e_mulL, e_lenL, e_lenT, e_tupL, e_tupT, e_eqI, e_neI, e_eqB, e_neB, e_eqS, e_neS, e_ix0T, e_ix1T, e_ix2T, e_ix3T, e_ix4T, e_ix0L, e_ix1L, e_ix2L, List.length_cons, List.length_nil, List.replicate, List.cons_append, List.nil_append, List.getElem?_cons_zero, List.getElem?_cons_succ, List.set_cons_zero, List.set_cons_succ, Nat.reduceAdd, Nat.reduceSub, List.replicate_succ, List.replicate_zero, true_and, if_true, if_false, Bool.false_eq_true, reduceIte, Int.toNat_natCast, fGt, fLtI, fLe, fGe, wFn, startV_one, isIntStr, isTupList, Bool.not_true, Bool.not_false, k_isInt_none, k_isInt_bool, k_isInt_int, k_isInt_str, k_isInt_list, k_isInt_tuple, k_isInt_dict, k_isBool_none, k_isBool_bool, k_isBool_int, k_isBool_str, k_isBool_list, k_isBool_tuple, k_isBool_dict, k_isTuple_none, k_isTuple_bool, k_isTuple_int, k_isTuple_str, k_isTuple_list, k_isTuple_tuple, k_isTuple_dict, k_isList_none, k_isList_bool, k_isList_int, k_isList_str, k_isList_list, k_isList_tuple, k_isList_dict, k_isStr_none, k_isStr_bool, k_isStr_int, k_isStr_str, k_isStr_list, k_isStr_tuple, k_isStr_dict, lRg1, lRg2, lLc2, iEm, lSeq, lOf, lRet, lRetO, lDis, lIf, lFn, sApp, ← List.map_append]
          refine ⟨by rw [List.length_map, List.length_map, List.length_append]; show _ ≤ 16777216; omega, hN _ ⟨Sl.val (.int ((p : Nat) : Int)), s10, s11, s12, s13, s14, s15, ?_⟩⟩
          rw [List.flatMap_append, List.flatMap_append, List.flatMap_singleton, List.flatMap_singleton, List.append_assoc]
    · obtain ⟨s9, s10, s11, s12, s13, s14, s15, rfl⟩ := hI
      have e1 : (List.range n.toNat).flatMap (fun p => pcC v (xs.getD p 0, p)) = pcsC v xs := by rw [pcsC_range, show xs.length = n.toNat by omega]
      have e2 : (if none ≠ c then [Chg.chl none] else []) ++ (List.range n.toNat).flatMap (ccL k c) = twoL n k c := rfl
      have l1 := pcsC_len hv1 hl3
      have l2 := two_len (c := c) ho.n1 ho.k1
      rw [e1, e2]
      have hin1 : ∀ y ∈ pcsC v xs, ChgIn n v k y := fun y hy => (pcs_in k so.len y hy).1
      have hin2 : ∀ y ∈ twoL n k c, ChgIn n v k y := fun y hy => (ch_in v y ((two_perm n k c).mem_iff.mp hy)).1
      have hperm := join_perm (j := j) (one := pcsC v xs) (two_perm n k c)
      have fin : ∀ (s13 s14 s15 : Sl), sRet (wL (lSortC comN (wL (lLc (iL (wVar 12)) (gN 15) (wB (wFn spEv (pCons (wFn spAft (pCons (wVar 1) (pCons (wVar 15) pNil))) pNil))) (wVar 15) [15])))) { nx := fun x g' => ∃ g2, g' ≤ g2 ∧ R PyData.none g2, rt := fun d g' => ∃ g2, g' ≤ g2 ∧ R d g2 }
          [Sl.val (.tuple [.int n, .int v, .int k, .tuple (ps.map prD), .bool j]), Sl.val (.tuple [.tuple (xs.map .int), chD c]), Sl.val (.int n), Sl.val (.int v), Sl.val (.int k), Sl.val (.tuple (ps.map prD)), Sl.val (.bool j), Sl.val (.list ((pcsC v xs).map chgD)), Sl.val (.list ((twoL n k c).map chgD)), s9, s10, s11, Sl.val (.list ((joinC j (pcsC v xs) (twoL n k c)).map comD)), s13, s14, s15] g := by
        intro s13 s14 s15
        have hj := join_len (j := j) l1 l2
        have hok := join_ok (j := j) hin1 hin2
        simp only [sSeq, sIf, sSet, sOwn, sRet, sRetN, sNext, sDis, sSetIx, sApp, sAsg, sPar, sPar2O, sPar3, wB, wOp, wVar, wC, wNil, wCons, pNil, pCons, pPen, wTup, lLst, wL, wCall, wChain, Vl.wAnd, Vl.wOr, Vl.wNot, wAndV, wOrV, wNotV, wIf, wNeg, wIsN, wIsa, wFn, wSl, oNo, oPt, lList, wRevL, wIxO, wEqE, gN, gsNil, gsCons, gT, iL, iT, iR1, iR2, iZp, iEn, wYes, wipeV, endV, startV, e_fII, e_addI, e_addT, e_addL, e_intI, e_intB, e_mulT, e_mulL, e_lenL, e_lenT, e_tupL, e_tupT, e_eqI, e_neI, e_eqB, e_neB, e_eqS, e_neS, e_ix0T, e_ix1T, e_ix2T, e_ix3T, e_ix4T, e_ix0L, e_ix1L, e_ix2L, List.length_cons, List.length_nil, List.replicate, List.cons_append, List.nil_append, List.getElem?_cons_zero, List.getElem?_cons_succ, List.set_cons_zero, List.set_cons_succ, Nat.reduceAdd, Nat.reduceSub, List.replicate_succ, List.replicate_zero, true_and, if_true, if_false, Bool.false_eq_true, reduceIte, Int.toNat_natCast, fGt, fLtI, fLe, fGe, wFn, startV_one, isIntStr, isTupList, Bool.not_true, Bool.not_false, k_isInt_none, k_isInt_bool, k_isInt_int, k_isInt_str, k_isInt_list, k_isInt_tuple, k_isInt_dict, k_isBool_none, k_isBool_bool, k_isBool_int, k_isBool_str, k_isBool_list, k_isBool_tuple, k_isBool_dict, k_isTuple_none, k_isTuple_bool, k_isTuple_int, k_isTuple_str, k_isTuple_list, k_isTuple_tuple, k_isTuple_dict, k_isList_none, k_isList_bool, k_isList_int, k_isList_str, k_isList_list, k_isList_tuple, k_isList_dict, k_isStr_none, k_isStr_bool, k_isStr_int, k_isStr_str, k_isStr_list, k_isStr_tuple, k_isStr_dict, lRg1, lRg2, lLc2, iEm, lSeq, lOf, lRet, lRetO, lDis, lIf, lFn, sApp, lLc, lSortC, List.length_map]
        refine ⟨by show _ ≤ 16777216; omega, lc_pure (enc := comD) (keep := rrC xs c) (f := comD) _ [] (fun f hf M acc hM => ?_) ?_⟩
        · have hm := (hok f hf).mem
          have hz := fold_ok (z := (xs, c)) so hm
          simp only [sSeq, sIf, sSet, sOwn, sRet, sRetN, sNext, sDis, sSetIx, sApp, sAsg, sPar, sPar2O, sPar3, wB, wOp, wVar, wC, wNil, wCons, pNil, pCons, pPen, wTup, lLst, wL, wCall, wChain, Vl.wAnd, Vl.wOr, Vl.wNot, wAndV, wOrV, wNotV, wIf, wNeg, wIsN, wIsa, wFn, wSl, oNo, oPt, lList, wRevL, wIxO, wEqE, gN, gsNil, gsCons, gT, iL, iT, iR1, iR2, iZp, iEn, wYes, wipeV, endV, startV, e_fII, e_addI, e_addT, e_addL, e_intI, e_intB, e_mulT, e_mulL, e_lenL, e_lenT, e_tupL, e_tupT, e_eqI, e_neI, e_eqB, e_neB, e_eqS, e_neS, e_ix0T, e_ix1T, e_ix2T, e_ix3T, e_ix4T, e_ix0L, e_ix1L, e_ix2L, List.length_cons, List.length_nil, List.replicate, List.cons_append, List.nil_append, List.getElem?_cons_zero, List.getElem?_cons_succ, List.set_cons_zero, List.set_cons_succ, Nat.reduceAdd, Nat.reduceSub, List.replicate_succ, List.replicate_zero, true_and, if_true, if_false, Bool.false_eq_true, reduceIte, Int.toNat_natCast, fGt, fLtI, fLe, fGe, wFn, startV_one, isIntStr, isTupList, Bool.not_true, Bool.not_false, k_isInt_none, k_isInt_bool, k_isInt_int, k_isInt_str, k_isInt_list, k_isInt_tuple, k_isInt_dict, k_isBool_none, k_isBool_bool, k_isBool_int, k_isBool_str, k_isBool_list, k_isBool_tuple, k_isBool_dict, k_isTuple_none, k_isTuple_bool, k_isTuple_int, k_isTuple_str, k_isTuple_list, k_isTuple_tuple, k_isTuple_dict, k_isList_none, k_isList_bool, k_isList_int, k_isList_str, k_isList_list, k_isList_tuple, k_isList_dict, k_isStr_none, k_isStr_bool, k_isStr_int, k_isStr_str, k_isStr_list, k_isStr_tuple, k_isStr_dict, lRg1, lRg2, lLc2, iEm, lSeq, lOf, lRet, lRetO, lDis, lIf, lFn, sApp]
          refine ⟨xs, c, f, rfl, hl3, fun p s hp => ?_, ?_⟩
          · have := (hm _ hp).1
            omega
          · refine ⟨_, _, rfl, fun q hq => ?_, ?_⟩
            · have := hz.hc q hq
              have := hz.len
              omega
            · show if rrC xs c f = true then _ else _
              cases hk : rrC xs c f <;> rw [hk] at hM <;> exact hM
        · rw [List.nil_append]
          refine ⟨_, rfl, ord_com ho.n1 ho.v1 ho.k1 fun f hf => hok f (List.mem_filter.mp hf).1, fun ys h1 h2 => ⟨g, Nat.le_refl _, ?_⟩⟩
          rw [coms_one ⟨ho.n1, ho.v1, ho.k1⟩ so.len (hperm.filter _) h1 h2]
          exact hR
      simp only [sSeq, sIf, sSet, sOwn, sRet, sRetN, sNext, sDis, sSetIx, sApp, sAsg, sPar, sPar2O, sPar3, wB, wOp, wVar, wC, wNil, wCons, pNil, pCons, pPen, wTup, lLst, wL, wCall, wChain, Vl.wAnd, Vl.wOr, Vl.wNot, wAndV, wOrV, wNotV, wIf, wNeg, wIsN, wIsa, wFn, wSl, oNo, oPt, lList, wRevL, wIxO, wEqE, gN, gsNil, gsCons, gT, iL, iT, iR1, iR2, iZp, iEn, wYes, wipeV, endV, startV, e_fII, e_addI, e_addT, e_addL, e_intI, e_intB, e_mulT, e_mulL, e_lenL, e_lenT, e_tupL, e_tupT, e_eqI, e_neI, e_eqB, e_neB, e_eqS, e_neS, e_ix0T, e_ix1T, e_ix2T, e_ix3T, e_ix4T, e_ix0L, e_ix1L, e_ix2L, List.length_cons, List.length_nil, List.replicate, List.cons_append, List.nil_append, List.getElem?_cons_zero, List.getElem?_cons_succ, List.set_cons_zero, List.set_cons_succ, Nat.reduceAdd, Nat.reduceSub, List.replicate_succ, List.replicate_zero, true_and, if_true, if_false, Bool.false_eq_true, reduceIte, Int.toNat_natCast, fGt, fLtI, fLe, fGe, wFn, startV_one, isIntStr, isTupList, Bool.not_true, Bool.not_false, k_isInt_none, k_isInt_bool, k_isInt_int, k_isInt_str, k_isInt_list, k_isInt_tuple, k_isInt_dict, k_isBool_none, k_isBool_bool, k_isBool_int, k_isBool_str, k_isBool_list, k_isBool_tuple, k_isBool_dict, k_isTuple_none, k_isTuple_bool, k_isTuple_int, k_isTuple_str, k_isTuple_list, k_isTuple_tuple, k_isTuple_dict, k_isList_none, k_isList_bool, k_isList_int, k_isList_str, k_isList_list, k_isList_tuple, k_isList_dict, k_isStr_none, k_isStr_bool, k_isStr_int, k_isStr_str, k_isStr_list, k_isStr_tuple, k_isStr_dict, lRg1, lRg2, lLc2, iEm, lSeq, lOf, lRet, lRetO, lDis, lIf, lFn, sApp, lLc, ← List.map_append, List.length_map, List.length_append]
      refine ⟨by show _ ≤ 16777216; omega, by show _ ≤ 16777216; omega, lc_pure (enc := chgD) (keep := fun _ => true) (f := fun y => comD [y]) _ [] (fun y hy M acc hM => ?_) ?_⟩
      · simp only [sSeq, sIf, sSet, sOwn, sRet, sRetN, sNext, sDis, sSetIx, sApp, sAsg, sPar, sPar2O, sPar3, wB, wOp, wVar, wC, wNil, wCons, pNil, pCons, pPen, wTup, lLst, wL, wCall, wChain, Vl.wAnd, Vl.wOr, Vl.wNot, wAndV, wOrV, wNotV, wIf, wNeg, wIsN, wIsa, wFn, wSl, oNo, oPt, lList, wRevL, wIxO, wEqE, gN, gsNil, gsCons, gT, iL, iT, iR1, iR2, iZp, iEn, wYes, wipeV, endV, startV, e_fII, e_addI, e_addT, e_addL, e_intI, e_intB, e_mulT, e_mulL, e_lenL, e_lenT, e_tupL, e_tupT, e_eqI, e_neI, e_eqB, e_neB, e_eqS, e_neS, e_ix0T, e_ix1T, e_ix2T, e_ix3T, e_ix4T, e_ix0L, e_ix1L, e_ix2L, List.length_cons, List.length_nil, List.replicate, List.cons_append, List.nil_append, List.getElem?_cons_zero, List.getElem?_cons_succ, List.set_cons_zero, List.set_cons_succ, Nat.reduceAdd, Nat.reduceSub, List.replicate_succ, List.replicate_zero, true_and, if_true, if_false, Bool.false_eq_true, reduceIte, Int.toNat_natCast, fGt, fLtI, fLe, fGe, wFn, startV_one, isIntStr, isTupList, Bool.not_true, Bool.not_false, k_isInt_none, k_isInt_bool, k_isInt_int, k_isInt_str, k_isInt_list, k_isInt_tuple, k_isInt_dict, k_isBool_none, k_isBool_bool, k_isBool_int, k_isBool_str, k_isBool_list, k_isBool_tuple, k_isBool_dict, k_isTuple_none, k_isTuple_bool, k_isTuple_int, k_isTuple_str, k_isTuple_list, k_isTuple_tuple, k_isTuple_dict, k_isList_none, k_isList_bool, k_isList_int, k_isList_str, k_isList_list, k_isList_tuple, k_isList_dict, k_isStr_none, k_isStr_bool, k_isStr_int, k_isStr_str, k_isStr_list, k_isStr_tuple, k_isStr_dict, lRg1, lRg2, lLc2, iEm, lSeq, lOf, lRet, lRetO, lDis, lIf, lFn, sApp, List.map_cons, List.map_nil]
        exact ⟨by decide, hM⟩
      · rw [List.nil_append, show (pcsC v xs ++ twoL n k c).filter (fun _ => true) = pcsC v xs ++ twoL n k c from List.filter_eq_self.mpr fun _ _ => rfl, show (pcsC v xs ++ twoL n k c).map (fun y => comD [y]) = ((pcsC v xs ++ twoL n k c).map fun y => [y]).map comD by rw [List.map_map]; rfl]
        cases j with
        | false =>
          simp only [sSeq, sIf, sSet, sOwn, sRet, sRetN, sNext, sDis, sSetIx, sApp, sAsg, sPar, sPar2O, sPar3, wB, wOp, wVar, wC, wNil, wCons, pNil, pCons, pPen, wTup, lLst, wL, wCall, wChain, Vl.wAnd, Vl.wOr, Vl.wNot, wAndV, wOrV, wNotV, wIf, wNeg, wIsN, wIsa, wFn, wSl, oNo, oPt, lList, wRevL, wIxO, wEqE, gN, gsNil, gsCons, gT, iL, iT, iR1, iR2, iZp, iEn, wYes, wipeV, endV, startV, e_fII, e_addI, e_addT, e_addL, e_intI, e_intB, e_mulT, e_mulL, e_lenL, e_lenT, e_tupL, e_tupT, e_eqI, e_neI, e_eqB, e_neB, e_eqS, e_neS, e_ix0T, e_ix1T, e_ix2T, e_ix3T, e_ix4T, e_ix0L, e_ix1L, e_ix2L, List.length_cons, List.length_nil, List.replicate, List.cons_append, List.nil_append, List.getElem?_cons_zero, List.getElem?_cons_succ, List.set_cons_zero, List.set_cons_succ, Nat.reduceAdd, Nat.reduceSub, List.replicate_succ, List.replicate_zero, true_and, if_true, if_false, Bool.false_eq_true, reduceIte, Int.toNat_natCast, fGt, fLtI, fLe, fGe, wFn, startV_one, isIntStr, isTupList, Bool.not_true, Bool.not_false, k_isInt_none, k_isInt_bool, k_isInt_int, k_isInt_str, k_isInt_list, k_isInt_tuple, k_isInt_dict, k_isBool_none, k_isBool_bool, k_isBool_int, k_isBool_str, k_isBool_list, k_isBool_tuple, k_isBool_dict, k_isTuple_none, k_isTuple_bool, k_isTuple_int, k_isTuple_str, k_isTuple_list, k_isTuple_tuple, k_isTuple_dict, k_isList_none, k_isList_bool, k_isList_int, k_isList_str, k_isList_list, k_isList_tuple, k_isList_dict, k_isStr_none, k_isStr_bool, k_isStr_int, k_isStr_str, k_isStr_list, k_isStr_tuple, k_isStr_dict, lRg1, lRg2, lLc2, iEm, lSeq, lOf, lRet, lRetO, lDis, lIf, lFn, sApp]
          have := fin s13 s14 s15
          unfold joinC at this
          rw [if_neg Bool.false_ne_true, List.append_nil] at this
          exact this
        | true =>
          simp only [sSeq, sIf, sSet, sOwn, sRet, sRetN, sNext, sDis, sSetIx, sApp, sAsg, sPar, sPar2O, sPar3, wB, wOp, wVar, wC, wNil, wCons, pNil, pCons, pPen, wTup, lLst, wL, wCall, wChain, Vl.wAnd, Vl.wOr, Vl.wNot, wAndV, wOrV, wNotV, wIf, wNeg, wIsN, wIsa, wFn, wSl, oNo, oPt, lList, wRevL, wIxO, wEqE, gN, gsNil, gsCons, gT, iL, iT, iR1, iR2, iZp, iEn, wYes, wipeV, endV, startV, e_fII, e_addI, e_addT, e_addL, e_intI, e_intB, e_mulT, e_mulL, e_lenL, e_lenT, e_tupL, e_tupT, e_eqI, e_neI, e_eqB, e_neB, e_eqS, e_neS, e_ix0T, e_ix1T, e_ix2T, e_ix3T, e_ix4T, e_ix0L, e_ix1L, e_ix2L, List.length_cons, List.length_nil, List.replicate, List.cons_append, List.nil_append, List.getElem?_cons_zero, List.getElem?_cons_succ, List.set_cons_zero, List.set_cons_succ, Nat.reduceAdd, Nat.reduceSub, List.replicate_succ, List.replicate_zero, true_and, if_true, if_false, Bool.false_eq_true, reduceIte, Int.toNat_natCast, fGt, fLtI, fLe, fGe, wFn, startV_one, isIntStr, isTupList, Bool.not_true, Bool.not_false, k_isInt_none, k_isInt_bool, k_isInt_int, k_isInt_str, k_isInt_list, k_isInt_tuple, k_isInt_dict, k_isBool_none, k_isBool_bool, k_isBool_int, k_isBool_str, k_isBool_list, k_isBool_tuple, k_isBool_dict, k_isTuple_none, k_isTuple_bool, k_isTuple_int, k_isTuple_str, k_isTuple_list, k_isTuple_tuple, k_isTuple_dict, k_isList_none, k_isList_bool, k_isList_int, k_isList_str, k_isList_list, k_isList_tuple, k_isList_dict, k_isStr_none, k_isStr_bool, k_isStr_int, k_isStr_str, k_isStr_list, k_isStr_tuple, k_isStr_dict, lRg1, lRg2, lLc2, iEm, lSeq, lOf, lRet, lRetO, lDis, lIf, lFn, sApp]
          show loopV _ _ _ ((pcsC v xs).map chgD) _ _
          refine lp_pre (enc := chgD) (fun pre ρ => ∃ s13 s14 s15, ρ = [Sl.val (.tuple [.int n, .int v, .int k, .tuple (ps.map prD), .bool true]), Sl.val (.tuple [.tuple (xs.map .int), chD c]), Sl.val (.int n), Sl.val (.int v), Sl.val (.int k), Sl.val (.tuple (ps.map prD)), Sl.val (.bool true),
            Sl.val (.list ((pcsC v xs).map chgD)), Sl.val (.list ((twoL n k c).map chgD)), s9, s10, s11, Sl.val (.list ((((pcsC v xs ++ twoL n k c).map fun y => [y]) ++ pre.flatMap fun d => (twoL n k c).map fun e => [d, e]).map comD)), s13, s14, s15]) (pcsC v xs) (fun pre y post hsp ρ N hI hN => ?_) (fun ρ' hI => ?_) _ [] _ rfl ⟨_, _, _, by rw [List.flatMap_nil, List.append_nil]⟩
          · obtain ⟨s13, s14, s15, rfl⟩ := hI
            have hpre : pre.length < 12 := by
              have := congrArg List.length hsp
              rw [List.length_append, List.length_cons] at this
              omega
            have lp := flat_len (m := 7) (f := fun d => (twoL n k c).map fun e => [d, e]) pre fun x _ => by rw [List.length_map]; exact l2
            simp only [sSeq, sIf, sSet, sOwn, sRet, sRetN, sNext, sDis, sSetIx, sApp, sAsg, sPar, sPar2O, sPar3, wB, wOp, wVar, wC, wNil, wCons, pNil, pCons, pPen, wTup, lLst, wL, wCall, wChain, Vl.wAnd, Vl.wOr, Vl.wNot, wAndV, wOrV, wNotV, wIf, wNeg, wIsN, wIsa, wFn, wSl, oNo, oPt, lList, wRevL, wIxO, wEqE, gN, gsNil, gsCons, gT, iL, iT, iR1, iR2, iZp, iEn, wYes, wipeV, endV, startV, e_fII, e_addI, e_addT, e_addL, e_intI, e_intB, e_mulT, e_mulL, e_lenL, e_lenT, e_tupL, e_tupT, e_eqI, e_neI, e_eqB, e_neB, e_eqS, e_neS, e_ix0T, e_ix1T, e_ix2T, e_ix3T, e_ix4T, e_ix0L, e_ix1L, e_ix2L, List.length_cons, List.length_nil, List.replicate, List.cons_append, List.nil_append, List.getElem?_cons_zero, List.getElem?_cons_succ, List.set_cons_zero, List.set_cons_succ, Nat.reduceAdd, Nat.reduceSub, List.replicate_succ, List.replicate_zero, true_and, if_true, if_false, Bool.false_eq_true, reduceIte, Int.toNat_natCast, fGt, fLtI, fLe, fGe, wFn, startV_one, isIntStr, isTupList, Bool.not_true, Bool.not_false, k_isInt_none, k_isInt_bool, k_isInt_int, k_isInt_str, k_isInt_list, k_isInt_tuple, k_isInt_dict, k_isBool_none, k_isBool_bool, k_isBool_int, k_isBool_str, k_isBool_list, k_isBool_tuple, k_isBool_dict, k_isTuple_none, k_isTuple_bool, k_isTuple_int, k_isTuple_str, k_isTuple_list, k_isTuple_tuple, k_isTuple_dict, k_isList_none, k_isList_bool, k_isList_int, k_isList_str, k_isList_list, k_isList_tuple, k_isList_dict, k_isStr_none, k_isStr_bool, k_isStr_int, k_isStr_str, k_isStr_list, k_isStr_tuple, k_isStr_dict, lRg1, lRg2, lLc2, iEm, lSeq, lOf, lRet, lRetO, lDis, lIf, lFn, sApp, lLc, List.length_map]
            refine ⟨by show _ ≤ 16777216; omega, lc_pure (enc := chgD) (keep := fun _ => true) (f := fun e => comD [y, e]) _ [] (fun e he M acc hM => ?_) ?_⟩
            · simp only [sSeq, sIf, sSet, sOwn, sRet, sRetN, sNext, sDis, sSetIx, sApp, sAsg, sPar, sPar2O, sPar3, wB, wOp, wVar, wC, wNil, wCons, pNil, pCons, pPen, wTup, lLst, wL, wCall, wChain, Vl.wAnd, Vl.wOr, Vl.wNot, wAndV, wOrV, wNotV, wIf, wNeg, wIsN, wIsa, wFn, wSl, oNo, oPt, lList, wRevL, wIxO, wEqE, gN, gsNil, gsCons, gT, iL, iT, iR1, iR2, iZp, iEn, wYes, wipeV, endV, startV, e_fII, e_addI, e_addT, e_addL, e_intI, e_intB, e_mulT, e_mulL, e_lenL, e_lenT, e_tupL, e_tupT, e_eqI, e_neI, e_eqB, e_neB, e_eqS, e_neS, e_ix0T, e_ix1T, e_ix2T, e_ix3T, e_ix4T, e_ix0L, e_ix1L, e_ix2L, List.length_cons, List.length_nil, List.replicate, List.cons_append, List.nil_append, List.getElem?_cons_zero, List.getElem?_cons_succ, List.set_cons_zero, List.set_cons_succ, Nat.reduceAdd, Nat.reduceSub, List.replicate_succ, List.replicate_zero, true_and, if_true, if_false, Bool.false_eq_true, reduceIte, Int.toNat_natCast, fGt, fLtI, fLe, fGe, wFn, startV_one, isIntStr, isTupList, Bool.not_true, Bool.not_false, k_isInt_none, k_isInt_bool, k_isInt_int, k_isInt_str, k_isInt_list, k_isInt_tuple, k_isInt_dict, k_isBool_none, k_isBool_bool, k_isBool_int, k_isBool_str, k_isBool_list, k_isBool_tuple, k_isBool_dict, k_isTuple_none, k_isTuple_bool, k_isTuple_int, k_isTuple_str, k_isTuple_list, k_isTuple_tuple, k_isTuple_dict, k_isList_none, k_isList_bool, k_isList_int, k_isList_str, k_isList_list, k_isList_tuple, k_isList_dict, k_isStr_none, k_isStr_bool, k_isStr_int, k_isStr_str, k_isStr_list, k_isStr_tuple, k_isStr_dict, lRg1, lRg2, lLc2, iEm, lSeq, lOf, lRet, lRetO, lDis, lIf, lFn, sApp, List.map_cons, List.map_nil]
              exact ⟨by decide, hM⟩
            · rw [List.nil_append, show (twoL n k c).filter (fun _ => true) = twoL n k c from List.filter_eq_self.mpr fun _ _ => rfl, show (twoL n k c).map (fun e => comD [y, e]) = ((twoL n k c).map fun e => [y, e]).map comD by rw [List.map_map]; rfl]
              simp only [sSeq, sIf, sSet, sOwn, sRet, sRetN, sNext, sDis, sSetIx, sApp, sAsg, sPar, sPar2O, sPar3, wB, wOp, wVar, wC, wNil, wCons, pNil, pCons, pPen, wTup, lLst, wL, wCall, wChain, Vl.wAnd, Vl.wOr, Vl.wNot, wAndV, wOrV, wNotV, wIf, wNeg, wIsN, wIsa, wFn, wSl, oNo, oPt, lList, wRevL, wIxO, wEqE, gN, gsNil, gsCons, gT, iL, iT, iR1, iR2, iZp, iEn, wYes, wipeV, endV, startV, e_fII, e_addI, e_addT, e_addL, e_intI, e_intB, e_mulT, e_mulL, e_lenL, e_lenT, e_tupL, e_tupT, e_eqI, e_neI, e_eqB, e_neB, e_eqS, e_neS, e_ix0T, e_ix1T, e_ix2T, e_ix3T, e_ix4T, e_ix0L, e_ix1L, e_ix2L, List.length_cons, List.length_nil, List.replicate, List.cons_append, List.nil_append, List.getElem?_cons_zero, List.getElem?_cons_succ, List.set_cons_zero, List.set_cons_succ, Nat.reduceAdd, Nat.reduceSub, List.replicate_succ, List.replicate_zero, true_and, if_true, if_false, Bool.false_eq_true, reduceIte, Int.toNat_natCast, fGt, fLtI, fLe, fGe, wFn, startV_one, isIntStr, isTupList, Bool.not_true, Bool.not_false, k_isInt_none, k_isInt_bool, k_isInt_int, k_isInt_str, k_isInt_list, k_isInt_tuple, k_isInt_dict, k_isBool_none, k_isBool_bool, k_isBool_int, k_isBool_str, k_isBool_list, k_isBool_tuple, k_isBool_dict, k_isTuple_none, k_isTuple_bool, k_isTuple_int, k_isTuple_str, k_isTuple_list, k_isTuple_tuple, k_isTuple_dict, k_isList_none, k_isList_bool, k_isList_int, k_isList_str, k_isList_list, k_isList_tuple, k_isList_dict, k_isStr_none, k_isStr_bool, k_isStr_int, k_isStr_str, k_isStr_list, k_isStr_tuple, k_isStr_dict, lRg1, lRg2, lLc2, iEm, lSeq, lOf, lRet, lRetO, lDis, lIf, lFn, sApp, ← List.map_append, List.length_map, List.length_append]
              refine ⟨by show _ ≤ 16777216; omega, hN _ ⟨Sl.val (chgD y), s14, s15, ?_⟩⟩
              rw [List.flatMap_append, List.flatMap_singleton, List.append_assoc]
          · obtain ⟨s13, s14, s15, rfl⟩ := hI
            exact fin s13 s14 s15


end
end Law
namespace Law
open PySem PySem.Spec PyProof.Rows L2 Vl
section
variable {P : Program} {w : World} {K : PySem.W.Frag} {mg : Str → Option Value} {base : Heap}
def spSame (n : Nat) : VSp := fun as g R => ∃ d, as = [.val d, .val d] ∧ Sm n d ∧ R (.bool true) g
def spPrev : Nat → VSp
  | 0 => fun _ _ _ => False
  | n + 1 => spSame n
theorem same_step (B : Bi mg) (D : Df K mg "_law_same" s__law_same ["found", "due"]) {n : Nat} (C__law_same : Ck P w K mg base "_law_same" ["found", "due"] n (spPrev n)) : Ck P w K mg base "_law_same" ["found", "due"] (n + 1) (spSame n) := by
  refine ck_v D sc__law_same (fun as g R h => ?_) (fun f cdv A outer s H E hr => (vss_cons (vs_if (t_w (w_or (t_isN (vv 1)) (w_or1 (t_isN (vv 0))))) (vss_one (vs_ret (v_and (v_isN (vv 1)) (v_one (v_isN (vv 0)))))) vss_nil) (vss_cons (vs_if (t_w (w_or (t_val (v_isBool (by rfl) B.b_isinstance (by rfl) B.b_bool (vv 1))) (w_or1 (t_val (v_isBool (by rfl) B.b_isinstance (by rfl) B.b_bool (vv 0)))))) (vss_one (vs_ret (v_and (v_isBool (by rfl) B.b_isinstance (by rfl) B.b_bool (vv 1)) (v_and (v_isBool (by rfl) B.b_isinstance (by rfl) B.b_bool (vv 0)) (v_one (v_eq hr.units (vv 0) (vv 1))))))) vss_nil) (vss_cons (vs_if (t_val (v_isa2 kit_IntStr (by rfl) B.b_isinstance (by rfl) B.b_int (by decide +kernel) (by rfl) B.b_str (by decide +kernel) (vv 1))) (vss_cons (vs_if (t_ne hr.units (v_isInt (by rfl) B.b_isinstance (by rfl) B.b_int (vv 0)) (v_isInt (by rfl) B.b_isinstance (by rfl) B.b_int (vv 1))) (vss_one (vs_ret v_bl)) vss_nil) (vss_one (vs_ret (v_and (v_isa2 kit_IntStr (by rfl) B.b_isinstance (by rfl) B.b_int (by decide +kernel) (by rfl) B.b_str (by decide +kernel) (vv 0)) (v_one (v_eq hr.units (vv 0) (vv 1))))))) vss_nil) (vss_cons (vs_if (t_w (w_or (t_ne hr.units (v_isTuple (by rfl) B.b_isinstance (by rfl) B.b_tuple (vv 1)) (v_isTuple (by rfl) B.b_isinstance (by rfl) B.b_tuple (vv 0))) (w_or1 (t_ne hr.units (v_isList (by rfl) B.b_isinstance (by rfl) B.b_list (vv 1)) (v_isList (by rfl) B.b_isinstance (by rfl) B.b_list (vv 0)))))) (vss_one (vs_ret v_bl)) vss_nil) (vss_cons (vs_if (t_ne hr.units (v_len (by rfl) B.b_len (va_cons (vv 0) va_nil)) (v_len (by rfl) B.b_len (va_cons (vv 1) va_nil))) (vss_one (vs_ret v_bl)) vss_nil) (vss_one (vs_ret (v_ni hr.units v_bl (v_l (vl_lc rfl sc__law_same.nd (vi_zip (by rfl) B.b_zip (va_cons (vv 0) (va_cons (vv 1) va_nil))) (blkOk_by (own := [("one", 2), ("other", 3)]) (by show blkC ["found", "due", "one", "other"] (defScope s__law_same) _ _ = true; decide +kernel)) (fun _ _ _ _ _ => (vg_tupn (vgs_cons (vg_n 2 sc__law_same.nd) (vgs_cons (vg_n 3 sc__law_same.nd) vgs_nil)))) (fun _ _ _ _ _ => vts_nil) (fun _ _ _ _ _ => (v_callC C__law_same hr (by rfl) (vp_cons (vv 2) (vp_cons (vv 3) vp_nil))))))))))))))) (fun as g R h => ?_)
  · obtain ⟨d, rfl, _⟩ := h
    rfl
  · obtain ⟨d, rfl, hd, hR⟩ := h
    cases hd with
    | non =>
      simp only [sSeq, sIf, sSet, sOwn, sRet, sRetN, sNext, sDis, sSetIx, sApp, sAsg, sPar, sPar2O, sPar3, wB, wOp, wVar, wC, wNil, wCons, pNil, pCons, pPen, wTup, lLst, wL, wCall, wChain, Vl.wAnd, Vl.wOr, Vl.wNot, wAndV, wOrV, wNotV, wIf, wNeg, wIsN, wIsa, wFn, wSl, oNo, oPt, lList, wRevL, wIxO, wEqE, gN, gsNil, gsCons, gT, iL, iT, iR1, iR2, iZp, iEn, wYes, wipeV, endV, startV, e_fII, e_addI, e_addT, e_addL, e_intI, e_intB, e_mulT, e_mulL, e_lenL, e_lenT, e_tupL, e_tupT, e_eqI, e_neI, e_eqB, e_neB, e_eqS, e_neS, List.length_cons, List.length_nil, List.replicate, List.cons_append, List.nil_append, List.getElem?_cons_zero, List.getElem?_cons_succ, List.set_cons_zero, List.set_cons_succ, Nat.reduceAdd, Nat.reduceSub, List.replicate_succ, List.replicate_zero, true_and, if_true, if_false, Bool.false_eq_true, reduceIte, Int.toNat_natCast, wFn, startV_one, PyData.isInt, PyData.isBool, PyData.isTuple, PyData.isList, PyData.isStr, isIntStr, isTupList, Bool.not_true, Bool.not_false]
      exact ⟨g, Nat.le_refl _, hR⟩
    | bl _ b =>
      simp only [sSeq, sIf, sSet, sOwn, sRet, sRetN, sNext, sDis, sSetIx, sApp, sAsg, sPar, sPar2O, sPar3, wB, wOp, wVar, wC, wNil, wCons, pNil, pCons, pPen, wTup, lLst, wL, wCall, wChain, Vl.wAnd, Vl.wOr, Vl.wNot, wAndV, wOrV, wNotV, wIf, wNeg, wIsN, wIsa, wFn, wSl, oNo, oPt, lList, wRevL, wIxO, wEqE, gN, gsNil, gsCons, gT, iL, iT, iR1, iR2, iZp, iEn, wYes, wipeV, endV, startV, e_fII, e_addI, e_addT, e_addL, e_intI, e_intB, e_mulT, e_mulL, e_lenL, e_lenT, e_tupL, e_tupT, e_eqI, e_neI, e_eqB, e_neB, e_eqS, e_neS, List.length_cons, List.length_nil, List.replicate, List.cons_append, List.nil_append, List.getElem?_cons_zero, List.getElem?_cons_succ, List.set_cons_zero, List.set_cons_succ, Nat.reduceAdd, Nat.reduceSub, List.replicate_succ, List.replicate_zero, true_and, if_true, if_false, Bool.false_eq_true, reduceIte, Int.toNat_natCast, wFn, startV_one, PyData.isInt, PyData.isBool, PyData.isTuple, PyData.isList, PyData.isStr, isIntStr, isTupList, Bool.not_true, Bool.not_false, noX, beq_self_eq_true]
      exact ⟨g, Nat.le_refl _, hR⟩
    | int _ i =>
      simp only [sSeq, sIf, sSet, sOwn, sRet, sRetN, sNext, sDis, sSetIx, sApp, sAsg, sPar, sPar2O, sPar3, wB, wOp, wVar, wC, wNil, wCons, pNil, pCons, pPen, wTup, lLst, wL, wCall, wChain, Vl.wAnd, Vl.wOr, Vl.wNot, wAndV, wOrV, wNotV, wIf, wNeg, wIsN, wIsa, wFn, wSl, oNo, oPt, lList, wRevL, wIxO, wEqE, gN, gsNil, gsCons, gT, iL, iT, iR1, iR2, iZp, iEn, wYes, wipeV, endV, startV, e_fII, e_addI, e_addT, e_addL, e_intI, e_intB, e_mulT, e_mulL, e_lenL, e_lenT, e_tupL, e_tupT, e_eqI, e_neI, e_eqB, e_neB, e_eqS, e_neS, List.length_cons, List.length_nil, List.replicate, List.cons_append, List.nil_append, List.getElem?_cons_zero, List.getElem?_cons_succ, List.set_cons_zero, List.set_cons_succ, Nat.reduceAdd, Nat.reduceSub, List.replicate_succ, List.replicate_zero, true_and, if_true, if_false, Bool.false_eq_true, reduceIte, Int.toNat_natCast, wFn, startV_one, PyData.isInt, PyData.isBool, PyData.isTuple, PyData.isList, PyData.isStr, isIntStr, isTupList, Bool.not_true, Bool.not_false, noX, beq_self_eq_true]
      exact ⟨g, Nat.le_refl _, hR⟩
    | str _ x =>
      simp only [sSeq, sIf, sSet, sOwn, sRet, sRetN, sNext, sDis, sSetIx, sApp, sAsg, sPar, sPar2O, sPar3, wB, wOp, wVar, wC, wNil, wCons, pNil, pCons, pPen, wTup, lLst, wL, wCall, wChain, Vl.wAnd, Vl.wOr, Vl.wNot, wAndV, wOrV, wNotV, wIf, wNeg, wIsN, wIsa, wFn, wSl, oNo, oPt, lList, wRevL, wIxO, wEqE, gN, gsNil, gsCons, gT, iL, iT, iR1, iR2, iZp, iEn, wYes, wipeV, endV, startV, e_fII, e_addI, e_addT, e_addL, e_intI, e_intB, e_mulT, e_mulL, e_lenL, e_lenT, e_tupL, e_tupT, e_eqI, e_neI, e_eqB, e_neB, e_eqS, e_neS, List.length_cons, List.length_nil, List.replicate, List.cons_append, List.nil_append, List.getElem?_cons_zero, List.getElem?_cons_succ, List.set_cons_zero, List.set_cons_succ, Nat.reduceAdd, Nat.reduceSub, List.replicate_succ, List.replicate_zero, true_and, if_true, if_false, Bool.false_eq_true, reduceIte, Int.toNat_natCast, wFn, startV_one, PyData.isInt, PyData.isBool, PyData.isTuple, PyData.isList, PyData.isStr, isIntStr, isTupList, Bool.not_true, Bool.not_false, noX, beq_self_eq_true]
      exact ⟨g, Nat.le_refl _, hR⟩
    | @lst m xs hx hl =>
      have hn : noX (.list xs) = true := (Sm.lst hx hl).noX
      simp only [sSeq, sIf, sSet, sOwn, sRet, sRetN, sNext, sDis, sSetIx, sApp, sAsg, sPar, sPar2O, sPar3, wB, wOp, wVar, wC, wNil, wCons, pNil, pCons, pPen, wTup, lLst, wL, wCall, wChain, Vl.wAnd, Vl.wOr, Vl.wNot, wAndV, wOrV, wNotV, wIf, wNeg, wIsN, wIsa, wFn, wSl, oNo, oPt, lList, wRevL, wIxO, wEqE, gN, gsNil, gsCons, gT, iL, iT, iR1, iR2, iZp, iEn, wYes, wipeV, endV, startV, e_fII, e_addI, e_addT, e_addL, e_intI, e_intB, e_mulT, e_mulL, e_lenL, e_lenT, e_tupL, e_tupT, e_eqI, e_neI, e_eqB, e_neB, e_eqS, e_neS, List.length_cons, List.length_nil, List.replicate, List.cons_append, List.nil_append, List.getElem?_cons_zero, List.getElem?_cons_succ, List.set_cons_zero, List.set_cons_succ, Nat.reduceAdd, Nat.reduceSub, List.replicate_succ, List.replicate_zero, true_and, if_true, if_false, Bool.false_eq_true, reduceIte, Int.toNat_natCast, wFn, startV_one, PyData.isInt, PyData.isBool, PyData.isTuple, PyData.isList, PyData.isStr, isIntStr, isTupList, Bool.not_true, Bool.not_false, lLc, beq_self_eq_true, hn, zip_same, List.length_map]
      refine ⟨by show xs.length ≤ 16777216; omega, lc_pure (keep := fun _ => true) (f := fun _ => .bool true) xs [] (fun x hxm N acc hN => ?_) ?_⟩
      · simp only [sSeq, sIf, sSet, sOwn, sRet, sRetN, sNext, sDis, sSetIx, sApp, sAsg, sPar, sPar2O, sPar3, wB, wOp, wVar, wC, wNil, wCons, pNil, pCons, pPen, wTup, lLst, wL, wCall, wChain, Vl.wAnd, Vl.wOr, Vl.wNot, wAndV, wOrV, wNotV, wIf, wNeg, wIsN, wIsa, wFn, wSl, oNo, oPt, lList, wRevL, wIxO, wEqE, gN, gsNil, gsCons, gT, iL, iT, iR1, iR2, iZp, iEn, wYes, wipeV, endV, startV, e_fII, e_addI, e_addT, e_addL, e_intI, e_intB, e_mulT, e_mulL, e_lenL, e_lenT, e_tupL, e_tupT, e_eqI, e_neI, e_eqB, e_neB, e_eqS, e_neS, List.length_cons, List.length_nil, List.replicate, List.cons_append, List.nil_append, List.getElem?_cons_zero, List.getElem?_cons_succ, List.set_cons_zero, List.set_cons_succ, Nat.reduceAdd, Nat.reduceSub, List.replicate_succ, List.replicate_zero, true_and, if_true, if_false, Bool.false_eq_true, reduceIte, Int.toNat_natCast, wFn, startV_one, PyData.isInt, PyData.isBool, PyData.isTuple, PyData.isList, PyData.isStr, isIntStr, isTupList, Bool.not_true, Bool.not_false, List.map_cons, List.map_nil]
        exact ⟨x, rfl, hx x hxm, hN⟩
      · refine ⟨_, rfl, ⟨?_, rfl, ?_⟩, g, Nat.le_refl _, ?_⟩
        · rw [List.nil_append]
          exact plainAll_bools (f := fun _ => true) _
        · rw [List.nil_append, depthAll_bools (f := fun _ => true)]
          decide
        · have z : (([] ++ (xs.filter fun _ => true).map fun _ => PyData.bool true).any fun y => PyData.eqv y (.bool false)) = false := by
            rw [List.any_eq_false]
            intro y hy
            rw [List.nil_append] at hy
            obtain ⟨_, _, rfl⟩ := List.mem_map.mp hy
            simp only [PyData.eqv]
            decide
          rw [z]
          exact hR
    | @tup m xs hx hl =>
      have hn : noX (.tuple xs) = true := (Sm.tup hx hl).noX
      simp only [sSeq, sIf, sSet, sOwn, sRet, sRetN, sNext, sDis, sSetIx, sApp, sAsg, sPar, sPar2O, sPar3, wB, wOp, wVar, wC, wNil, wCons, pNil, pCons, pPen, wTup, lLst, wL, wCall, wChain, Vl.wAnd, Vl.wOr, Vl.wNot, wAndV, wOrV, wNotV, wIf, wNeg, wIsN, wIsa, wFn, wSl, oNo, oPt, lList, wRevL, wIxO, wEqE, gN, gsNil, gsCons, gT, iL, iT, iR1, iR2, iZp, iEn, wYes, wipeV, endV, startV, e_fII, e_addI, e_addT, e_addL, e_intI, e_intB, e_mulT, e_mulL, e_lenL, e_lenT, e_tupL, e_tupT, e_eqI, e_neI, e_eqB, e_neB, e_eqS, e_neS, List.length_cons, List.length_nil, List.replicate, List.cons_append, List.nil_append, List.getElem?_cons_zero, List.getElem?_cons_succ, List.set_cons_zero, List.set_cons_succ, Nat.reduceAdd, Nat.reduceSub, List.replicate_succ, List.replicate_zero, true_and, if_true, if_false, Bool.false_eq_true, reduceIte, Int.toNat_natCast, wFn, startV_one, PyData.isInt, PyData.isBool, PyData.isTuple, PyData.isList, PyData.isStr, isIntStr, isTupList, Bool.not_true, Bool.not_false, lLc, beq_self_eq_true, hn, zip_same, List.length_map]
      refine ⟨by show xs.length ≤ 16777216; omega, lc_pure (keep := fun _ => true) (f := fun _ => .bool true) xs [] (fun x hxm N acc hN => ?_) ?_⟩
      · simp only [sSeq, sIf, sSet, sOwn, sRet, sRetN, sNext, sDis, sSetIx, sApp, sAsg, sPar, sPar2O, sPar3, wB, wOp, wVar, wC, wNil, wCons, pNil, pCons, pPen, wTup, lLst, wL, wCall, wChain, Vl.wAnd, Vl.wOr, Vl.wNot, wAndV, wOrV, wNotV, wIf, wNeg, wIsN, wIsa, wFn, wSl, oNo, oPt, lList, wRevL, wIxO, wEqE, gN, gsNil, gsCons, gT, iL, iT, iR1, iR2, iZp, iEn, wYes, wipeV, endV, startV, e_fII, e_addI, e_addT, e_addL, e_intI, e_intB, e_mulT, e_mulL, e_lenL, e_lenT, e_tupL, e_tupT, e_eqI, e_neI, e_eqB, e_neB, e_eqS, e_neS, List.length_cons, List.length_nil, List.replicate, List.cons_append, List.nil_append, List.getElem?_cons_zero, List.getElem?_cons_succ, List.set_cons_zero, List.set_cons_succ, Nat.reduceAdd, Nat.reduceSub, List.replicate_succ, List.replicate_zero, true_and, if_true, if_false, Bool.false_eq_true, reduceIte, Int.toNat_natCast, wFn, startV_one, PyData.isInt, PyData.isBool, PyData.isTuple, PyData.isList, PyData.isStr, isIntStr, isTupList, Bool.not_true, Bool.not_false, List.map_cons, List.map_nil]
        exact ⟨x, rfl, hx x hxm, hN⟩
      · refine ⟨_, rfl, ⟨?_, rfl, ?_⟩, g, Nat.le_refl _, ?_⟩
        · rw [List.nil_append]
          exact plainAll_bools (f := fun _ => true) _
        · rw [List.nil_append, depthAll_bools (f := fun _ => true)]
          decide
        · have z : (([] ++ (xs.filter fun _ => true).map fun _ => PyData.bool true).any fun y => PyData.eqv y (.bool false)) = false := by
            rw [List.any_eq_false]
            intro y hy
            rw [List.nil_append] at hy
            obtain ⟨_, _, rfl⟩ := List.mem_map.mp hy
            simp only [PyData.eqv]
            decide
          rw [z]
          exact hR
theorem ok_same (B : Bi mg) (D : Df K mg "_law_same" s__law_same ["found", "due"]) : ∀ n, Ck P w K mg base "_law_same" ["found", "due"] (n + 1) (spSame n)
  | 0 => same_step B D (ck_no D)
  | n + 1 => same_step B D (ok_same B D n)
def spOneOf : VSp := fun as g R => ∃ xs : List PyData, as = [.pen, .val (.list xs)] ∧ (0 < xs.length ∧ xs.length < 1000000000) ∧ g < LIM ∧ ∀ d ∈ xs, R d (g + 1)
theorem ok_one_of (B : Bi mg) (C__law_take : Ck P w K mg base "_law_take" ["pen", "amount"] 2 spTake) (D : Df K mg "_law_one_of" s__law_one_of ["pen", "some"]) : Ck P w K mg base "_law_one_of" ["pen", "some"] 3 spOneOf := by
  refine ck_v D sc__law_one_of (fun as g R h => ?_) (fun f cdv A outer s H E hr => (vss_one (vs_ret (v_ix (vv 1) (v_callC C__law_take (hr.mono (by decide)) (by rfl) (vp_pen 0 (vp_cons (v_len (by rfl) B.b_len (va_cons (vv 1) va_nil)) vp_nil))))))) (fun as g R h => ?_)
  · obtain ⟨xs, rfl, _⟩ := h
    rfl
  · obtain ⟨xs, rfl, ⟨h0, h1⟩, hg, hR⟩ := h
    simp only [sSeq, sIf, sSet, sOwn, sRet, sRetN, sNext, sDis, sSetIx, sApp, sAsg, sPar, sPar2O, sPar3, wB, wOp, wVar, wC, wNil, wCons, pNil, pCons, pPen, wTup, lLst, wL, wCall, wChain, Vl.wAnd, Vl.wOr, Vl.wNot, wAndV, wOrV, wNotV, wIf, wNeg, wIsN, wIsa, wFn, wSl, oNo, oPt, lList, wRevL, wIxO, wEqE, gN, gsNil, gsCons, gT, iL, iT, iR1, iR2, iZp, iEn, wYes, wipeV, endV, startV, e_fII, e_addI, e_addT, e_addL, e_intI, e_intB, e_mulT, e_mulL, e_lenL, e_lenT, e_tupL, e_tupT, e_eqI, e_neI, e_eqB, e_neB, e_eqS, e_neS, List.length_cons, List.length_nil, List.replicate, List.cons_append, List.nil_append, List.getElem?_cons_zero, List.getElem?_cons_succ, List.set_cons_zero, List.set_cons_succ, Nat.reduceAdd, Nat.reduceSub, List.replicate_succ, List.replicate_zero, true_and, if_true, if_false, Bool.false_eq_true, reduceIte, Int.toNat_natCast, wFn, startV_one]
    refine ⟨xs.length, rfl, ⟨by omega, by omega⟩, hg, fun r r0 r1 => ?_⟩
    exact fIx_mem r0 r1 fun d hd => ⟨g + 1, Nat.le_refl _, hR d hd⟩
def odds : List PyData := [.none, .bool true, .bool false, .int 0, .int 1, .int (-1), .str "", .str "a", .tuple [], .list [], .dict [], .tuple [.int 0], .tuple [.int 0, .int 0], .list [.tuple []], .tuple [.tuple []], .int 99, .int (10 ^ Int.toNat 20)]
theorem rng_mem {i j : Int} {d : PyData} (h : d ∈ rangeD i j) : ∃ x, d = .int x ∧ i ≤ x ∧ x < j := by
  obtain ⟨k, hk, rfl⟩ := List.mem_map.mp h
  have := List.mem_range.mp hk
  exact ⟨_, rfl, by omega, by omega⟩
theorem rng_len {i j : Int} : (rangeD i j).length = (j - i).toNat := by simp [rangeD]
def PsOk (v k : Int) (ps : List (Int × Int)) : Prop := ∀ p ∈ ps, (0 ≤ p.1 ∧ p.1 < k) ∧ 0 ≤ p.2 ∧ p.2 < v
def spDt : VSp := fun as g R => ∃ v k : Int, as = [.pen, .val (.int v), .val (.int k)] ∧ (1 ≤ v ∧ v ≤ 3) ∧ (1 ≤ k ∧ k ≤ 2) ∧ g + 6 ≤ LIM ∧ ∀ ps, PsOk v k ps → ps.length ≤ 6 → R (.tuple (ps.map prD)) (g + 6)
theorem ok__law_draw_test (B : Bi mg) (C__law_take : Ck P w K mg base "_law_take" ["pen", "amount"] 2 spTake) (D : Df K mg "_law_draw_test" s__law_draw_test ["pen", "values", "kinds"]) : Ck P w K mg base "_law_draw_test" ["pen", "values", "kinds"] 3 spDt := by
  refine ck_v D sc__law_draw_test (fun as g R h => ?_) (fun f cdv A outer s H E hr => (vss_cons (vs_set 3 sc__law_draw_test.nd (v_lst va_nil)) (vss_cons (vs_for PassesOwn.never rfl (vi_range1 (by rfl) B.b_range (va_cons (vv 2) va_nil)) (vg_n 4 sc__law_draw_test.nd) (vss_one (vs_set 3 sc__law_draw_test.nd (v_add (vv 3) (v_l (vl_lc rfl sc__law_draw_test.nd (vi_range1 (by rfl) B.b_range (va_cons (vv 1) va_nil)) (blkOk_by (own := [("value", 5)]) (by show blkC ["pen", "values", "kinds", "found", "kind", "value"] (defScope s__law_draw_test) _ _ = true; decide +kernel)) (fun _ _ _ _ _ => (vg_n 5 sc__law_draw_test.nd)) (fun _ _ _ _ _ => (vts_one (t_gt (v_callC C__law_take (hr.mono (by decide)) (by rfl) (vp_pen 0 (vp_cons v_int vp_nil))) v_int))) (fun _ _ _ _ _ => (v_tup (va_cons (vv 4) (va_cons (vv 5) va_nil)))))))))) (vss_one (vs_ret (v_toTuple (by rfl) B.b_tuple (va_cons (vv 3) va_nil))))))) (fun as g R h => ?_)
  · obtain ⟨v, k, rfl, ⟨v0, v1⟩, ⟨k0, k1⟩, hg, hR⟩ := h
    rfl
  · obtain ⟨v, k, rfl, ⟨v0, v1⟩, ⟨k0, k1⟩, hg, hR⟩ := h
    have hg' : g + 6 ≤ 4000000000 := hg
    simp only [sSeq, sIf, sSet, sOwn, sRet, sRetN, sNext, sDis, sSetIx, sApp, sAsg, sPar, sPar2O, sPar3, wB, wOp, wVar, wC, wNil, wCons, pNil, pCons, pPen, wTup, lLst, wL, wCall, wChain, Vl.wAnd, Vl.wOr, Vl.wNot, wAndV, wOrV, wNotV, wIf, wNeg, wIsN, wIsa, wFn, wSl, oNo, oPt, lList, wRevL, wIxO, wEqE, gN, gsNil, gsCons, gT, iL, iT, iR1, iR2, iZp, iEn, wYes, wipeV, endV, startV, e_fII, e_addI, e_addT, e_addL, e_intI, e_intB, e_mulT, e_mulL, e_lenL, e_lenT, e_tupL, e_tupT, e_eqI, e_neI, e_eqB, e_neB, e_eqS, e_neS, e_ix0T, e_ix1T, e_ix2T, e_ix3T, e_ix4T, e_ix0L, e_ix1L, e_ix2L, List.length_cons, List.length_nil, List.replicate, List.cons_append, List.nil_append, List.getElem?_cons_zero, List.getElem?_cons_succ, List.set_cons_zero, List.set_cons_succ, Nat.reduceAdd, Nat.reduceSub, List.replicate_succ, List.replicate_zero, true_and, if_true, if_false, Bool.false_eq_true, reduceIte, Int.toNat_natCast, fGt, fLtI, fLe, fGe, wFn, startV_one, isIntStr, isTupList, Bool.not_true, Bool.not_false, k_isInt_none, k_isInt_bool, k_isInt_int, k_isInt_str, k_isInt_list, k_isInt_tuple, k_isInt_dict, k_isBool_none, k_isBool_bool, k_isBool_int, k_isBool_str, k_isBool_list, k_isBool_tuple, k_isBool_dict, k_isTuple_none, k_isTuple_bool, k_isTuple_int, k_isTuple_str, k_isTuple_list, k_isTuple_tuple, k_isTuple_dict, k_isList_none, k_isList_bool, k_isList_int, k_isList_str, k_isList_list, k_isList_tuple, k_isList_dict, k_isStr_none, k_isStr_bool, k_isStr_int, k_isStr_str, k_isStr_list, k_isStr_tuple, k_isStr_dict]
    refine ⟨by decide, ⟨by omega, by omega⟩, ?_⟩
    refine lp_mem (P := fun d => ∃ i, d = .int i ∧ 0 ≤ i ∧ i < k) (fun n ρ g' => ∃ (ps : List (Int × Int)) (s4 s5 : Sl), ρ = [.pen, .val (.int v), .val (.int k), .val (.list (ps.map prD)), s4, s5] ∧ PsOk v k ps ∧ ps.length + 3 * n ≤ 6 ∧ g' + 3 * n ≤ g + 6) ?_ ?_ _ _ _ (fun d hd => rng_mem hd) ⟨[], _, _, rfl, fun p h => (nomatch h), ?_, ?_⟩
    · rintro ρ g' ⟨ps, s4, s5, rfl, hps, hl, hg2⟩
      simp only [sSeq, sIf, sSet, sOwn, sRet, sRetN, sNext, sDis, sSetIx, sApp, sAsg, sPar, sPar2O, sPar3, wB, wOp, wVar, wC, wNil, wCons, pNil, pCons, pPen, wTup, lLst, wL, wCall, wChain, Vl.wAnd, Vl.wOr, Vl.wNot, wAndV, wOrV, wNotV, wIf, wNeg, wIsN, wIsa, wFn, wSl, oNo, oPt, lList, wRevL, wIxO, wEqE, gN, gsNil, gsCons, gT, iL, iT, iR1, iR2, iZp, iEn, wYes, wipeV, endV, startV, e_fII, e_addI, e_addT, e_addL, e_intI, e_intB, e_mulT, e_mulL, e_lenL, e_lenT, e_tupL, e_tupT, e_eqI, e_neI, e_eqB, e_neB, e_eqS, e_neS, e_ix0T, e_ix1T, e_ix2T, e_ix3T, e_ix4T, e_ix0L, e_ix1L, e_ix2L, List.length_cons, List.length_nil, List.replicate, List.cons_append, List.nil_append, List.getElem?_cons_zero, List.getElem?_cons_succ, List.set_cons_zero, List.set_cons_succ, Nat.reduceAdd, Nat.reduceSub, List.replicate_succ, List.replicate_zero, true_and, if_true, if_false, Bool.false_eq_true, reduceIte, Int.toNat_natCast, fGt, fLtI, fLe, fGe, wFn, startV_one, isIntStr, isTupList, Bool.not_true, Bool.not_false, k_isInt_none, k_isInt_bool, k_isInt_int, k_isInt_str, k_isInt_list, k_isInt_tuple, k_isInt_dict, k_isBool_none, k_isBool_bool, k_isBool_int, k_isBool_str, k_isBool_list, k_isBool_tuple, k_isBool_dict, k_isTuple_none, k_isTuple_bool, k_isTuple_int, k_isTuple_str, k_isTuple_list, k_isTuple_tuple, k_isTuple_dict, k_isList_none, k_isList_bool, k_isList_int, k_isList_str, k_isList_list, k_isList_tuple, k_isList_dict, k_isStr_none, k_isStr_bool, k_isStr_int, k_isStr_str, k_isStr_list, k_isStr_tuple, k_isStr_dict]
      exact ⟨g + 6, by omega, hR ps hps (by omega)⟩
    · rintro d n ρ g' N ⟨i, rfl, i0, i1⟩ ⟨ps, s4, s5, rfl, hps, hl, hg2⟩ hN
      simp only [sSeq, sIf, sSet, sOwn, sRet, sRetN, sNext, sDis, sSetIx, sApp, sAsg, sPar, sPar2O, sPar3, wB, wOp, wVar, wC, wNil, wCons, pNil, pCons, pPen, wTup, lLst, wL, wCall, wChain, Vl.wAnd, Vl.wOr, Vl.wNot, wAndV, wOrV, wNotV, wIf, wNeg, wIsN, wIsa, wFn, wSl, oNo, oPt, lList, wRevL, wIxO, wEqE, gN, gsNil, gsCons, gT, iL, iT, iR1, iR2, iZp, iEn, wYes, wipeV, endV, startV, e_fII, e_addI, e_addT, e_addL, e_intI, e_intB, e_mulT, e_mulL, e_lenL, e_lenT, e_tupL, e_tupT, e_eqI, e_neI, e_eqB, e_neB, e_eqS, e_neS, e_ix0T, e_ix1T, e_ix2T, e_ix3T, e_ix4T, e_ix0L, e_ix1L, e_ix2L, List.length_cons, List.length_nil, List.replicate, List.cons_append, List.nil_append, List.getElem?_cons_zero, List.getElem?_cons_succ, List.set_cons_zero, List.set_cons_succ, Nat.reduceAdd, Nat.reduceSub, List.replicate_succ, List.replicate_zero, true_and, if_true, if_false, Bool.false_eq_true, reduceIte, Int.toNat_natCast, fGt, fLtI, fLe, fGe, wFn, startV_one, isIntStr, isTupList, Bool.not_true, Bool.not_false, k_isInt_none, k_isInt_bool, k_isInt_int, k_isInt_str, k_isInt_list, k_isInt_tuple, k_isInt_dict, k_isBool_none, k_isBool_bool, k_isBool_int, k_isBool_str, k_isBool_list, k_isBool_tuple, k_isBool_dict, k_isTuple_none, k_isTuple_bool, k_isTuple_int, k_isTuple_str, k_isTuple_list, k_isTuple_tuple, k_isTuple_dict, k_isList_none, k_isList_bool, k_isList_int, k_isList_str, k_isList_list, k_isList_tuple, k_isList_dict, k_isStr_none, k_isStr_bool, k_isStr_int, k_isStr_str, k_isStr_list, k_isStr_tuple, k_isStr_dict, lLc, List.map_cons, List.map_nil]
      refine ⟨⟨by omega, by omega⟩, ?_, ?_⟩
      · rw [rng_len]
        show _ ≤ 16777216
        omega
      refine lc_inv (P := fun d => ∃ x, d = .int x ∧ 0 ≤ x ∧ x < v) (fun m acc g2 => ∃ qs : List (Int × Int), acc = qs.map prD ∧ PsOk v k qs ∧ qs.length + m ≤ 3 ∧ g2 + m ≤ g' + 3) ?_ ?_ _ _ _ (fun d hd => rng_mem hd) ⟨[], rfl, fun p h => (nomatch h), ?_, ?_⟩
      · rintro acc g2 ⟨qs, rfl, hqs, hl2, hg3⟩
        simp only [sSeq, sIf, sSet, sOwn, sRet, sRetN, sNext, sDis, sSetIx, sApp, sAsg, sPar, sPar2O, sPar3, wB, wOp, wVar, wC, wNil, wCons, pNil, pCons, pPen, wTup, lLst, wL, wCall, wChain, Vl.wAnd, Vl.wOr, Vl.wNot, wAndV, wOrV, wNotV, wIf, wNeg, wIsN, wIsa, wFn, wSl, oNo, oPt, lList, wRevL, wIxO, wEqE, gN, gsNil, gsCons, gT, iL, iT, iR1, iR2, iZp, iEn, wYes, wipeV, endV, startV, e_fII, e_addI, e_addT, e_addL, e_intI, e_intB, e_mulT, e_mulL, e_lenL, e_lenT, e_tupL, e_tupT, e_eqI, e_neI, e_eqB, e_neB, e_eqS, e_neS, e_ix0T, e_ix1T, e_ix2T, e_ix3T, e_ix4T, e_ix0L, e_ix1L, e_ix2L, List.length_cons, List.length_nil, List.replicate, List.cons_append, List.nil_append, List.getElem?_cons_zero, List.getElem?_cons_succ, List.set_cons_zero, List.set_cons_succ, Nat.reduceAdd, Nat.reduceSub, List.replicate_succ, List.replicate_zero, true_and, if_true, if_false, Bool.false_eq_true, reduceIte, Int.toNat_natCast, fGt, fLtI, fLe, fGe, wFn, startV_one, isIntStr, isTupList, Bool.not_true, Bool.not_false, k_isInt_none, k_isInt_bool, k_isInt_int, k_isInt_str, k_isInt_list, k_isInt_tuple, k_isInt_dict, k_isBool_none, k_isBool_bool, k_isBool_int, k_isBool_str, k_isBool_list, k_isBool_tuple, k_isBool_dict, k_isTuple_none, k_isTuple_bool, k_isTuple_int, k_isTuple_str, k_isTuple_list, k_isTuple_tuple, k_isTuple_dict, k_isList_none, k_isList_bool, k_isList_int, k_isList_str, k_isList_list, k_isList_tuple, k_isList_dict, k_isStr_none, k_isStr_bool, k_isStr_int, k_isStr_str, k_isStr_list, k_isStr_tuple, k_isStr_dict, ← List.map_append]
        refine ⟨?_, hN _ _ ⟨ps ++ qs, _, _, rfl, fun p hp => ?_, ?_, ?_⟩⟩
        · rw [List.length_map, List.length_map]
          show _ ≤ 16777216
          omega
        · rcases List.mem_append.mp hp with h | h
          · exact hps p h
          · exact hqs p h
        · rw [List.length_append]
          omega
        · omega
      · rintro d m acc g2 N2 ⟨x, rfl, x0, x1⟩ ⟨qs, rfl, hqs, hl2, hg3⟩ hN2
        simp only [sSeq, sIf, sSet, sOwn, sRet, sRetN, sNext, sDis, sSetIx, sApp, sAsg, sPar, sPar2O, sPar3, wB, wOp, wVar, wC, wNil, wCons, pNil, pCons, pPen, wTup, lLst, wL, wCall, wChain, Vl.wAnd, Vl.wOr, Vl.wNot, wAndV, wOrV, wNotV, wIf, wNeg, wIsN, wIsa, wFn, wSl, oNo, oPt, lList, wRevL, wIxO, wEqE, gN, gsNil, gsCons, gT, iL, iT, iR1, iR2, iZp, iEn, wYes, wipeV, endV, startV, e_fII, e_addI, e_addT, e_addL, e_intI, e_intB, e_mulT, e_mulL, e_lenL, e_lenT, e_tupL, e_tupT, e_eqI, e_neI, e_eqB, e_neB, e_eqS, e_neS, e_ix0T, e_ix1T, e_ix2T, e_ix3T, e_ix4T, e_ix0L, e_ix1L, e_ix2L, List.length_cons, List.length_nil, List.replicate, List.cons_append, List.nil_append, List.getElem?_cons_zero, List.getElem?_cons_succ, List.set_cons_zero, List.set_cons_succ, Nat.reduceAdd, Nat.reduceSub, List.replicate_succ, List.replicate_zero, true_and, if_true, if_false, Bool.false_eq_true, reduceIte, Int.toNat_natCast, fGt, fLtI, fLe, fGe, wFn, startV_one, isIntStr, isTupList, Bool.not_true, Bool.not_false, k_isInt_none, k_isInt_bool, k_isInt_int, k_isInt_str, k_isInt_list, k_isInt_tuple, k_isInt_dict, k_isBool_none, k_isBool_bool, k_isBool_int, k_isBool_str, k_isBool_list, k_isBool_tuple, k_isBool_dict, k_isTuple_none, k_isTuple_bool, k_isTuple_int, k_isTuple_str, k_isTuple_list, k_isTuple_tuple, k_isTuple_dict, k_isList_none, k_isList_bool, k_isList_int, k_isList_str, k_isList_list, k_isList_tuple, k_isList_dict, k_isStr_none, k_isStr_bool, k_isStr_int, k_isStr_str, k_isStr_list, k_isStr_tuple, k_isStr_dict]
        refine ⟨5, rfl, ⟨by decide, by decide⟩, by show g2 < 4000000000; omega, fun r r0 r1 => ?_⟩
        simp only [sSeq, sIf, sSet, sOwn, sRet, sRetN, sNext, sDis, sSetIx, sApp, sAsg, sPar, sPar2O, sPar3, wB, wOp, wVar, wC, wNil, wCons, pNil, pCons, pPen, wTup, lLst, wL, wCall, wChain, Vl.wAnd, Vl.wOr, Vl.wNot, wAndV, wOrV, wNotV, wIf, wNeg, wIsN, wIsa, wFn, wSl, oNo, oPt, lList, wRevL, wIxO, wEqE, gN, gsNil, gsCons, gT, iL, iT, iR1, iR2, iZp, iEn, wYes, wipeV, endV, startV, e_fII, e_addI, e_addT, e_addL, e_intI, e_intB, e_mulT, e_mulL, e_lenL, e_lenT, e_tupL, e_tupT, e_eqI, e_neI, e_eqB, e_neB, e_eqS, e_neS, e_ix0T, e_ix1T, e_ix2T, e_ix3T, e_ix4T, e_ix0L, e_ix1L, e_ix2L, List.length_cons, List.length_nil, List.replicate, List.cons_append, List.nil_append, List.getElem?_cons_zero, List.getElem?_cons_succ, List.set_cons_zero, List.set_cons_succ, Nat.reduceAdd, Nat.reduceSub, List.replicate_succ, List.replicate_zero, true_and, if_true, if_false, Bool.false_eq_true, reduceIte, Int.toNat_natCast, fGt, fLtI, fLe, fGe, wFn, startV_one, isIntStr, isTupList, Bool.not_true, Bool.not_false, k_isInt_none, k_isInt_bool, k_isInt_int, k_isInt_str, k_isInt_list, k_isInt_tuple, k_isInt_dict, k_isBool_none, k_isBool_bool, k_isBool_int, k_isBool_str, k_isBool_list, k_isBool_tuple, k_isBool_dict, k_isTuple_none, k_isTuple_bool, k_isTuple_int, k_isTuple_str, k_isTuple_list, k_isTuple_tuple, k_isTuple_dict, k_isList_none, k_isList_bool, k_isList_int, k_isList_str, k_isList_list, k_isList_tuple, k_isList_dict, k_isStr_none, k_isStr_bool, k_isStr_int, k_isStr_str, k_isStr_list, k_isStr_tuple, k_isStr_dict]
        by_cases h1 : 1 < r
        · rw [if_pos (decide_eq_true h1)]
          refine ⟨by decide, hN2 _ _ ⟨qs ++ [(i, x)], ?_, fun p hp => ?_, ?_, ?_⟩⟩
          · rw [List.map_append]
            rfl
          · rcases List.mem_append.mp hp with h | h
            · exact hqs p h
            · obtain rfl : p = (i, x) := by simpa using h
              exact ⟨⟨i0, i1⟩, x0, x1⟩
          · rw [List.length_append, List.length_singleton]
            omega
          · omega
        · rw [if_neg (by rw [decide_eq_false h1]; exact Bool.false_ne_true)]
          exact hN2 _ _ ⟨qs, rfl, hqs, by omega, by omega⟩
      · rw [rng_len, List.length_nil]
        omega
      · rw [rng_len]
        omega
    · rw [rng_len, List.length_nil]
      omega
    · rw [rng_len]
      omega

def shD (s : Int × Int × Int) : PyData := .tuple [.int s.1, .int s.2.1, .int s.2.2]
def spDc : VSp := fun as g R => ∃ shs : List (Int × Int × Int), as = [.pen, .val (.list (shs.map shD))] ∧ (0 < shs.length ∧ shs.length < 100) ∧ (∀ s ∈ shs, (1 ≤ s.1 ∧ s.1 ≤ 3) ∧ (1 ≤ s.2.1 ∧ s.2.1 ≤ 3) ∧ 1 ≤ s.2.2 ∧ s.2.2 ≤ 2) ∧ g + 8 ≤ LIM ∧
  ∀ n v k ps j, CaseOk n v k ps → R (caseD n v k ps j) (g + 8)
theorem ok__law_draw_case (B : Bi mg) (C__law_take : Ck P w K mg base "_law_take" ["pen", "amount"] 2 spTake) (C__law_one_of : Ck P w K mg base "_law_one_of" ["pen", "some"] 3 spOneOf) (C__law_draw_test : Ck P w K mg base "_law_draw_test" ["pen", "values", "kinds"] 3 spDt) (D : Df K mg "_law_draw_case" s__law_draw_case ["pen", "shapes"]) : Ck P w K mg base "_law_draw_case" ["pen", "shapes"] 4 spDc := by
  refine ck_v D sc__law_draw_case (fun as g R h => ?_) (fun f cdv A outer s H E hr => (vss_cons (vs_asg (v_callC C__law_one_of (hr.mono (by decide)) (by rfl) (vp_pen 0 (vp_cons (vv 1) vp_nil))) (vg_tupn (vgs_cons (vg_n 2 sc__law_draw_case.nd) (vgs_cons (vg_n 3 sc__law_draw_case.nd) (vgs_cons (vg_n 4 sc__law_draw_case.nd) vgs_nil))))) (vss_one (vs_ret (v_tup (va_cons (vv 2) (va_cons (vv 3) (va_cons (vv 4) (va_cons (v_callC C__law_draw_test (hr.mono (by decide)) (by rfl) (vp_pen 0 (vp_cons (vv 3) (vp_cons (vv 4) vp_nil)))) (va_cons (v_eq hr.units (v_callC C__law_take (hr.mono (by decide)) (by rfl) (vp_pen 0 (vp_cons v_int vp_nil))) v_int) va_nil)))))))))) (fun as g R h => ?_)
  · obtain ⟨shs, rfl, ⟨h0, h1⟩, hs, hg, hR⟩ := h
    rfl
  · obtain ⟨shs, rfl, ⟨h0, h1⟩, hs, hg, hR⟩ := h
    have hg' : g + 8 ≤ 4000000000 := hg
    simp only [sSeq, sIf, sSet, sOwn, sRet, sRetN, sNext, sDis, sSetIx, sApp, sAsg, sPar, sPar2O, sPar3, wB, wOp, wVar, wC, wNil, wCons, pNil, pCons, pPen, wTup, lLst, wL, wCall, wChain, Vl.wAnd, Vl.wOr, Vl.wNot, wAndV, wOrV, wNotV, wIf, wNeg, wIsN, wIsa, wFn, wSl, oNo, oPt, lList, wRevL, wIxO, wEqE, gN, gsNil, gsCons, gT, iL, iT, iR1, iR2, iZp, iEn, wYes, wipeV, endV, startV, e_fII, e_addI, e_addT, e_addL, e_intI, e_intB, e_mulT, e_mulL, e_lenL, e_lenT, e_tupL, e_tupT, e_eqI, e_neI, e_eqB, e_neB, e_eqS, e_neS, e_ix0T, e_ix1T, e_ix2T, e_ix3T, e_ix4T, e_ix0L, e_ix1L, e_ix2L, List.length_cons, List.length_nil, List.replicate, List.cons_append, List.nil_append, List.getElem?_cons_zero, List.getElem?_cons_succ, List.set_cons_zero, List.set_cons_succ, Nat.reduceAdd, Nat.reduceSub, List.replicate_succ, List.replicate_zero, true_and, if_true, if_false, Bool.false_eq_true, reduceIte, Int.toNat_natCast, fGt, fLtI, fLe, fGe, wFn, startV_one, isIntStr, isTupList, Bool.not_true, Bool.not_false, k_isInt_none, k_isInt_bool, k_isInt_int, k_isInt_str, k_isInt_list, k_isInt_tuple, k_isInt_dict, k_isBool_none, k_isBool_bool, k_isBool_int, k_isBool_str, k_isBool_list, k_isBool_tuple, k_isBool_dict, k_isTuple_none, k_isTuple_bool, k_isTuple_int, k_isTuple_str, k_isTuple_list, k_isTuple_tuple, k_isTuple_dict, k_isList_none, k_isList_bool, k_isList_int, k_isList_str, k_isList_list, k_isList_tuple, k_isList_dict, k_isStr_none, k_isStr_bool, k_isStr_int, k_isStr_str, k_isStr_list, k_isStr_tuple, k_isStr_dict]
    refine ⟨_, rfl, ⟨by rw [List.length_map]; omega, by rw [List.length_map]; omega⟩, by show g < 4000000000; omega, fun d hd => ?_⟩
    obtain ⟨⟨n, v, k⟩, hsm, rfl⟩ := List.mem_map.mp hd
    obtain ⟨⟨n0, n1⟩, ⟨v0, v1⟩, k0, k1⟩ := hs _ hsm
    simp only [shD, sSeq, sIf, sSet, sOwn, sRet, sRetN, sNext, sDis, sSetIx, sApp, sAsg, sPar, sPar2O, sPar3, wB, wOp, wVar, wC, wNil, wCons, pNil, pCons, pPen, wTup, lLst, wL, wCall, wChain, Vl.wAnd, Vl.wOr, Vl.wNot, wAndV, wOrV, wNotV, wIf, wNeg, wIsN, wIsa, wFn, wSl, oNo, oPt, lList, wRevL, wIxO, wEqE, gN, gsNil, gsCons, gT, iL, iT, iR1, iR2, iZp, iEn, wYes, wipeV, endV, startV, e_fII, e_addI, e_addT, e_addL, e_intI, e_intB, e_mulT, e_mulL, e_lenL, e_lenT, e_tupL, e_tupT, e_eqI, e_neI, e_eqB, e_neB, e_eqS, e_neS, e_ix0T, e_ix1T, e_ix2T, e_ix3T, e_ix4T, e_ix0L, e_ix1L, e_ix2L, List.length_cons, List.length_nil, List.replicate, List.cons_append, List.nil_append, List.getElem?_cons_zero, List.getElem?_cons_succ, List.set_cons_zero, List.set_cons_succ, Nat.reduceAdd, Nat.reduceSub, List.replicate_succ, List.replicate_zero, true_and, if_true, if_false, Bool.false_eq_true, reduceIte, Int.toNat_natCast, fGt, fLtI, fLe, fGe, wFn, startV_one, isIntStr, isTupList, Bool.not_true, Bool.not_false, k_isInt_none, k_isInt_bool, k_isInt_int, k_isInt_str, k_isInt_list, k_isInt_tuple, k_isInt_dict, k_isBool_none, k_isBool_bool, k_isBool_int, k_isBool_str, k_isBool_list, k_isBool_tuple, k_isBool_dict, k_isTuple_none, k_isTuple_bool, k_isTuple_int, k_isTuple_str, k_isTuple_list, k_isTuple_tuple, k_isTuple_dict, k_isList_none, k_isList_bool, k_isList_int, k_isList_str, k_isList_list, k_isList_tuple, k_isList_dict, k_isStr_none, k_isStr_bool, k_isStr_int, k_isStr_str, k_isStr_list, k_isStr_tuple, k_isStr_dict]
    refine ⟨v, k, rfl, ⟨v0, v1⟩, ⟨k0, k1⟩, by show g + 1 + 6 ≤ 4000000000; omega, fun ps hps hl => ?_⟩
    refine ⟨3, rfl, ⟨by decide, by decide⟩, by show g + 1 + 6 < 4000000000; omega, fun r r0 r1 => ?_⟩
    simp only [sSeq, sIf, sSet, sOwn, sRet, sRetN, sNext, sDis, sSetIx, sApp, sAsg, sPar, sPar2O, sPar3, wB, wOp, wVar, wC, wNil, wCons, pNil, pCons, pPen, wTup, lLst, wL, wCall, wChain, Vl.wAnd, Vl.wOr, Vl.wNot, wAndV, wOrV, wNotV, wIf, wNeg, wIsN, wIsa, wFn, wSl, oNo, oPt, lList, wRevL, wIxO, wEqE, gN, gsNil, gsCons, gT, iL, iT, iR1, iR2, iZp, iEn, wYes, wipeV, endV, startV, e_fII, e_addI, e_addT, e_addL, e_intI, e_intB, e_mulT, e_mulL, e_lenL, e_lenT, e_tupL, e_tupT, e_eqI, e_neI, e_eqB, e_neB, e_eqS, e_neS, e_ix0T, e_ix1T, e_ix2T, e_ix3T, e_ix4T, e_ix0L, e_ix1L, e_ix2L, List.length_cons, List.length_nil, List.replicate, List.cons_append, List.nil_append, List.getElem?_cons_zero, List.getElem?_cons_succ, List.set_cons_zero, List.set_cons_succ, Nat.reduceAdd, Nat.reduceSub, List.replicate_succ, List.replicate_zero, true_and, if_true, if_false, Bool.false_eq_true, reduceIte, Int.toNat_natCast, fGt, fLtI, fLe, fGe, wFn, startV_one, isIntStr, isTupList, Bool.not_true, Bool.not_false, k_isInt_none, k_isInt_bool, k_isInt_int, k_isInt_str, k_isInt_list, k_isInt_tuple, k_isInt_dict, k_isBool_none, k_isBool_bool, k_isBool_int, k_isBool_str, k_isBool_list, k_isBool_tuple, k_isBool_dict, k_isTuple_none, k_isTuple_bool, k_isTuple_int, k_isTuple_str, k_isTuple_list, k_isTuple_tuple, k_isTuple_dict, k_isList_none, k_isList_bool, k_isList_int, k_isList_str, k_isList_list, k_isList_tuple, k_isList_dict, k_isStr_none, k_isStr_bool, k_isStr_int, k_isStr_str, k_isStr_list, k_isStr_tuple, k_isStr_dict]
    exact ⟨by decide, g + 8, by omega, hR n v k ps (r == 0) ⟨n0, n1, v0, v1, k0, k1, hps, hl⟩⟩

def spVp : VSp := fun as g R => ∃ (n v k : Int) (ps : List (Int × Int)) (j : Bool) (x : Int), as = [.val (caseD n v k ps j), .val (.int x)] ∧ ps.length ≤ 6 ∧ R (.bool (vpB ps x)) g
def spPp : VSp := fun as g R => ∃ (n v k : Int) (ps : List (Int × Int)) (j : Bool) (x y : Int), as = [.val (caseD n v k ps j), .val (.int x), .val (.int y)] ∧ ps.length ≤ 6 ∧ R (.bool (ppB ps (x, y))) g
def cpB (ps : List (Int × Int)) (xs : List Int) (c : Option (Int × Int)) : Bool := match c with
  | none => false
  | some q => ppB ps (q.1, xs.getD q.2.toNat 0)
def spCok : VSp := fun as g R => ∃ (n v k : Int) (ps : List (Int × Int)) (j : Bool) (xs : List Int) (c : Option (Int × Int)), as = [.val (caseD n v k ps j), .val (.tuple (xs.map .int)), .val (chD c)] ∧ CaseOk n v k ps ∧ SrcOk n v k xs c ∧ R (.bool (cpB ps xs c)) g
def spCp : VSp := fun as g R => ∃ (n v k : Int) (ps : List (Int × Int)) (j : Bool) (xs : List Int) (c : Option (Int × Int)), as = [.val (caseD n v k ps j), .val (srcD xs c)] ∧ CaseOk n v k ps ∧ SrcOk n v k xs c ∧ R (.bool (cpB ps xs c)) g
def wishD (ps : List (Int × Int)) (xs : List Int) (c : Option (Int × Int)) : PyData := srcD (xs.map fun x => if vpB ps x = true then x else -1) (if cpB ps xs c = true then c else none)
def spWi : VSp := fun as g R => ∃ (n v k : Int) (ps : List (Int × Int)) (j : Bool) (xs : List Int) (c : Option (Int × Int)), as = [.val (caseD n v k ps j), .val (srcD xs c)] ∧ CaseOk n v k ps ∧ SrcOk n v k xs c ∧ R (wishD ps xs c) g
theorem ne_00 {R : PyData → Prop} (h : R (.bool false)) : fNe (.tuple []) (.tuple []) R := ⟨⟨rfl, rfl, by decide⟩, by rw [show PyData.eqv (.tuple []) (.tuple []) = true by decide]; exact h⟩
theorem ne_pr0 {x y : Int} {R : PyData → Prop} (h : R (.bool true)) : fNe (.tuple [.int x, .int y]) (.tuple []) R :=
  ⟨⟨plain_pr (p := (x, y)), rfl, by show min (PyData.depth (prD (x, y))) _ ≤ 60; rw [depth_pr]; omega⟩, by rw [show PyData.eqv (.tuple [.int x, .int y]) (.tuple []) = false by simp only [PyData.eqv, PyData.eqvAll]]; exact h⟩
theorem boolsD_map {α : Type} {f : α → Bool} : ∀ xs : List α, boolsD (xs.map fun x => .bool (f x)) = some (xs.map f)
  | [] => rfl
  | x :: xs => by
    simp only [List.map_cons, boolsD, boolsD_map xs]
    rfl
theorem ok_value_passes (B : Bi mg)  (D : Df K mg "value_passes" s_value_passes ["case", "value"]) : Ck P w K mg base "value_passes" ["case", "value"] 1 spVp := by
  refine ck_v D sc_value_passes (fun as g R h => ?_) (fun f cdv A outer s H E hr => (vss_one (vs_ret (v_any rfl (by rfl) B.b_any (va_cons (v_l (vl_lc rfl sc_value_passes.nd (vi_tup (v_ix (vv 0) v_int)) (blkOk_by (own := [("pair", 2)]) (by show blkC ["case", "value", "pair"] (defScope s_value_passes) _ _ = true; decide +kernel)) (fun _ _ _ _ _ => (vg_n 2 sc_value_passes.nd)) (fun _ _ _ _ _ => vts_nil) (fun _ _ _ _ _ => (v_eq hr.units (v_ix (vv 2) v_int) (vv 1))))) va_nil))))) (fun as g R h => ?_)
  · obtain ⟨n, v, k, ps, j, x, rfl, hl, hR⟩ := h
    rfl
  · obtain ⟨n, v, k, ps, j, x, rfl, hl, hR⟩ := h
    simp only [sSeq, sIf, sSet, sOwn, sRet, sRetN, sNext, sDis, sSetIx, sApp, sAsg, sPar, sPar2O, sPar3, wB, wOp, wVar, wC, wNil, wCons, pNil, pCons, pPen, wTup, lLst, wL, wCall, wChain, Vl.wAnd, Vl.wOr, Vl.wNot, wAndV, wOrV, wNotV, wIf, wNeg, wIsN, wIsa, wFn, wSl, oNo, oPt, lList, wRevL, wIxO, wEqE, gN, gsNil, gsCons, gT, iL, iT, iR1, iR2, iZp, iEn, wYes, wipeV, endV, startV, e_fII, e_addI, e_addT, e_addL, e_intI, e_intB, e_mulT, e_mulL, e_lenL, e_lenT, e_tupL, e_tupT, e_eqI, e_neI, e_eqB, e_neB, e_eqS, e_neS, e_ix0T, e_ix1T, e_ix2T, e_ix3T, e_ix4T, e_ix0L, e_ix1L, e_ix2L, List.length_cons, List.length_nil, List.replicate, List.cons_append, List.nil_append, List.getElem?_cons_zero, List.getElem?_cons_succ, List.set_cons_zero, List.set_cons_succ, Nat.reduceAdd, Nat.reduceSub, List.replicate_succ, List.replicate_zero, true_and, if_true, if_false, Bool.false_eq_true, reduceIte, Int.toNat_natCast, wFn, startV_one, PyData.isInt, PyData.isBool, PyData.isTuple, PyData.isList, PyData.isStr, isIntStr, isTupList, Bool.not_true, Bool.not_false, caseD, lLc, List.length_map]
    refine ⟨by show ps.length ≤ 16777216; omega, lc_pure (enc := prD) (keep := fun _ => true) (f := fun p => .bool (p.2 == x)) ps [] (fun p hp N acc hN => ?_) ?_⟩
    · simp only [sSeq, sIf, sSet, sOwn, sRet, sRetN, sNext, sDis, sSetIx, sApp, sAsg, sPar, sPar2O, sPar3, wB, wOp, wVar, wC, wNil, wCons, pNil, pCons, pPen, wTup, lLst, wL, wCall, wChain, Vl.wAnd, Vl.wOr, Vl.wNot, wAndV, wOrV, wNotV, wIf, wNeg, wIsN, wIsa, wFn, wSl, oNo, oPt, lList, wRevL, wIxO, wEqE, gN, gsNil, gsCons, gT, iL, iT, iR1, iR2, iZp, iEn, wYes, wipeV, endV, startV, e_fII, e_addI, e_addT, e_addL, e_intI, e_intB, e_mulT, e_mulL, e_lenL, e_lenT, e_tupL, e_tupT, e_eqI, e_neI, e_eqB, e_neB, e_eqS, e_neS, e_ix0T, e_ix1T, e_ix2T, e_ix3T, e_ix4T, e_ix0L, e_ix1L, e_ix2L, List.length_cons, List.length_nil, List.replicate, List.cons_append, List.nil_append, List.getElem?_cons_zero, List.getElem?_cons_succ, List.set_cons_zero, List.set_cons_succ, Nat.reduceAdd, Nat.reduceSub, List.replicate_succ, List.replicate_zero, true_and, if_true, if_false, Bool.false_eq_true, reduceIte, Int.toNat_natCast, wFn, startV_one, PyData.isInt, PyData.isBool, PyData.isTuple, PyData.isList, PyData.isStr, isIntStr, isTupList, Bool.not_true, Bool.not_false, prD, List.map_cons, List.map_nil]
      exact hN
    · refine ⟨_, ps.map fun p => p.2 == x, rfl, ?_, g, Nat.le_refl _, ?_⟩
      · rw [List.nil_append, show ps.filter (fun _ => true) = ps from List.filter_eq_self.mpr fun _ _ => rfl]
        exact boolsD_map ps
      · rw [if_pos rfl, List.any_map]
        exact hR

theorem ok__law_value_ok (B : Bi mg)  (D : Df K mg "_law_value_ok" s__law_value_ok ["case", "value"]) : Ck P w K mg base "_law_value_ok" ["case", "value"] 1 spVp := by
  refine ck_v D sc__law_value_ok (fun as g R h => ?_) (fun f cdv A outer s H E hr => (vss_one (vs_ret (v_ne hr.units (v_l (vl_lc rfl sc__law_value_ok.nd (vi_tup (v_ix (vv 0) v_int)) (blkOk_by (own := [("pair", 2)]) (by show blkC ["case", "value", "pair"] (defScope s__law_value_ok) _ _ = true; decide +kernel)) (fun _ _ _ _ _ => (vg_n 2 sc__law_value_ok.nd)) (fun _ _ _ _ _ => (vts_one (t_eq hr.units (v_ix (vv 2) v_int) (vv 1)))) (fun _ _ _ _ _ => (vv 2)))) (v_lst va_nil))))) (fun as g R h => ?_)
  · obtain ⟨n, v, k, ps, j, x, rfl, hl, hR⟩ := h
    rfl
  · obtain ⟨n, v, k, ps, j, x, rfl, hl, hR⟩ := h
    simp only [sSeq, sIf, sSet, sOwn, sRet, sRetN, sNext, sDis, sSetIx, sApp, sAsg, sPar, sPar2O, sPar3, wB, wOp, wVar, wC, wNil, wCons, pNil, pCons, pPen, wTup, lLst, wL, wCall, wChain, Vl.wAnd, Vl.wOr, Vl.wNot, wAndV, wOrV, wNotV, wIf, wNeg, wIsN, wIsa, wFn, wSl, oNo, oPt, lList, wRevL, wIxO, wEqE, gN, gsNil, gsCons, gT, iL, iT, iR1, iR2, iZp, iEn, wYes, wipeV, endV, startV, e_fII, e_addI, e_addT, e_addL, e_intI, e_intB, e_mulT, e_mulL, e_lenL, e_lenT, e_tupL, e_tupT, e_eqI, e_neI, e_eqB, e_neB, e_eqS, e_neS, e_ix0T, e_ix1T, e_ix2T, e_ix3T, e_ix4T, e_ix0L, e_ix1L, e_ix2L, List.length_cons, List.length_nil, List.replicate, List.cons_append, List.nil_append, List.getElem?_cons_zero, List.getElem?_cons_succ, List.set_cons_zero, List.set_cons_succ, Nat.reduceAdd, Nat.reduceSub, List.replicate_succ, List.replicate_zero, true_and, if_true, if_false, Bool.false_eq_true, reduceIte, Int.toNat_natCast, wFn, startV_one, PyData.isInt, PyData.isBool, PyData.isTuple, PyData.isList, PyData.isStr, isIntStr, isTupList, Bool.not_true, Bool.not_false, caseD, lLc, List.length_map]
    refine ⟨by show ps.length ≤ 16777216; omega, lc_pure (enc := prD) (keep := fun p => p.2 == x) (f := prD) ps [] (fun p hp N acc hN => ?_) ?_⟩
    · simp only [sSeq, sIf, sSet, sOwn, sRet, sRetN, sNext, sDis, sSetIx, sApp, sAsg, sPar, sPar2O, sPar3, wB, wOp, wVar, wC, wNil, wCons, pNil, pCons, pPen, wTup, lLst, wL, wCall, wChain, Vl.wAnd, Vl.wOr, Vl.wNot, wAndV, wOrV, wNotV, wIf, wNeg, wIsN, wIsa, wFn, wSl, oNo, oPt, lList, wRevL, wIxO, wEqE, gN, gsNil, gsCons, gT, iL, iT, iR1, iR2, iZp, iEn, wYes, wipeV, endV, startV, e_fII, e_addI, e_addT, e_addL, e_intI, e_intB, e_mulT, e_mulL, e_lenL, e_lenT, e_tupL, e_tupT, e_eqI, e_neI, e_eqB, e_neB, e_eqS, e_neS, e_ix0T, e_ix1T, e_ix2T, e_ix3T, e_ix4T, e_ix0L, e_ix1L, e_ix2L, List.length_cons, List.length_nil, List.replicate, List.cons_append, List.nil_append, List.getElem?_cons_zero, List.getElem?_cons_succ, List.set_cons_zero, List.set_cons_succ, Nat.reduceAdd, Nat.reduceSub, List.replicate_succ, List.replicate_zero, true_and, if_true, if_false, Bool.false_eq_true, reduceIte, Int.toNat_natCast, wFn, startV_one, PyData.isInt, PyData.isBool, PyData.isTuple, PyData.isList, PyData.isStr, isIntStr, isTupList, Bool.not_true, Bool.not_false, prD, List.map_cons, List.map_nil]
      cases hc : p.2 == x with
      | true =>
        rw [hc] at hN
        exact hN
      | false =>
        rw [hc] at hN
        exact hN
    · refine ⟨by decide, fNe_nil ⟨g, Nat.le_refl _, ?_⟩⟩
      have e : (!(ps.filter fun p => p.2 == x).isEmpty) = vpB ps x := by
        clear hR
        unfold vpB
        induction ps with
        | nil => rfl
        | cons p ps ih =>
          rw [List.filter_cons, List.any_cons]
          cases hc : p.2 == x with
          | true => rfl
          | false => simpa using ih (by simp at hl; omega)
      rw [e]
      exact hR

theorem ok_pair_passes (B : Bi mg)  (D : Df K mg "pair_passes" s_pair_passes ["case", "kind", "value"]) : Ck P w K mg base "pair_passes" ["case", "kind", "value"] 1 spPp := by
  refine ck_v D sc_pair_passes (fun as g R h => ?_) (fun f cdv A outer s H E hr => (vss_one (vs_ret (v_in hr.units (v_tup (va_cons (vv 1) (va_cons (vv 2) va_nil))) (v_ix (vv 0) v_int))))) (fun as g R h => ?_)
  · obtain ⟨n, v, k, ps, j, x, y, rfl, hl, hR⟩ := h
    rfl
  · obtain ⟨n, v, k, ps, j, x, y, rfl, hl, hR⟩ := h
    simp only [sSeq, sIf, sSet, sOwn, sRet, sRetN, sNext, sDis, sSetIx, sApp, sAsg, sPar, sPar2O, sPar3, wB, wOp, wVar, wC, wNil, wCons, pNil, pCons, pPen, wTup, lLst, wL, wCall, wChain, Vl.wAnd, Vl.wOr, Vl.wNot, wAndV, wOrV, wNotV, wIf, wNeg, wIsN, wIsa, wFn, wSl, oNo, oPt, lList, wRevL, wIxO, wEqE, gN, gsNil, gsCons, gT, iL, iT, iR1, iR2, iZp, iEn, wYes, wipeV, endV, startV, e_fII, e_addI, e_addT, e_addL, e_intI, e_intB, e_mulT, e_mulL, e_lenL, e_lenT, e_tupL, e_tupT, e_eqI, e_neI, e_eqB, e_neB, e_eqS, e_neS, e_ix0T, e_ix1T, e_ix2T, e_ix3T, e_ix4T, e_ix0L, e_ix1L, e_ix2L, List.length_cons, List.length_nil, List.replicate, List.cons_append, List.nil_append, List.getElem?_cons_zero, List.getElem?_cons_succ, List.set_cons_zero, List.set_cons_succ, Nat.reduceAdd, Nat.reduceSub, List.replicate_succ, List.replicate_zero, true_and, if_true, if_false, Bool.false_eq_true, reduceIte, Int.toNat_natCast, wFn, startV_one, PyData.isInt, PyData.isBool, PyData.isTuple, PyData.isList, PyData.isStr, isIntStr, isTupList, Bool.not_true, Bool.not_false, caseD]
    exact ⟨by decide, fIn_pr ⟨g, Nat.le_refl _, hR⟩⟩

theorem ok__law_child_ok (B : Bi mg)  (D : Df K mg "_law_child_ok" s__law_child_ok ["case", "parents", "child"]) : Ck P w K mg base "_law_child_ok" ["case", "parents", "child"] 1 spCok := by
  refine ck_v D sc__law_child_ok (fun as g R h => ?_) (fun f cdv A outer s H E hr => (vss_one (vs_ret (v_and (v_ne hr.units (vv 2) (v_tup va_nil)) (v_one (v_in hr.units (v_tup (va_cons (v_ix (vv 2) v_int) (va_cons (v_ix (vv 1) (v_ix (vv 2) v_int)) va_nil))) (v_ix (vv 0) v_int))))))) (fun as g R h => ?_)
  · obtain ⟨n, v, k, ps, j, xs, c, rfl, ho, so, hR⟩ := h
    rfl
  · obtain ⟨n, v, k, ps, j, xs, c, rfl, ho, so, hR⟩ := h
    cases c with
    | none =>
      simp only [sSeq, sIf, sSet, sOwn, sRet, sRetN, sNext, sDis, sSetIx, sApp, sAsg, sPar, sPar2O, sPar3, wB, wOp, wVar, wC, wNil, wCons, pNil, pCons, pPen, wTup, lLst, wL, wCall, wChain, Vl.wAnd, Vl.wOr, Vl.wNot, wAndV, wOrV, wNotV, wIf, wNeg, wIsN, wIsa, wFn, wSl, oNo, oPt, lList, wRevL, wIxO, wEqE, gN, gsNil, gsCons, gT, iL, iT, iR1, iR2, iZp, iEn, wYes, wipeV, endV, startV, e_fII, e_addI, e_addT, e_addL, e_intI, e_intB, e_mulT, e_mulL, e_lenL, e_lenT, e_tupL, e_tupT, e_eqI, e_neI, e_eqB, e_neB, e_eqS, e_neS, e_ix0T, e_ix1T, e_ix2T, e_ix3T, e_ix4T, e_ix0L, e_ix1L, e_ix2L, List.length_cons, List.length_nil, List.replicate, List.cons_append, List.nil_append, List.getElem?_cons_zero, List.getElem?_cons_succ, List.set_cons_zero, List.set_cons_succ, Nat.reduceAdd, Nat.reduceSub, List.replicate_succ, List.replicate_zero, true_and, if_true, if_false, Bool.false_eq_true, reduceIte, Int.toNat_natCast, wFn, startV_one, PyData.isInt, PyData.isBool, PyData.isTuple, PyData.isList, PyData.isStr, isIntStr, isTupList, Bool.not_true, Bool.not_false, caseD, chD]
      refine ⟨by decide, ne_00 ?_⟩
      exact ⟨g, Nat.le_refl _, hR⟩
    | some q =>
      have hq := so.hc q rfl
      simp only [sSeq, sIf, sSet, sOwn, sRet, sRetN, sNext, sDis, sSetIx, sApp, sAsg, sPar, sPar2O, sPar3, wB, wOp, wVar, wC, wNil, wCons, pNil, pCons, pPen, wTup, lLst, wL, wCall, wChain, Vl.wAnd, Vl.wOr, Vl.wNot, wAndV, wOrV, wNotV, wIf, wNeg, wIsN, wIsa, wFn, wSl, oNo, oPt, lList, wRevL, wIxO, wEqE, gN, gsNil, gsCons, gT, iL, iT, iR1, iR2, iZp, iEn, wYes, wipeV, endV, startV, e_fII, e_addI, e_addT, e_addL, e_intI, e_intB, e_mulT, e_mulL, e_lenL, e_lenT, e_tupL, e_tupT, e_eqI, e_neI, e_eqB, e_neB, e_eqS, e_neS, e_ix0T, e_ix1T, e_ix2T, e_ix3T, e_ix4T, e_ix0L, e_ix1L, e_ix2L, List.length_cons, List.length_nil, List.replicate, List.cons_append, List.nil_append, List.getElem?_cons_zero, List.getElem?_cons_succ, List.set_cons_zero, List.set_cons_succ, Nat.reduceAdd, Nat.reduceSub, List.replicate_succ, List.replicate_zero, true_and, if_true, if_false, Bool.false_eq_true, reduceIte, Int.toNat_natCast, wFn, startV_one, PyData.isInt, PyData.isBool, PyData.isTuple, PyData.isList, PyData.isStr, isIntStr, isTupList, Bool.not_true, Bool.not_false, caseD, chD, prD]
      refine ⟨by decide, ne_pr0 ?_⟩
      exact ix_par hq.2.1 (by rw [so.len]; exact hq.2.2) ⟨by decide, fIn_pr ⟨g, Nat.le_refl _, hR⟩⟩

theorem ok_child_passes (B : Bi mg) (C_pair_passes : Ck P w K mg base "pair_passes" ["case", "kind", "value"] 1 spPp) (D : Df K mg "child_passes" s_child_passes ["case", "source"]) : Ck P w K mg base "child_passes" ["case", "source"] 2 spCp := by
  refine ck_v D sc_child_passes (fun as g R h => ?_) (fun f cdv A outer s H E hr => (vss_cons (vs_asg (vv 1) (vg_tupn (vgs_cons (vg_n 2 sc_child_passes.nd) (vgs_cons (vg_n 3 sc_child_passes.nd) vgs_nil)))) (vss_cons (vs_if (t_eqE hr.units (vv 3)) (vss_one (vs_ret v_bl)) vss_nil) (vss_cons (vs_asg (vv 3) (vg_tupn (vgs_cons (vg_n 4 sc_child_passes.nd) (vgs_cons (vg_n 5 sc_child_passes.nd) vgs_nil)))) (vss_one (vs_ret (v_callC C_pair_passes (hr.mono (by decide)) (by rfl) (vp_cons (vv 0) (vp_cons (vv 4) (vp_cons (v_ix (vv 2) (vv 5)) vp_nil)))))))))) (fun as g R h => ?_)
  · obtain ⟨n, v, k, ps, j, xs, c, rfl, ho, so, hR⟩ := h
    rfl
  · obtain ⟨n, v, k, ps, j, xs, c, rfl, ho, so, hR⟩ := h
    cases c with
    | none =>
      simp only [sSeq, sIf, sSet, sOwn, sRet, sRetN, sNext, sDis, sSetIx, sApp, sAsg, sPar, sPar2O, sPar3, wB, wOp, wVar, wC, wNil, wCons, pNil, pCons, pPen, wTup, lLst, wL, wCall, wChain, Vl.wAnd, Vl.wOr, Vl.wNot, wAndV, wOrV, wNotV, wIf, wNeg, wIsN, wIsa, wFn, wSl, oNo, oPt, lList, wRevL, wIxO, wEqE, gN, gsNil, gsCons, gT, iL, iT, iR1, iR2, iZp, iEn, wYes, wipeV, endV, startV, e_fII, e_addI, e_addT, e_addL, e_intI, e_intB, e_mulT, e_mulL, e_lenL, e_lenT, e_tupL, e_tupT, e_eqI, e_neI, e_eqB, e_neB, e_eqS, e_neS, e_ix0T, e_ix1T, e_ix2T, e_ix3T, e_ix4T, e_ix0L, e_ix1L, e_ix2L, List.length_cons, List.length_nil, List.replicate, List.cons_append, List.nil_append, List.getElem?_cons_zero, List.getElem?_cons_succ, List.set_cons_zero, List.set_cons_succ, Nat.reduceAdd, Nat.reduceSub, List.replicate_succ, List.replicate_zero, true_and, if_true, if_false, Bool.false_eq_true, reduceIte, Int.toNat_natCast, wFn, startV_one, PyData.isInt, PyData.isBool, PyData.isTuple, PyData.isList, PyData.isStr, isIntStr, isTupList, Bool.not_true, Bool.not_false, srcD, chD, isUnit, notDict, List.isEmpty_nil]
      exact ⟨noX_ch (c := none), g, Nat.le_refl _, hR⟩
    | some q =>
      have hq := so.hc q rfl
      simp only [sSeq, sIf, sSet, sOwn, sRet, sRetN, sNext, sDis, sSetIx, sApp, sAsg, sPar, sPar2O, sPar3, wB, wOp, wVar, wC, wNil, wCons, pNil, pCons, pPen, wTup, lLst, wL, wCall, wChain, Vl.wAnd, Vl.wOr, Vl.wNot, wAndV, wOrV, wNotV, wIf, wNeg, wIsN, wIsa, wFn, wSl, oNo, oPt, lList, wRevL, wIxO, wEqE, gN, gsNil, gsCons, gT, iL, iT, iR1, iR2, iZp, iEn, wYes, wipeV, endV, startV, e_fII, e_addI, e_addT, e_addL, e_intI, e_intB, e_mulT, e_mulL, e_lenL, e_lenT, e_tupL, e_tupT, e_eqI, e_neI, e_eqB, e_neB, e_eqS, e_neS, e_ix0T, e_ix1T, e_ix2T, e_ix3T, e_ix4T, e_ix0L, e_ix1L, e_ix2L, List.length_cons, List.length_nil, List.replicate, List.cons_append, List.nil_append, List.getElem?_cons_zero, List.getElem?_cons_succ, List.set_cons_zero, List.set_cons_succ, Nat.reduceAdd, Nat.reduceSub, List.replicate_succ, List.replicate_zero, true_and, if_true, if_false, Bool.false_eq_true, reduceIte, Int.toNat_natCast, wFn, startV_one, PyData.isInt, PyData.isBool, PyData.isTuple, PyData.isList, PyData.isStr, isIntStr, isTupList, Bool.not_true, Bool.not_false, srcD, chD, prD, isUnit, notDict, List.isEmpty_cons]
      refine ⟨noX_pr (p := q), ix_par hq.2.1 (by rw [so.len]; exact hq.2.2) ?_⟩
      exact ⟨n, v, k, ps, j, _, _, rfl, ho.len, g, Nat.le_refl _, hR⟩


end
end Law
namespace Law
open PySem PySem.Spec PyProof.Rows L2 Vl
section
variable {P : Program} {w : World} {K : PySem.W.Frag} {mg : Str → Option Value} {base : Heap}
/-! plans -/
inductive Snd where
  | all | either | now
  deriving DecidableEq
def Snd.s : Snd → Str
  | .all => "all"
  | .either => "either"
  | .now => "now"
inductive Anw where
  | never | cut | kept
  deriving DecidableEq
def Anw.s : Anw → Str
  | .never => "never"
  | .cut => "cut"
  | .kept => "kept"
structure Pl where
  lanes : Int
  late : Int
  ch : Snd
  pa : Snd
  tv : Bool
  tc : Bool
  la : Bool
  an : Anw
def plD (p : Pl) : PyData := .tuple [.int p.lanes, .int p.late, .str p.ch.s, .str p.pa.s, .bool p.tv, .bool p.tc, .bool p.la, .str p.an.s]
structure PlOk (p : Pl) : Prop where
  l : p.lanes = 1 ∨ p.lanes = 2
  t : p.late = 1 ∨ p.late = 2
theorem _root_.Vl.lp_nil {G : WG} {B : WS} {V : EndsV} {ρ : Rho} {g : Nat} : loopV G B V [] ρ g = V.nx ρ g := rfl
theorem b_pc : (Str.ofString "parent" == Str.ofString "child") = false := by decide
theorem b_cp : (Str.ofString "child" == Str.ofString "parent") = false := by decide
section
variable {a b c d e f h i : PyData} {r : List PyData} {R : PyData → Prop}
theorem e_ix5T : fIx (.tuple (a :: b :: c :: d :: e :: f :: r)) (.int 5) R = R f := fIx_is (j := 5) rfl rfl
theorem e_ix6T : fIx (.tuple (a :: b :: c :: d :: e :: f :: h :: r)) (.int 6) R = R h := fIx_is (j := 6) rfl rfl
theorem e_ix7T : fIx (.tuple (a :: b :: c :: d :: e :: f :: h :: i :: r)) (.int 7) R = R i := fIx_is (j := 7) rfl rfl
end
def Snd.isAll : Snd → Bool
  | .all => true
  | _ => false
def Snd.isEi : Snd → Bool
  | .either => true
  | _ => false
theorem snd_all : ∀ s : Snd, (s.s == Str.ofString "all") = s.isAll
  | .all => by decide
  | .either => by decide
  | .now => by decide
theorem snd_ei : ∀ s : Snd, (s.s == Str.ofString "either") = s.isEi
  | .all => by decide
  | .either => by decide
  | .now => by decide
def sentB (sd : Snd) (was is : Bool) : Bool := sd.isAll || (is || (sd.isEi && was))
def spSent : VSp := fun as g R => ∃ (sd : Snd) (was is : Bool), as = [.val (.str sd.s), .val (.bool was), .val (.bool is)] ∧ R (.bool (sentB sd was is)) g
theorem ok_is_sent (B : Bi mg)  (D : Df K mg "is_sent" s_is_sent ["sending", "passed", "passes"]) : Ck P w K mg base "is_sent" ["sending", "passed", "passes"] 1 spSent := by
  refine ck_v D sc_is_sent (fun as g R h => ?_) (fun f cdv A outer s H E hr => (vss_cons (vs_if (t_eq hr.units (vv 0) v_str) (vss_one (vs_ret v_bl)) vss_nil) (vss_one (vs_ret (v_or (vv 2) (v_one (v_and (v_eq hr.units (vv 0) v_str) (v_one (vv 1))))))))) (fun as g R h => ?_)
  · obtain ⟨sd, was, iz, rfl, hR⟩ := h
    rfl
  · obtain ⟨sd, was, iz, rfl, hR⟩ := h
    simp only [sSeq, sIf, sSet, sOwn, sRet, sRetN, sNext, sDis, sSetIx, sApp, sAsg, sPar, sPar2O, sPar3, wB, wOp, wVar, wC, wNil, wCons, pNil, pCons, pPen, wTup, lLst, wL, wCall, wChain, Vl.wAnd, Vl.wOr, Vl.wNot, wAndV, wOrV, wNotV, wIf, wNeg, wIsN, wIsa, wFn, wSl, oNo, oPt, lList, wRevL, wIxO, wEqE, gN, gsNil, gsCons, gT, iL, iT, iR1, iR2, iZp, iEn, wYes, wipeV, endV, startV, e_fII, e_addI, e_addT, e_addL, e_intI, e_intB, e_mulT, e_mulL, e_lenL, e_lenT, e_tupL, e_tupT, e_eqI, e_neI, e_eqB, e_neB, e_eqS, e_neS, e_ix0T, e_ix1T, e_ix2T, e_ix3T, e_ix4T, e_ix0L, e_ix1L, e_ix2L, List.length_cons, List.length_nil, List.replicate, List.cons_append, List.nil_append, List.getElem?_cons_zero, List.getElem?_cons_succ, List.set_cons_zero, List.set_cons_succ, Nat.reduceAdd, Nat.reduceSub, List.replicate_succ, List.replicate_zero, true_and, if_true, if_false, Bool.false_eq_true, reduceIte, Int.toNat_natCast, fGt, fLtI, fLe, fGe, wFn, startV_one, isIntStr, isTupList, Bool.not_true, Bool.not_false, k_isInt_none, k_isInt_bool, k_isInt_int, k_isInt_str, k_isInt_list, k_isInt_tuple, k_isInt_dict, k_isBool_none, k_isBool_bool, k_isBool_int, k_isBool_str, k_isBool_list, k_isBool_tuple, k_isBool_dict, k_isTuple_none, k_isTuple_bool, k_isTuple_int, k_isTuple_str, k_isTuple_list, k_isTuple_tuple, k_isTuple_dict, k_isList_none, k_isList_bool, k_isList_int, k_isList_str, k_isList_list, k_isList_tuple, k_isList_dict, k_isStr_none, k_isStr_bool, k_isStr_int, k_isStr_str, k_isStr_list, k_isStr_tuple, k_isStr_dict, lRg1, lRg2, lLc2, iEm, lSeq, lOf, lRet, lRetO, lDis, lIf, lFn, sApp, lcV, lcV2, lp_cons, lp_nil, List.map_cons, List.map_nil, b_pc, b_cp, beq_self_eq_true, e_ix5T, e_ix6T, e_ix7T, isOwn, List.any_cons, List.any_nil, Bool.or_self, snd_all, snd_ei]
    unfold sentB at hR
    cases h1 : sd.isAll <;> rw [h1] at hR
    · cases iz
      · cases h2 : sd.isEi <;> rw [h2] at hR <;> cases was <;> exact ⟨g, Nat.le_refl _, hR⟩
      · exact ⟨g, Nat.le_refl _, hR⟩
    · exact ⟨g, Nat.le_refl _, hR⟩

/-! entries -/
inductive Ent where
  | par (p : Nat) (s : Int) (t : Option Int)
  | chl (c : Option (Int × Int)) (v : Int)
  deriving DecidableEq
def toldD : Option Int → PyData
  | none => .tuple []
  | some k => .tuple [.int k]
def entD : Ent → PyData
  | .par p s t => .tuple [.str "parent", .int ((p : Nat) : Int), .int s, toldD t]
  | .chl c v => .tuple [.str "child", chD c, .int v]
def toldB (pl : Pl) (later : SrcV) (p : Nat) : Option Int := if pl.tc = true then match later.2 with
  | none => none
  | some q => if q.2 = ((p : Nat) : Int) then some q.1 else none else none
def valB (pl : Pl) (later : SrcV) (c : Option (Int × Int)) : Int := if pl.tv = true then match c with
  | none => -1
  | some q => later.1.getD q.2.toNat 0 else -1
def entB (pl : Pl) (ps : List (Int × Int)) (src later : SrcV) : Chg → Option Ent
  | .par p s => if sentB pl.pa (vpB ps (src.1.getD p 0)) (vpB ps s) = true then some (.par p s (toldB pl later p)) else none
  | .chl c => if sentB pl.ch (cpB ps src.1 src.2) (cpB ps later.1 later.2) = true then some (.chl c (valB pl later c)) else none
def isPar : Chg → Bool
  | .par _ _ => true
  | .chl _ => false
def laneB (pl : Pl) (ps : List (Int × Int)) (src later : SrcV) : List Chg → Option (List Ent)
  | [] => none
  | f => some (f.filterMap (entB pl ps src later))
def msgsB (pl : Pl) (ps : List (Int × Int)) (src : SrcV) (f : List Chg) : List (Option (List Ent)) :=
  if pl.lanes = 1 then [some (f.filterMap (entB pl ps src (f.foldl stepC src)))] else [laneB pl ps src (f.foldl stepC src) (f.filter isPar), laneB pl ps src (f.foldl stepC src) (f.filter fun y => !isPar y)]
def msgD : Option (List Ent) → PyData
  | none => .none
  | some es => .tuple (es.map entD)
theorem eqE_ch {c : Option (Int × Int)} {R : PyData → Prop} (h : R (.bool (decide (c = none)))) : fEq (chD c) (.tuple []) R := by
  have := depth_ch c
  refine ⟨⟨plain_ch c, rfl, by omega⟩, ?_⟩
  rw [show PyData.tuple [] = chD none from rfl, eqv_ch]
  exact h
def spTk : VSp := fun as g R => ∃ (pl : Pl) (z : SrcV) (p : Nat), as = [.val (plD pl), .val (srcD z.1 z.2), .val (.int ((p : Nat) : Int))] ∧ R (toldD (toldB pl z p)) g
theorem ok_told_kinds (B : Bi mg) (GC : Gs K mg)  (D : Df K mg "told_kinds" s_told_kinds ["plan", "later", "p"]) : Ck P w K mg base "told_kinds" ["plan", "later", "p"] 1 spTk := by
  refine ck_v D sc_told_kinds (fun as g R h => ?_) (fun f cdv A outer s H E hr => (vss_cons (vs_set 3 sc_told_kinds.nd (v_ix (vv 1) v_int)) (vss_cons (vs_if (t_w (w_and (t_val (v_ix (vv 0) (v_glob GC.c_TELLS_CHILDREN (by rfl)))) (w_and (t_ne hr.units (vv 3) (v_tup va_nil)) (w_and1 (t_eq hr.units (v_ix (vv 3) v_int) (vv 2)))))) (vss_one (vs_ret (v_tup (va_cons (v_ix (vv 3) v_int) va_nil)))) vss_nil) (vss_one (vs_ret (v_tup va_nil)))))) (fun as g R h => ?_)
  · obtain ⟨pl, z, p, rfl, hR⟩ := h
    rfl
  · obtain ⟨pl, z, p, rfl, hR⟩ := h
    obtain ⟨xs, c⟩ := z
    simp only [sSeq, sIf, sSet, sOwn, sRet, sRetN, sNext, sDis, sSetIx, sApp, sAsg, sPar, sPar2O, sPar3, wB, wOp, wVar, wC, wNil, wCons, pNil, pCons, pPen, wTup, lLst, wL, wCall, wChain, Vl.wAnd, Vl.wOr, Vl.wNot, wAndV, wOrV, wNotV, wIf, wNeg, wIsN, wIsa, wFn, wSl, oNo, oPt, lList, wRevL, wIxO, wEqE, gN, gsNil, gsCons, gT, iL, iT, iR1, iR2, iZp, iEn, wYes, wipeV, endV, startV, e_fII, e_addI, e_addT, e_addL, e_intI, e_intB, e_mulT, e_mulL, e_lenL, e_lenT, e_tupL, e_tupT, e_eqI, e_neI, e_eqB, e_neB, e_eqS, e_neS, e_ix0T, e_ix1T, e_ix2T, e_ix3T, e_ix4T, e_ix0L, e_ix1L, e_ix2L, List.length_cons, List.length_nil, List.replicate, List.cons_append, List.nil_append, List.getElem?_cons_zero, List.getElem?_cons_succ, List.set_cons_zero, List.set_cons_succ, Nat.reduceAdd, Nat.reduceSub, List.replicate_succ, List.replicate_zero, true_and, if_true, if_false, Bool.false_eq_true, reduceIte, Int.toNat_natCast, fGt, fLtI, fLe, fGe, wFn, startV_one, isIntStr, isTupList, Bool.not_true, Bool.not_false, k_isInt_none, k_isInt_bool, k_isInt_int, k_isInt_str, k_isInt_list, k_isInt_tuple, k_isInt_dict, k_isBool_none, k_isBool_bool, k_isBool_int, k_isBool_str, k_isBool_list, k_isBool_tuple, k_isBool_dict, k_isTuple_none, k_isTuple_bool, k_isTuple_int, k_isTuple_str, k_isTuple_list, k_isTuple_tuple, k_isTuple_dict, k_isList_none, k_isList_bool, k_isList_int, k_isList_str, k_isList_list, k_isList_tuple, k_isList_dict, k_isStr_none, k_isStr_bool, k_isStr_int, k_isStr_str, k_isStr_list, k_isStr_tuple, k_isStr_dict, lRg1, lRg2, lLc2, iEm, lSeq, lOf, lRet, lRetO, lDis, lIf, lFn, sApp, lcV, lcV2, lp_cons, lp_nil, List.map_cons, List.map_nil, b_pc, b_cp, beq_self_eq_true, e_ix5T, e_ix6T, e_ix7T, isOwn, List.any_cons, List.any_nil, Bool.or_self, srcD, plD]
    cases h1 : pl.tc with
    | false =>
      rw [toldB, h1, if_neg Bool.false_ne_true] at hR
      simp only [sSeq, sIf, sSet, sOwn, sRet, sRetN, sNext, sDis, sSetIx, sApp, sAsg, sPar, sPar2O, sPar3, wB, wOp, wVar, wC, wNil, wCons, pNil, pCons, pPen, wTup, lLst, wL, wCall, wChain, Vl.wAnd, Vl.wOr, Vl.wNot, wAndV, wOrV, wNotV, wIf, wNeg, wIsN, wIsa, wFn, wSl, oNo, oPt, lList, wRevL, wIxO, wEqE, gN, gsNil, gsCons, gT, iL, iT, iR1, iR2, iZp, iEn, wYes, wipeV, endV, startV, e_fII, e_addI, e_addT, e_addL, e_intI, e_intB, e_mulT, e_mulL, e_lenL, e_lenT, e_tupL, e_tupT, e_eqI, e_neI, e_eqB, e_neB, e_eqS, e_neS, e_ix0T, e_ix1T, e_ix2T, e_ix3T, e_ix4T, e_ix0L, e_ix1L, e_ix2L, List.length_cons, List.length_nil, List.replicate, List.cons_append, List.nil_append, List.getElem?_cons_zero, List.getElem?_cons_succ, List.set_cons_zero, List.set_cons_succ, Nat.reduceAdd, Nat.reduceSub, List.replicate_succ, List.replicate_zero, true_and, if_true, if_false, Bool.false_eq_true, reduceIte, Int.toNat_natCast, fGt, fLtI, fLe, fGe, wFn, startV_one, isIntStr, isTupList, Bool.not_true, Bool.not_false, k_isInt_none, k_isInt_bool, k_isInt_int, k_isInt_str, k_isInt_list, k_isInt_tuple, k_isInt_dict, k_isBool_none, k_isBool_bool, k_isBool_int, k_isBool_str, k_isBool_list, k_isBool_tuple, k_isBool_dict, k_isTuple_none, k_isTuple_bool, k_isTuple_int, k_isTuple_str, k_isTuple_list, k_isTuple_tuple, k_isTuple_dict, k_isList_none, k_isList_bool, k_isList_int, k_isList_str, k_isList_list, k_isList_tuple, k_isList_dict, k_isStr_none, k_isStr_bool, k_isStr_int, k_isStr_str, k_isStr_list, k_isStr_tuple, k_isStr_dict, lRg1, lRg2, lLc2, iEm, lSeq, lOf, lRet, lRetO, lDis, lIf, lFn, sApp, lcV, lcV2, lp_cons, lp_nil, List.map_cons, List.map_nil, b_pc, b_cp, beq_self_eq_true, e_ix5T, e_ix6T, e_ix7T, isOwn, List.any_cons, List.any_nil, Bool.or_self]
      exact ⟨by decide, g, Nat.le_refl _, hR⟩
    | true =>
      simp only [sSeq, sIf, sSet, sOwn, sRet, sRetN, sNext, sDis, sSetIx, sApp, sAsg, sPar, sPar2O, sPar3, wB, wOp, wVar, wC, wNil, wCons, pNil, pCons, pPen, wTup, lLst, wL, wCall, wChain, Vl.wAnd, Vl.wOr, Vl.wNot, wAndV, wOrV, wNotV, wIf, wNeg, wIsN, wIsa, wFn, wSl, oNo, oPt, lList, wRevL, wIxO, wEqE, gN, gsNil, gsCons, gT, iL, iT, iR1, iR2, iZp, iEn, wYes, wipeV, endV, startV, e_fII, e_addI, e_addT, e_addL, e_intI, e_intB, e_mulT, e_mulL, e_lenL, e_lenT, e_tupL, e_tupT, e_eqI, e_neI, e_eqB, e_neB, e_eqS, e_neS, e_ix0T, e_ix1T, e_ix2T, e_ix3T, e_ix4T, e_ix0L, e_ix1L, e_ix2L, List.length_cons, List.length_nil, List.replicate, List.cons_append, List.nil_append, List.getElem?_cons_zero, List.getElem?_cons_succ, List.set_cons_zero, List.set_cons_succ, Nat.reduceAdd, Nat.reduceSub, List.replicate_succ, List.replicate_zero, true_and, if_true, if_false, Bool.false_eq_true, reduceIte, Int.toNat_natCast, fGt, fLtI, fLe, fGe, wFn, startV_one, isIntStr, isTupList, Bool.not_true, Bool.not_false, k_isInt_none, k_isInt_bool, k_isInt_int, k_isInt_str, k_isInt_list, k_isInt_tuple, k_isInt_dict, k_isBool_none, k_isBool_bool, k_isBool_int, k_isBool_str, k_isBool_list, k_isBool_tuple, k_isBool_dict, k_isTuple_none, k_isTuple_bool, k_isTuple_int, k_isTuple_str, k_isTuple_list, k_isTuple_tuple, k_isTuple_dict, k_isList_none, k_isList_bool, k_isList_int, k_isList_str, k_isList_list, k_isList_tuple, k_isList_dict, k_isStr_none, k_isStr_bool, k_isStr_int, k_isStr_str, k_isStr_list, k_isStr_tuple, k_isStr_dict, lRg1, lRg2, lLc2, iEm, lSeq, lOf, lRet, lRetO, lDis, lIf, lFn, sApp, lcV, lcV2, lp_cons, lp_nil, List.map_cons, List.map_nil, b_pc, b_cp, beq_self_eq_true, e_ix5T, e_ix6T, e_ix7T, isOwn, List.any_cons, List.any_nil, Bool.or_self]
      rw [toldB, h1, if_pos rfl] at hR
      cases c with
      | none =>
        refine ⟨by decide, e_ne_ch ?_⟩
        simp only [sSeq, sIf, sSet, sOwn, sRet, sRetN, sNext, sDis, sSetIx, sApp, sAsg, sPar, sPar2O, sPar3, wB, wOp, wVar, wC, wNil, wCons, pNil, pCons, pPen, wTup, lLst, wL, wCall, wChain, Vl.wAnd, Vl.wOr, Vl.wNot, wAndV, wOrV, wNotV, wIf, wNeg, wIsN, wIsa, wFn, wSl, oNo, oPt, lList, wRevL, wIxO, wEqE, gN, gsNil, gsCons, gT, iL, iT, iR1, iR2, iZp, iEn, wYes, wipeV, endV, startV, e_fII, e_addI, e_addT, e_addL, e_intI, e_intB, e_mulT, e_mulL, e_lenL, e_lenT, e_tupL, e_tupT, e_eqI, e_neI, e_eqB, e_neB, e_eqS, e_neS, e_ix0T, e_ix1T, e_ix2T, e_ix3T, e_ix4T, e_ix0L, e_ix1L, e_ix2L, List.length_cons, List.length_nil, List.replicate, List.cons_append, List.nil_append, List.getElem?_cons_zero, List.getElem?_cons_succ, List.set_cons_zero, List.set_cons_succ, Nat.reduceAdd, Nat.reduceSub, List.replicate_succ, List.replicate_zero, true_and, if_true, if_false, Bool.false_eq_true, reduceIte, Int.toNat_natCast, fGt, fLtI, fLe, fGe, wFn, startV_one, isIntStr, isTupList, Bool.not_true, Bool.not_false, k_isInt_none, k_isInt_bool, k_isInt_int, k_isInt_str, k_isInt_list, k_isInt_tuple, k_isInt_dict, k_isBool_none, k_isBool_bool, k_isBool_int, k_isBool_str, k_isBool_list, k_isBool_tuple, k_isBool_dict, k_isTuple_none, k_isTuple_bool, k_isTuple_int, k_isTuple_str, k_isTuple_list, k_isTuple_tuple, k_isTuple_dict, k_isList_none, k_isList_bool, k_isList_int, k_isList_str, k_isList_list, k_isList_tuple, k_isList_dict, k_isStr_none, k_isStr_bool, k_isStr_int, k_isStr_str, k_isStr_list, k_isStr_tuple, k_isStr_dict, lRg1, lRg2, lLc2, iEm, lSeq, lOf, lRet, lRetO, lDis, lIf, lFn, sApp, lcV, lcV2, lp_cons, lp_nil, List.map_cons, List.map_nil, b_pc, b_cp, beq_self_eq_true, e_ix5T, e_ix6T, e_ix7T, isOwn, List.any_cons, List.any_nil, Bool.or_self, ne_eq, not_true_eq_false, decide_false]
        exact ⟨by decide, g, Nat.le_refl _, hR⟩
      | some q =>
        refine ⟨by decide, e_ne_ch ?_⟩
        simp only [sSeq, sIf, sSet, sOwn, sRet, sRetN, sNext, sDis, sSetIx, sApp, sAsg, sPar, sPar2O, sPar3, wB, wOp, wVar, wC, wNil, wCons, pNil, pCons, pPen, wTup, lLst, wL, wCall, wChain, Vl.wAnd, Vl.wOr, Vl.wNot, wAndV, wOrV, wNotV, wIf, wNeg, wIsN, wIsa, wFn, wSl, oNo, oPt, lList, wRevL, wIxO, wEqE, gN, gsNil, gsCons, gT, iL, iT, iR1, iR2, iZp, iEn, wYes, wipeV, endV, startV, e_fII, e_addI, e_addT, e_addL, e_intI, e_intB, e_mulT, e_mulL, e_lenL, e_lenT, e_tupL, e_tupT, e_eqI, e_neI, e_eqB, e_neB, e_eqS, e_neS, e_ix0T, e_ix1T, e_ix2T, e_ix3T, e_ix4T, e_ix0L, e_ix1L, e_ix2L, List.length_cons, List.length_nil, List.replicate, List.cons_append, List.nil_append, List.getElem?_cons_zero, List.getElem?_cons_succ, List.set_cons_zero, List.set_cons_succ, Nat.reduceAdd, Nat.reduceSub, List.replicate_succ, List.replicate_zero, true_and, if_true, if_false, Bool.false_eq_true, reduceIte, Int.toNat_natCast, fGt, fLtI, fLe, fGe, wFn, startV_one, isIntStr, isTupList, Bool.not_true, Bool.not_false, k_isInt_none, k_isInt_bool, k_isInt_int, k_isInt_str, k_isInt_list, k_isInt_tuple, k_isInt_dict, k_isBool_none, k_isBool_bool, k_isBool_int, k_isBool_str, k_isBool_list, k_isBool_tuple, k_isBool_dict, k_isTuple_none, k_isTuple_bool, k_isTuple_int, k_isTuple_str, k_isTuple_list, k_isTuple_tuple, k_isTuple_dict, k_isList_none, k_isList_bool, k_isList_int, k_isList_str, k_isList_list, k_isList_tuple, k_isList_dict, k_isStr_none, k_isStr_bool, k_isStr_int, k_isStr_str, k_isStr_list, k_isStr_tuple, k_isStr_dict, lRg1, lRg2, lLc2, iEm, lSeq, lOf, lRet, lRetO, lDis, lIf, lFn, sApp, lcV, lcV2, lp_cons, lp_nil, List.map_cons, List.map_nil, b_pc, b_cp, beq_self_eq_true, e_ix5T, e_ix6T, e_ix7T, isOwn, List.any_cons, List.any_nil, Bool.or_self, ne_eq, reduceCtorEq, not_false_eq_true, decide_true, chD, prD]
        by_cases h2 : q.2 = ((p : Nat) : Int)
        · rw [show (q.2 == ((p : Nat) : Int)) = true from beq_iff_eq.mpr h2]
          simp only [sSeq, sIf, sSet, sOwn, sRet, sRetN, sNext, sDis, sSetIx, sApp, sAsg, sPar, sPar2O, sPar3, wB, wOp, wVar, wC, wNil, wCons, pNil, pCons, pPen, wTup, lLst, wL, wCall, wChain, Vl.wAnd, Vl.wOr, Vl.wNot, wAndV, wOrV, wNotV, wIf, wNeg, wIsN, wIsa, wFn, wSl, oNo, oPt, lList, wRevL, wIxO, wEqE, gN, gsNil, gsCons, gT, iL, iT, iR1, iR2, iZp, iEn, wYes, wipeV, endV, startV, e_fII, e_addI, e_addT, e_addL, e_intI, e_intB, e_mulT, e_mulL, e_lenL, e_lenT, e_tupL, e_tupT, e_eqI, e_neI, e_eqB, e_neB, e_eqS, e_neS, e_ix0T, e_ix1T, e_ix2T, e_ix3T, e_ix4T, e_ix0L, e_ix1L, e_ix2L, List.length_cons, List.length_nil, List.replicate, List.cons_append, List.nil_append, List.getElem?_cons_zero, List.getElem?_cons_succ, List.set_cons_zero, List.set_cons_succ, Nat.reduceAdd, Nat.reduceSub, List.replicate_succ, List.replicate_zero, true_and, if_true, if_false, Bool.false_eq_true, reduceIte, Int.toNat_natCast, fGt, fLtI, fLe, fGe, wFn, startV_one, isIntStr, isTupList, Bool.not_true, Bool.not_false, k_isInt_none, k_isInt_bool, k_isInt_int, k_isInt_str, k_isInt_list, k_isInt_tuple, k_isInt_dict, k_isBool_none, k_isBool_bool, k_isBool_int, k_isBool_str, k_isBool_list, k_isBool_tuple, k_isBool_dict, k_isTuple_none, k_isTuple_bool, k_isTuple_int, k_isTuple_str, k_isTuple_list, k_isTuple_tuple, k_isTuple_dict, k_isList_none, k_isList_bool, k_isList_int, k_isList_str, k_isList_list, k_isList_tuple, k_isList_dict, k_isStr_none, k_isStr_bool, k_isStr_int, k_isStr_str, k_isStr_list, k_isStr_tuple, k_isStr_dict, lRg1, lRg2, lLc2, iEm, lSeq, lOf, lRet, lRetO, lDis, lIf, lFn, sApp, lcV, lcV2, lp_cons, lp_nil, List.map_cons, List.map_nil, b_pc, b_cp, beq_self_eq_true, e_ix5T, e_ix6T, e_ix7T, isOwn, List.any_cons, List.any_nil, Bool.or_self]
          change R (toldD (if q.2 = ((p : Nat) : Int) then some q.1 else none)) g at hR
          rw [if_pos h2] at hR
          exact ⟨by decide, g, Nat.le_refl _, hR⟩
        · rw [show (q.2 == ((p : Nat) : Int)) = false from beq_eq_false_iff_ne.mpr h2]
          simp only [sSeq, sIf, sSet, sOwn, sRet, sRetN, sNext, sDis, sSetIx, sApp, sAsg, sPar, sPar2O, sPar3, wB, wOp, wVar, wC, wNil, wCons, pNil, pCons, pPen, wTup, lLst, wL, wCall, wChain, Vl.wAnd, Vl.wOr, Vl.wNot, wAndV, wOrV, wNotV, wIf, wNeg, wIsN, wIsa, wFn, wSl, oNo, oPt, lList, wRevL, wIxO, wEqE, gN, gsNil, gsCons, gT, iL, iT, iR1, iR2, iZp, iEn, wYes, wipeV, endV, startV, e_fII, e_addI, e_addT, e_addL, e_intI, e_intB, e_mulT, e_mulL, e_lenL, e_lenT, e_tupL, e_tupT, e_eqI, e_neI, e_eqB, e_neB, e_eqS, e_neS, e_ix0T, e_ix1T, e_ix2T, e_ix3T, e_ix4T, e_ix0L, e_ix1L, e_ix2L, List.length_cons, List.length_nil, List.replicate, List.cons_append, List.nil_append, List.getElem?_cons_zero, List.getElem?_cons_succ, List.set_cons_zero, List.set_cons_succ, Nat.reduceAdd, Nat.reduceSub, List.replicate_succ, List.replicate_zero, true_and, if_true, if_false, Bool.false_eq_true, reduceIte, Int.toNat_natCast, fGt, fLtI, fLe, fGe, wFn, startV_one, isIntStr, isTupList, Bool.not_true, Bool.not_false, k_isInt_none, k_isInt_bool, k_isInt_int, k_isInt_str, k_isInt_list, k_isInt_tuple, k_isInt_dict, k_isBool_none, k_isBool_bool, k_isBool_int, k_isBool_str, k_isBool_list, k_isBool_tuple, k_isBool_dict, k_isTuple_none, k_isTuple_bool, k_isTuple_int, k_isTuple_str, k_isTuple_list, k_isTuple_tuple, k_isTuple_dict, k_isList_none, k_isList_bool, k_isList_int, k_isList_str, k_isList_list, k_isList_tuple, k_isList_dict, k_isStr_none, k_isStr_bool, k_isStr_int, k_isStr_str, k_isStr_list, k_isStr_tuple, k_isStr_dict, lRg1, lRg2, lLc2, iEm, lSeq, lOf, lRet, lRetO, lDis, lIf, lFn, sApp, lcV, lcV2, lp_cons, lp_nil, List.map_cons, List.map_nil, b_pc, b_cp, beq_self_eq_true, e_ix5T, e_ix6T, e_ix7T, isOwn, List.any_cons, List.any_nil, Bool.or_self]
          change R (toldD (if q.2 = ((p : Nat) : Int) then some q.1 else none)) g at hR
          rw [if_neg h2] at hR
          exact ⟨by decide, g, Nat.le_refl _, hR⟩

def spTv : VSp := fun as g R => ∃ (pl : Pl) (z : SrcV) (c : Option (Int × Int)), as = [.val (plD pl), .val (srcD z.1 z.2), .val (chD c)] ∧ (∀ q, c = some q → 0 ≤ q.2 ∧ q.2 < (z.1.length : Int)) ∧ R (.int (valB pl z c)) g
theorem ok_told_value (B : Bi mg) (GC : Gs K mg)  (D : Df K mg "told_value" s_told_value ["plan", "later", "state"]) : Ck P w K mg base "told_value" ["plan", "later", "state"] 1 spTv := by
  refine ck_v D sc_told_value (fun as g R h => ?_) (fun f cdv A outer s H E hr => (vss_cons (vs_if (t_w (w_and (t_val (v_ix (vv 0) (v_glob GC.c_TELLS_VALUE (by rfl)))) (w_and1 (t_ne hr.units (vv 2) (v_tup va_nil))))) (vss_one (vs_ret (v_ix (v_ix (vv 1) v_int) (v_ix (vv 2) v_int)))) vss_nil) (vss_one (vs_ret (v_neg v_int))))) (fun as g R h => ?_)
  · obtain ⟨pl, z, c, rfl, hc, hR⟩ := h
    rfl
  · obtain ⟨pl, z, c, rfl, hc, hR⟩ := h
    obtain ⟨xs, e⟩ := z
    simp only [sSeq, sIf, sSet, sOwn, sRet, sRetN, sNext, sDis, sSetIx, sApp, sAsg, sPar, sPar2O, sPar3, wB, wOp, wVar, wC, wNil, wCons, pNil, pCons, pPen, wTup, lLst, wL, wCall, wChain, Vl.wAnd, Vl.wOr, Vl.wNot, wAndV, wOrV, wNotV, wIf, wNeg, wIsN, wIsa, wFn, wSl, oNo, oPt, lList, wRevL, wIxO, wEqE, gN, gsNil, gsCons, gT, iL, iT, iR1, iR2, iZp, iEn, wYes, wipeV, endV, startV, e_fII, e_addI, e_addT, e_addL, e_intI, e_intB, e_mulT, e_mulL, e_lenL, e_lenT, e_tupL, e_tupT, e_eqI, e_neI, e_eqB, e_neB, e_eqS, e_neS, e_ix0T, e_ix1T, e_ix2T, e_ix3T, e_ix4T, e_ix0L, e_ix1L, e_ix2L, List.length_cons, List.length_nil, List.replicate, List.cons_append, List.nil_append, List.getElem?_cons_zero, List.getElem?_cons_succ, List.set_cons_zero, List.set_cons_succ, Nat.reduceAdd, Nat.reduceSub, List.replicate_succ, List.replicate_zero, true_and, if_true, if_false, Bool.false_eq_true, reduceIte, Int.toNat_natCast, fGt, fLtI, fLe, fGe, wFn, startV_one, isIntStr, isTupList, Bool.not_true, Bool.not_false, k_isInt_none, k_isInt_bool, k_isInt_int, k_isInt_str, k_isInt_list, k_isInt_tuple, k_isInt_dict, k_isBool_none, k_isBool_bool, k_isBool_int, k_isBool_str, k_isBool_list, k_isBool_tuple, k_isBool_dict, k_isTuple_none, k_isTuple_bool, k_isTuple_int, k_isTuple_str, k_isTuple_list, k_isTuple_tuple, k_isTuple_dict, k_isList_none, k_isList_bool, k_isList_int, k_isList_str, k_isList_list, k_isList_tuple, k_isList_dict, k_isStr_none, k_isStr_bool, k_isStr_int, k_isStr_str, k_isStr_list, k_isStr_tuple, k_isStr_dict, lRg1, lRg2, lLc2, iEm, lSeq, lOf, lRet, lRetO, lDis, lIf, lFn, sApp, lcV, lcV2, lp_cons, lp_nil, List.map_cons, List.map_nil, b_pc, b_cp, beq_self_eq_true, e_ix5T, e_ix6T, e_ix7T, isOwn, List.any_cons, List.any_nil, Bool.or_self, srcD, plD]
    cases h1 : pl.tv with
    | false =>
      unfold valB at hR
      rw [h1, if_neg Bool.false_ne_true] at hR
      simp only [sSeq, sIf, sSet, sOwn, sRet, sRetN, sNext, sDis, sSetIx, sApp, sAsg, sPar, sPar2O, sPar3, wB, wOp, wVar, wC, wNil, wCons, pNil, pCons, pPen, wTup, lLst, wL, wCall, wChain, Vl.wAnd, Vl.wOr, Vl.wNot, wAndV, wOrV, wNotV, wIf, wNeg, wIsN, wIsa, wFn, wSl, oNo, oPt, lList, wRevL, wIxO, wEqE, gN, gsNil, gsCons, gT, iL, iT, iR1, iR2, iZp, iEn, wYes, wipeV, endV, startV, e_fII, e_addI, e_addT, e_addL, e_intI, e_intB, e_mulT, e_mulL, e_lenL, e_lenT, e_tupL, e_tupT, e_eqI, e_neI, e_eqB, e_neB, e_eqS, e_neS, e_ix0T, e_ix1T, e_ix2T, e_ix3T, e_ix4T, e_ix0L, e_ix1L, e_ix2L, List.length_cons, List.length_nil, List.replicate, List.cons_append, List.nil_append, List.getElem?_cons_zero, List.getElem?_cons_succ, List.set_cons_zero, List.set_cons_succ, Nat.reduceAdd, Nat.reduceSub, List.replicate_succ, List.replicate_zero, true_and, if_true, if_false, Bool.false_eq_true, reduceIte, Int.toNat_natCast, fGt, fLtI, fLe, fGe, wFn, startV_one, isIntStr, isTupList, Bool.not_true, Bool.not_false, k_isInt_none, k_isInt_bool, k_isInt_int, k_isInt_str, k_isInt_list, k_isInt_tuple, k_isInt_dict, k_isBool_none, k_isBool_bool, k_isBool_int, k_isBool_str, k_isBool_list, k_isBool_tuple, k_isBool_dict, k_isTuple_none, k_isTuple_bool, k_isTuple_int, k_isTuple_str, k_isTuple_list, k_isTuple_tuple, k_isTuple_dict, k_isList_none, k_isList_bool, k_isList_int, k_isList_str, k_isList_list, k_isList_tuple, k_isList_dict, k_isStr_none, k_isStr_bool, k_isStr_int, k_isStr_str, k_isStr_list, k_isStr_tuple, k_isStr_dict, lRg1, lRg2, lLc2, iEm, lSeq, lOf, lRet, lRetO, lDis, lIf, lFn, sApp, lcV, lcV2, lp_cons, lp_nil, List.map_cons, List.map_nil, b_pc, b_cp, beq_self_eq_true, e_ix5T, e_ix6T, e_ix7T, isOwn, List.any_cons, List.any_nil, Bool.or_self]
      exact ⟨g, Nat.le_refl _, hR⟩
    | true =>
      simp only [sSeq, sIf, sSet, sOwn, sRet, sRetN, sNext, sDis, sSetIx, sApp, sAsg, sPar, sPar2O, sPar3, wB, wOp, wVar, wC, wNil, wCons, pNil, pCons, pPen, wTup, lLst, wL, wCall, wChain, Vl.wAnd, Vl.wOr, Vl.wNot, wAndV, wOrV, wNotV, wIf, wNeg, wIsN, wIsa, wFn, wSl, oNo, oPt, lList, wRevL, wIxO, wEqE, gN, gsNil, gsCons, gT, iL, iT, iR1, iR2, iZp, iEn, wYes, wipeV, endV, startV, e_fII, e_addI, e_addT, e_addL, e_intI, e_intB, e_mulT, e_mulL, e_lenL, e_lenT, e_tupL, e_tupT, e_eqI, e_neI, e_eqB, e_neB, e_eqS, e_neS, e_ix0T, e_ix1T, e_ix2T, e_ix3T, e_ix4T, e_ix0L, e_ix1L, e_ix2L, List.length_cons, List.length_nil, List.replicate, List.cons_append, List.nil_append, List.getElem?_cons_zero, List.getElem?_cons_succ, List.set_cons_zero, List.set_cons_succ, Nat.reduceAdd, Nat.reduceSub, List.replicate_succ, List.replicate_zero, true_and, if_true, if_false, Bool.false_eq_true, reduceIte, Int.toNat_natCast, fGt, fLtI, fLe, fGe, wFn, startV_one, isIntStr, isTupList, Bool.not_true, Bool.not_false, k_isInt_none, k_isInt_bool, k_isInt_int, k_isInt_str, k_isInt_list, k_isInt_tuple, k_isInt_dict, k_isBool_none, k_isBool_bool, k_isBool_int, k_isBool_str, k_isBool_list, k_isBool_tuple, k_isBool_dict, k_isTuple_none, k_isTuple_bool, k_isTuple_int, k_isTuple_str, k_isTuple_list, k_isTuple_tuple, k_isTuple_dict, k_isList_none, k_isList_bool, k_isList_int, k_isList_str, k_isList_list, k_isList_tuple, k_isList_dict, k_isStr_none, k_isStr_bool, k_isStr_int, k_isStr_str, k_isStr_list, k_isStr_tuple, k_isStr_dict, lRg1, lRg2, lLc2, iEm, lSeq, lOf, lRet, lRetO, lDis, lIf, lFn, sApp, lcV, lcV2, lp_cons, lp_nil, List.map_cons, List.map_nil, b_pc, b_cp, beq_self_eq_true, e_ix5T, e_ix6T, e_ix7T, isOwn, List.any_cons, List.any_nil, Bool.or_self]
      unfold valB at hR
      rw [h1, if_pos rfl] at hR
      cases c with
      | none =>
        refine ⟨by decide, e_ne_ch ?_⟩
        simp only [sSeq, sIf, sSet, sOwn, sRet, sRetN, sNext, sDis, sSetIx, sApp, sAsg, sPar, sPar2O, sPar3, wB, wOp, wVar, wC, wNil, wCons, pNil, pCons, pPen, wTup, lLst, wL, wCall, wChain, Vl.wAnd, Vl.wOr, Vl.wNot, wAndV, wOrV, wNotV, wIf, wNeg, wIsN, wIsa, wFn, wSl, oNo, oPt, lList, wRevL, wIxO, wEqE, gN, gsNil, gsCons, gT, iL, iT, iR1, iR2, iZp, iEn, wYes, wipeV, endV, startV, e_fII, e_addI, e_addT, e_addL, e_intI, e_intB, e_mulT, e_mulL, e_lenL, e_lenT, e_tupL, e_tupT, e_eqI, e_neI, e_eqB, e_neB, e_eqS, e_neS, e_ix0T, e_ix1T, e_ix2T, e_ix3T, e_ix4T, e_ix0L, e_ix1L, e_ix2L, List.length_cons, List.length_nil, List.replicate, List.cons_append, List.nil_append, List.getElem?_cons_zero, List.getElem?_cons_succ, List.set_cons_zero, List.set_cons_succ, Nat.reduceAdd, Nat.reduceSub, List.replicate_succ, List.replicate_zero, true_and, if_true, if_false, Bool.false_eq_true, reduceIte, Int.toNat_natCast, fGt, fLtI, fLe, fGe, wFn, startV_one, isIntStr, isTupList, Bool.not_true, Bool.not_false, k_isInt_none, k_isInt_bool, k_isInt_int, k_isInt_str, k_isInt_list, k_isInt_tuple, k_isInt_dict, k_isBool_none, k_isBool_bool, k_isBool_int, k_isBool_str, k_isBool_list, k_isBool_tuple, k_isBool_dict, k_isTuple_none, k_isTuple_bool, k_isTuple_int, k_isTuple_str, k_isTuple_list, k_isTuple_tuple, k_isTuple_dict, k_isList_none, k_isList_bool, k_isList_int, k_isList_str, k_isList_list, k_isList_tuple, k_isList_dict, k_isStr_none, k_isStr_bool, k_isStr_int, k_isStr_str, k_isStr_list, k_isStr_tuple, k_isStr_dict, lRg1, lRg2, lLc2, iEm, lSeq, lOf, lRet, lRetO, lDis, lIf, lFn, sApp, lcV, lcV2, lp_cons, lp_nil, List.map_cons, List.map_nil, b_pc, b_cp, beq_self_eq_true, e_ix5T, e_ix6T, e_ix7T, isOwn, List.any_cons, List.any_nil, Bool.or_self, ne_eq, not_true_eq_false, decide_false]
        exact ⟨g, Nat.le_refl _, hR⟩
      | some q =>
        refine ⟨by decide, e_ne_ch ?_⟩
        have hq := hc q rfl
        simp only [sSeq, sIf, sSet, sOwn, sRet, sRetN, sNext, sDis, sSetIx, sApp, sAsg, sPar, sPar2O, sPar3, wB, wOp, wVar, wC, wNil, wCons, pNil, pCons, pPen, wTup, lLst, wL, wCall, wChain, Vl.wAnd, Vl.wOr, Vl.wNot, wAndV, wOrV, wNotV, wIf, wNeg, wIsN, wIsa, wFn, wSl, oNo, oPt, lList, wRevL, wIxO, wEqE, gN, gsNil, gsCons, gT, iL, iT, iR1, iR2, iZp, iEn, wYes, wipeV, endV, startV, e_fII, e_addI, e_addT, e_addL, e_intI, e_intB, e_mulT, e_mulL, e_lenL, e_lenT, e_tupL, e_tupT, e_eqI, e_neI, e_eqB, e_neB, e_eqS, e_neS, e_ix0T, e_ix1T, e_ix2T, e_ix3T, e_ix4T, e_ix0L, e_ix1L, e_ix2L, List.length_cons, List.length_nil, List.replicate, List.cons_append, List.nil_append, List.getElem?_cons_zero, List.getElem?_cons_succ, List.set_cons_zero, List.set_cons_succ, Nat.reduceAdd, Nat.reduceSub, List.replicate_succ, List.replicate_zero, true_and, if_true, if_false, Bool.false_eq_true, reduceIte, Int.toNat_natCast, fGt, fLtI, fLe, fGe, wFn, startV_one, isIntStr, isTupList, Bool.not_true, Bool.not_false, k_isInt_none, k_isInt_bool, k_isInt_int, k_isInt_str, k_isInt_list, k_isInt_tuple, k_isInt_dict, k_isBool_none, k_isBool_bool, k_isBool_int, k_isBool_str, k_isBool_list, k_isBool_tuple, k_isBool_dict, k_isTuple_none, k_isTuple_bool, k_isTuple_int, k_isTuple_str, k_isTuple_list, k_isTuple_tuple, k_isTuple_dict, k_isList_none, k_isList_bool, k_isList_int, k_isList_str, k_isList_list, k_isList_tuple, k_isList_dict, k_isStr_none, k_isStr_bool, k_isStr_int, k_isStr_str, k_isStr_list, k_isStr_tuple, k_isStr_dict, lRg1, lRg2, lLc2, iEm, lSeq, lOf, lRet, lRetO, lDis, lIf, lFn, sApp, lcV, lcV2, lp_cons, lp_nil, List.map_cons, List.map_nil, b_pc, b_cp, beq_self_eq_true, e_ix5T, e_ix6T, e_ix7T, isOwn, List.any_cons, List.any_nil, Bool.or_self, ne_eq, reduceCtorEq, not_false_eq_true, decide_true, chD, prD]
        exact ix_par hq.1 hq.2 ⟨g, Nat.le_refl _, hR⟩


end
end Law
namespace Law
open PySem PySem.Spec PyProof.Rows L2 Vl
section
variable {P : Program} {w : World} {K : PySem.W.Frag} {mg : Str → Option Value} {base : Heap}
def spEo : VSp := fun as g R => ∃ (n v k : Int) (ps : List (Int × Int)) (j : Bool) (pl : Pl) (src later : SrcV) (y : Chg), as = [.val (caseD n v k ps j), .val (plD pl), .val (srcD src.1 src.2), .val (srcD later.1 later.2), .val (chgD y)] ∧ CaseOk n v k ps ∧ SrcOk n v k src.1 src.2 ∧ SrcOk n v k later.1 later.2 ∧ ChgIn n v k y ∧ R (.tuple ((entB pl ps src later y).toList.map entD)) g
theorem ok_entries_of (B : Bi mg) (GC : Gs K mg) (C_is_sent : Ck P w K mg base "is_sent" ["sending", "passed", "passes"] 1 spSent) (C_told_kinds : Ck P w K mg base "told_kinds" ["plan", "later", "p"] 1 spTk) (C_told_value : Ck P w K mg base "told_value" ["plan", "later", "state"] 1 spTv) (C_value_passes : Ck P w K mg base "value_passes" ["case", "value"] 1 spVp) (C_child_passes : Ck P w K mg base "child_passes" ["case", "source"] 2 spCp) (D : Df K mg "entries_of" s_entries_of ["case", "plan", "source", "later", "change"]) : Ck P w K mg base "entries_of" ["case", "plan", "source", "later", "change"] 3 spEo := by
  refine ck_v D sc_entries_of (fun as g R h => ?_) (fun f cdv A outer s H E hr => (vss_cons (vs_if (t_eq hr.units (v_ix (vv 4) v_int) v_str) (vss_cons (vs_asg (v_slice (vv 4) (vo_some v_int) vo_none) (vg_tupn (vgs_cons (vg_n 5 sc_entries_of.nd) (vgs_cons (vg_n 6 sc_entries_of.nd) vgs_nil)))) (vss_cons (vs_set 7 sc_entries_of.nd (v_callC C_is_sent (hr.mono (by decide)) (by rfl) (vp_cons (v_ix (vv 1) (v_glob GC.c_PARENTS (by rfl))) (vp_cons (v_callC C_value_passes (hr.mono (by decide)) (by rfl) (vp_cons (vv 0) (vp_cons (v_ix (v_ix (vv 2) v_int) (vv 5)) vp_nil))) (vp_cons (v_callC C_value_passes (hr.mono (by decide)) (by rfl) (vp_cons (vv 0) (vp_cons (vv 6) vp_nil))) vp_nil))))) (vss_one (vs_set 8 sc_entries_of.nd (v_tup (va_cons v_str (va_cons (vv 5) (va_cons (vv 6) (va_cons (v_callC C_told_kinds (hr.mono (by decide)) (by rfl) (vp_cons (vv 1) (vp_cons (vv 3) (vp_cons (vv 5) vp_nil)))) va_nil))))))))) (vss_cons (vs_set 7 sc_entries_of.nd (v_callC C_is_sent (hr.mono (by decide)) (by rfl) (vp_cons (v_ix (vv 1) (v_glob GC.c_CHILDREN (by rfl))) (vp_cons (v_callC C_child_passes (hr.mono (by decide)) (by rfl) (vp_cons (vv 0) (vp_cons (vv 2) vp_nil))) (vp_cons (v_callC C_child_passes (hr.mono (by decide)) (by rfl) (vp_cons (vv 0) (vp_cons (vv 3) vp_nil))) vp_nil))))) (vss_one (vs_set 8 sc_entries_of.nd (v_tup (va_cons v_str (va_cons (v_ix (vv 4) v_int) (va_cons (v_callC C_told_value (hr.mono (by decide)) (by rfl) (vp_cons (vv 1) (vp_cons (vv 3) (vp_cons (v_ix (vv 4) v_int) vp_nil)))) va_nil)))))))) (vss_one (vs_ret (v_if (t_val (vv 7)) (v_tup (va_cons (vv 8) va_nil)) (v_tup va_nil)))))) (fun as g R h => ?_)
  · obtain ⟨n, v, k, ps, j, pl, src, later, y, rfl, ho, so, sl, hy, hR⟩ := h
    rfl
  · obtain ⟨n, v, k, ps, j, pl, src, later, y, rfl, ho, so, sl, hy, hR⟩ := h
    obtain ⟨xs, c⟩ := src
    obtain ⟨zs, e⟩ := later
    have hlen : ((xs.length : Nat) : Int) = n := so.len
    have hlen2 : ((zs.length : Nat) : Int) = n := sl.len
    cases y with
    | par p s =>
      have hp := hy.1
      simp only [sSeq, sIf, sSet, sOwn, sRet, sRetN, sNext, sDis, sSetIx, sApp, sAsg, sPar, sPar2O, sPar3, wB, wOp, wVar, wC, wNil, wCons, pNil, pCons, pPen, wTup, lLst, wL, wCall, wChain, Vl.wAnd, Vl.wOr, Vl.wNot, wAndV, wOrV, wNotV, wIf, wNeg, wIsN, wIsa, wFn, wSl, oNo, oPt, lList, wRevL, wIxO, wEqE, gN, gsNil, gsCons, gT, iL, iT, iR1, iR2, iZp, iEn, wYes, wipeV, endV, startV, e_fII, e_addI, e_addT, e_addL, e_intI, e_intB, e_mulT, e_mulL, e_lenL, e_lenT, e_tupL, e_tupT, e_eqI, e_neI, e_eqB, e_neB, e_eqS, e_neS, e_ix0T, e_ix1T, e_ix2T, e_ix3T, e_ix4T, e_ix0L, e_ix1L, e_ix2L, List.length_cons, List.length_nil, List.replicate, List.cons_append, List.nil_append, List.getElem?_cons_zero, List.getElem?_cons_succ, List.set_cons_zero, List.set_cons_succ, Nat.reduceAdd, Nat.reduceSub, List.replicate_succ, List.replicate_zero, true_and, if_true, if_false, Bool.false_eq_true, reduceIte, Int.toNat_natCast, fGt, fLtI, fLe, fGe, wFn, startV_one, isIntStr, isTupList, Bool.not_true, Bool.not_false, k_isInt_none, k_isInt_bool, k_isInt_int, k_isInt_str, k_isInt_list, k_isInt_tuple, k_isInt_dict, k_isBool_none, k_isBool_bool, k_isBool_int, k_isBool_str, k_isBool_list, k_isBool_tuple, k_isBool_dict, k_isTuple_none, k_isTuple_bool, k_isTuple_int, k_isTuple_str, k_isTuple_list, k_isTuple_tuple, k_isTuple_dict, k_isList_none, k_isList_bool, k_isList_int, k_isList_str, k_isList_list, k_isList_tuple, k_isList_dict, k_isStr_none, k_isStr_bool, k_isStr_int, k_isStr_str, k_isStr_list, k_isStr_tuple, k_isStr_dict, lRg1, lRg2, lLc2, iEm, lSeq, lOf, lRet, lRetO, lDis, lIf, lFn, sApp, lcV, lcV2, lp_cons, lp_nil, List.map_cons, List.map_nil, b_pc, b_cp, beq_self_eq_true, e_ix5T, e_ix6T, e_ix7T, isOwn, List.any_cons, List.any_nil, Bool.or_self, chgD]
      rw [show Vl.cutD [PyData.str (Str.ofString "parent"), PyData.int ((p : Nat) : Int), PyData.int s] (some 1) none = [PyData.int ((p : Nat) : Int), PyData.int s] from rfl]
      simp only [sSeq, sIf, sSet, sOwn, sRet, sRetN, sNext, sDis, sSetIx, sApp, sAsg, sPar, sPar2O, sPar3, wB, wOp, wVar, wC, wNil, wCons, pNil, pCons, pPen, wTup, lLst, wL, wCall, wChain, Vl.wAnd, Vl.wOr, Vl.wNot, wAndV, wOrV, wNotV, wIf, wNeg, wIsN, wIsa, wFn, wSl, oNo, oPt, lList, wRevL, wIxO, wEqE, gN, gsNil, gsCons, gT, iL, iT, iR1, iR2, iZp, iEn, wYes, wipeV, endV, startV, e_fII, e_addI, e_addT, e_addL, e_intI, e_intB, e_mulT, e_mulL, e_lenL, e_lenT, e_tupL, e_tupT, e_eqI, e_neI, e_eqB, e_neB, e_eqS, e_neS, e_ix0T, e_ix1T, e_ix2T, e_ix3T, e_ix4T, e_ix0L, e_ix1L, e_ix2L, List.length_cons, List.length_nil, List.replicate, List.cons_append, List.nil_append, List.getElem?_cons_zero, List.getElem?_cons_succ, List.set_cons_zero, List.set_cons_succ, Nat.reduceAdd, Nat.reduceSub, List.replicate_succ, List.replicate_zero, true_and, if_true, if_false, Bool.false_eq_true, reduceIte, Int.toNat_natCast, fGt, fLtI, fLe, fGe, wFn, startV_one, isIntStr, isTupList, Bool.not_true, Bool.not_false, k_isInt_none, k_isInt_bool, k_isInt_int, k_isInt_str, k_isInt_list, k_isInt_tuple, k_isInt_dict, k_isBool_none, k_isBool_bool, k_isBool_int, k_isBool_str, k_isBool_list, k_isBool_tuple, k_isBool_dict, k_isTuple_none, k_isTuple_bool, k_isTuple_int, k_isTuple_str, k_isTuple_list, k_isTuple_tuple, k_isTuple_dict, k_isList_none, k_isList_bool, k_isList_int, k_isList_str, k_isList_list, k_isList_tuple, k_isList_dict, k_isStr_none, k_isStr_bool, k_isStr_int, k_isStr_str, k_isStr_list, k_isStr_tuple, k_isStr_dict, lRg1, lRg2, lLc2, iEm, lSeq, lOf, lRet, lRetO, lDis, lIf, lFn, sApp, lcV, lcV2, lp_cons, lp_nil, List.map_cons, List.map_nil, b_pc, b_cp, beq_self_eq_true, e_ix5T, e_ix6T, e_ix7T, isOwn, List.any_cons, List.any_nil, Bool.or_self, plD]
      refine fIxT_at (j := 0) rfl (ix_par (i := ((p : Nat) : Int)) (by omega) (by omega) ⟨n, v, k, ps, j, _, rfl, ho.len, ⟨n, v, k, ps, j, _, rfl, ho.len, ⟨pl.pa, _, _, rfl, ?_⟩⟩⟩)
      refine ⟨pl, (zs, e), p, rfl, by decide, ?_⟩
      change R (.tuple ((if sentB pl.pa (vpB ps (xs.getD p 0)) (vpB ps s) = true then some (Ent.par p s (toldB pl (zs, e) p)) else none).toList.map entD)) g at hR
      rw [Int.toNat_natCast]
      cases h : sentB pl.pa (vpB ps (xs.getD p 0)) (vpB ps s) <;> rw [h] at hR
      · simp only [sSeq, sIf, sSet, sOwn, sRet, sRetN, sNext, sDis, sSetIx, sApp, sAsg, sPar, sPar2O, sPar3, wB, wOp, wVar, wC, wNil, wCons, pNil, pCons, pPen, wTup, lLst, wL, wCall, wChain, Vl.wAnd, Vl.wOr, Vl.wNot, wAndV, wOrV, wNotV, wIf, wNeg, wIsN, wIsa, wFn, wSl, oNo, oPt, lList, wRevL, wIxO, wEqE, gN, gsNil, gsCons, gT, iL, iT, iR1, iR2, iZp, iEn, wYes, wipeV, endV, startV, e_fII, e_addI, e_addT, e_addL, e_intI, e_intB, e_mulT, e_mulL, e_lenL, e_lenT, e_tupL, e_tupT, e_eqI, e_neI, e_eqB, e_neB, e_eqS, e_neS, e_ix0T, e_ix1T, e_ix2T, e_ix3T, e_ix4T, e_ix0L, e_ix1L, e_ix2L, List.length_cons, List.length_nil, List.replicate, List.cons_append, List.nil_append, List.getElem?_cons_zero, List.getElem?_cons_succ, List.set_cons_zero, List.set_cons_succ, Nat.reduceAdd, Nat.reduceSub, List.replicate_succ, List.replicate_zero, true_and, if_true, if_false, Bool.false_eq_true, reduceIte, Int.toNat_natCast, fGt, fLtI, fLe, fGe, wFn, startV_one, isIntStr, isTupList, Bool.not_true, Bool.not_false, k_isInt_none, k_isInt_bool, k_isInt_int, k_isInt_str, k_isInt_list, k_isInt_tuple, k_isInt_dict, k_isBool_none, k_isBool_bool, k_isBool_int, k_isBool_str, k_isBool_list, k_isBool_tuple, k_isBool_dict, k_isTuple_none, k_isTuple_bool, k_isTuple_int, k_isTuple_str, k_isTuple_list, k_isTuple_tuple, k_isTuple_dict, k_isList_none, k_isList_bool, k_isList_int, k_isList_str, k_isList_list, k_isList_tuple, k_isList_dict, k_isStr_none, k_isStr_bool, k_isStr_int, k_isStr_str, k_isStr_list, k_isStr_tuple, k_isStr_dict, lRg1, lRg2, lLc2, iEm, lSeq, lOf, lRet, lRetO, lDis, lIf, lFn, sApp, lcV, lcV2, lp_cons, lp_nil, List.map_cons, List.map_nil, b_pc, b_cp, beq_self_eq_true, e_ix5T, e_ix6T, e_ix7T, isOwn, List.any_cons, List.any_nil, Bool.or_self]
        exact ⟨by decide, g, Nat.le_refl _, hR⟩
      · simp only [sSeq, sIf, sSet, sOwn, sRet, sRetN, sNext, sDis, sSetIx, sApp, sAsg, sPar, sPar2O, sPar3, wB, wOp, wVar, wC, wNil, wCons, pNil, pCons, pPen, wTup, lLst, wL, wCall, wChain, Vl.wAnd, Vl.wOr, Vl.wNot, wAndV, wOrV, wNotV, wIf, wNeg, wIsN, wIsa, wFn, wSl, oNo, oPt, lList, wRevL, wIxO, wEqE, gN, gsNil, gsCons, gT, iL, iT, iR1, iR2, iZp, iEn, wYes, wipeV, endV, startV, e_fII, e_addI, e_addT, e_addL, e_intI, e_intB, e_mulT, e_mulL, e_lenL, e_lenT, e_tupL, e_tupT, e_eqI, e_neI, e_eqB, e_neB, e_eqS, e_neS, e_ix0T, e_ix1T, e_ix2T, e_ix3T, e_ix4T, e_ix0L, e_ix1L, e_ix2L, List.length_cons, List.length_nil, List.replicate, List.cons_append, List.nil_append, List.getElem?_cons_zero, List.getElem?_cons_succ, List.set_cons_zero, List.set_cons_succ, Nat.reduceAdd, Nat.reduceSub, List.replicate_succ, List.replicate_zero, true_and, if_true, if_false, Bool.false_eq_true, reduceIte, Int.toNat_natCast, fGt, fLtI, fLe, fGe, wFn, startV_one, isIntStr, isTupList, Bool.not_true, Bool.not_false, k_isInt_none, k_isInt_bool, k_isInt_int, k_isInt_str, k_isInt_list, k_isInt_tuple, k_isInt_dict, k_isBool_none, k_isBool_bool, k_isBool_int, k_isBool_str, k_isBool_list, k_isBool_tuple, k_isBool_dict, k_isTuple_none, k_isTuple_bool, k_isTuple_int, k_isTuple_str, k_isTuple_list, k_isTuple_tuple, k_isTuple_dict, k_isList_none, k_isList_bool, k_isList_int, k_isList_str, k_isList_list, k_isList_tuple, k_isList_dict, k_isStr_none, k_isStr_bool, k_isStr_int, k_isStr_str, k_isStr_list, k_isStr_tuple, k_isStr_dict, lRg1, lRg2, lLc2, iEm, lSeq, lOf, lRet, lRetO, lDis, lIf, lFn, sApp, lcV, lcV2, lp_cons, lp_nil, List.map_cons, List.map_nil, b_pc, b_cp, beq_self_eq_true, e_ix5T, e_ix6T, e_ix7T, isOwn, List.any_cons, List.any_nil, Bool.or_self]
        exact ⟨by decide, g, Nat.le_refl _, hR⟩
    | chl b =>
      simp only [sSeq, sIf, sSet, sOwn, sRet, sRetN, sNext, sDis, sSetIx, sApp, sAsg, sPar, sPar2O, sPar3, wB, wOp, wVar, wC, wNil, wCons, pNil, pCons, pPen, wTup, lLst, wL, wCall, wChain, Vl.wAnd, Vl.wOr, Vl.wNot, wAndV, wOrV, wNotV, wIf, wNeg, wIsN, wIsa, wFn, wSl, oNo, oPt, lList, wRevL, wIxO, wEqE, gN, gsNil, gsCons, gT, iL, iT, iR1, iR2, iZp, iEn, wYes, wipeV, endV, startV, e_fII, e_addI, e_addT, e_addL, e_intI, e_intB, e_mulT, e_mulL, e_lenL, e_lenT, e_tupL, e_tupT, e_eqI, e_neI, e_eqB, e_neB, e_eqS, e_neS, e_ix0T, e_ix1T, e_ix2T, e_ix3T, e_ix4T, e_ix0L, e_ix1L, e_ix2L, List.length_cons, List.length_nil, List.replicate, List.cons_append, List.nil_append, List.getElem?_cons_zero, List.getElem?_cons_succ, List.set_cons_zero, List.set_cons_succ, Nat.reduceAdd, Nat.reduceSub, List.replicate_succ, List.replicate_zero, true_and, if_true, if_false, Bool.false_eq_true, reduceIte, Int.toNat_natCast, fGt, fLtI, fLe, fGe, wFn, startV_one, isIntStr, isTupList, Bool.not_true, Bool.not_false, k_isInt_none, k_isInt_bool, k_isInt_int, k_isInt_str, k_isInt_list, k_isInt_tuple, k_isInt_dict, k_isBool_none, k_isBool_bool, k_isBool_int, k_isBool_str, k_isBool_list, k_isBool_tuple, k_isBool_dict, k_isTuple_none, k_isTuple_bool, k_isTuple_int, k_isTuple_str, k_isTuple_list, k_isTuple_tuple, k_isTuple_dict, k_isList_none, k_isList_bool, k_isList_int, k_isList_str, k_isList_list, k_isList_tuple, k_isList_dict, k_isStr_none, k_isStr_bool, k_isStr_int, k_isStr_str, k_isStr_list, k_isStr_tuple, k_isStr_dict, lRg1, lRg2, lLc2, iEm, lSeq, lOf, lRet, lRetO, lDis, lIf, lFn, sApp, lcV, lcV2, lp_cons, lp_nil, List.map_cons, List.map_nil, b_pc, b_cp, beq_self_eq_true, e_ix5T, e_ix6T, e_ix7T, isOwn, List.any_cons, List.any_nil, Bool.or_self, chgD, chChg, plD]
      refine ⟨n, v, k, ps, j, xs, c, rfl, ho, so, ⟨n, v, k, ps, j, zs, e, rfl, ho, sl, ⟨pl.ch, _, _, rfl, ?_⟩⟩⟩
      refine ⟨pl, (zs, e), b, rfl, fun q hq => ?_, by decide, ?_⟩
      · have := hy q hq
        show 0 ≤ q.2 ∧ q.2 < ((zs.length : Nat) : Int)
        omega
      · change R (.tuple ((if sentB pl.ch (cpB ps xs c) (cpB ps zs e) = true then some (Ent.chl b (valB pl (zs, e) b)) else none).toList.map entD)) g at hR
        cases h : sentB pl.ch (cpB ps xs c) (cpB ps zs e) <;> rw [h] at hR
        · simp only [sSeq, sIf, sSet, sOwn, sRet, sRetN, sNext, sDis, sSetIx, sApp, sAsg, sPar, sPar2O, sPar3, wB, wOp, wVar, wC, wNil, wCons, pNil, pCons, pPen, wTup, lLst, wL, wCall, wChain, Vl.wAnd, Vl.wOr, Vl.wNot, wAndV, wOrV, wNotV, wIf, wNeg, wIsN, wIsa, wFn, wSl, oNo, oPt, lList, wRevL, wIxO, wEqE, gN, gsNil, gsCons, gT, iL, iT, iR1, iR2, iZp, iEn, wYes, wipeV, endV, startV, e_fII, e_addI, e_addT, e_addL, e_intI, e_intB, e_mulT, e_mulL, e_lenL, e_lenT, e_tupL, e_tupT, e_eqI, e_neI, e_eqB, e_neB, e_eqS, e_neS, e_ix0T, e_ix1T, e_ix2T, e_ix3T, e_ix4T, e_ix0L, e_ix1L, e_ix2L, List.length_cons, List.length_nil, List.replicate, List.cons_append, List.nil_append, List.getElem?_cons_zero, List.getElem?_cons_succ, List.set_cons_zero, List.set_cons_succ, Nat.reduceAdd, Nat.reduceSub, List.replicate_succ, List.replicate_zero, true_and, if_true, if_false, Bool.false_eq_true, reduceIte, Int.toNat_natCast, fGt, fLtI, fLe, fGe, wFn, startV_one, isIntStr, isTupList, Bool.not_true, Bool.not_false, k_isInt_none, k_isInt_bool, k_isInt_int, k_isInt_str, k_isInt_list, k_isInt_tuple, k_isInt_dict, k_isBool_none, k_isBool_bool, k_isBool_int, k_isBool_str, k_isBool_list, k_isBool_tuple, k_isBool_dict, k_isTuple_none, k_isTuple_bool, k_isTuple_int, k_isTuple_str, k_isTuple_list, k_isTuple_tuple, k_isTuple_dict, k_isList_none, k_isList_bool, k_isList_int, k_isList_str, k_isList_list, k_isList_tuple, k_isList_dict, k_isStr_none, k_isStr_bool, k_isStr_int, k_isStr_str, k_isStr_list, k_isStr_tuple, k_isStr_dict, lRg1, lRg2, lLc2, iEm, lSeq, lOf, lRet, lRetO, lDis, lIf, lFn, sApp, lcV, lcV2, lp_cons, lp_nil, List.map_cons, List.map_nil, b_pc, b_cp, beq_self_eq_true, e_ix5T, e_ix6T, e_ix7T, isOwn, List.any_cons, List.any_nil, Bool.or_self]
          exact ⟨by decide, g, Nat.le_refl _, hR⟩
        · simp only [sSeq, sIf, sSet, sOwn, sRet, sRetN, sNext, sDis, sSetIx, sApp, sAsg, sPar, sPar2O, sPar3, wB, wOp, wVar, wC, wNil, wCons, pNil, pCons, pPen, wTup, lLst, wL, wCall, wChain, Vl.wAnd, Vl.wOr, Vl.wNot, wAndV, wOrV, wNotV, wIf, wNeg, wIsN, wIsa, wFn, wSl, oNo, oPt, lList, wRevL, wIxO, wEqE, gN, gsNil, gsCons, gT, iL, iT, iR1, iR2, iZp, iEn, wYes, wipeV, endV, startV, e_fII, e_addI, e_addT, e_addL, e_intI, e_intB, e_mulT, e_mulL, e_lenL, e_lenT, e_tupL, e_tupT, e_eqI, e_neI, e_eqB, e_neB, e_eqS, e_neS, e_ix0T, e_ix1T, e_ix2T, e_ix3T, e_ix4T, e_ix0L, e_ix1L, e_ix2L, List.length_cons, List.length_nil, List.replicate, List.cons_append, List.nil_append, List.getElem?_cons_zero, List.getElem?_cons_succ, List.set_cons_zero, List.set_cons_succ, Nat.reduceAdd, Nat.reduceSub, List.replicate_succ, List.replicate_zero, true_and, if_true, if_false, Bool.false_eq_true, reduceIte, Int.toNat_natCast, fGt, fLtI, fLe, fGe, wFn, startV_one, isIntStr, isTupList, Bool.not_true, Bool.not_false, k_isInt_none, k_isInt_bool, k_isInt_int, k_isInt_str, k_isInt_list, k_isInt_tuple, k_isInt_dict, k_isBool_none, k_isBool_bool, k_isBool_int, k_isBool_str, k_isBool_list, k_isBool_tuple, k_isBool_dict, k_isTuple_none, k_isTuple_bool, k_isTuple_int, k_isTuple_str, k_isTuple_list, k_isTuple_tuple, k_isTuple_dict, k_isList_none, k_isList_bool, k_isList_int, k_isList_str, k_isList_list, k_isList_tuple, k_isList_dict, k_isStr_none, k_isStr_bool, k_isStr_int, k_isStr_str, k_isStr_list, k_isStr_tuple, k_isStr_dict, lRg1, lRg2, lLc2, iEm, lSeq, lOf, lRet, lRetO, lDis, lIf, lFn, sApp, lcV, lcV2, lp_cons, lp_nil, List.map_cons, List.map_nil, b_pc, b_cp, beq_self_eq_true, e_ix5T, e_ix6T, e_ix7T, isOwn, List.any_cons, List.any_nil, Bool.or_self]
          exact ⟨by decide, g, Nat.le_refl _, hR⟩


end
end Law
namespace Law
open PySem PySem.Spec PyProof.Rows L2 Vl
section
variable {P : Program} {w : World} {K : PySem.W.Frag} {mg : Str → Option Value} {base : Heap}
section
variable {R : PyData → Prop}
theorem e_src0 {xs : List Int} {c : Option (Int × Int)} : fIx (srcD xs c) (.int 0) R = R (.tuple (xs.map .int)) := fIx_is (j := 0) rfl rfl
theorem e_src1 {xs : List Int} {c : Option (Int × Int)} : fIx (srcD xs c) (.int 1) R = R (chD c) := fIx_is (j := 1) rfl rfl
theorem e_pl0 {p : Pl} : fIx (plD p) (.int 0) R = R (.int p.lanes) := fIx_is (j := 0) rfl rfl
theorem e_pl1 {p : Pl} : fIx (plD p) (.int 1) R = R (.int p.late) := fIx_is (j := 1) rfl rfl
theorem e_pl2 {p : Pl} : fIx (plD p) (.int 2) R = R (.str p.ch.s) := fIx_is (j := 2) rfl rfl
theorem e_pl3 {p : Pl} : fIx (plD p) (.int 3) R = R (.str p.pa.s) := fIx_is (j := 3) rfl rfl
theorem e_pl4 {p : Pl} : fIx (plD p) (.int 4) R = R (.bool p.tv) := fIx_is (j := 4) rfl rfl
theorem e_pl5 {p : Pl} : fIx (plD p) (.int 5) R = R (.bool p.tc) := fIx_is (j := 5) rfl rfl
theorem e_pl6 {p : Pl} : fIx (plD p) (.int 6) R = R (.bool p.la) := fIx_is (j := 6) rfl rfl
theorem e_pl7 {p : Pl} : fIx (plD p) (.int 7) R = R (.str p.an.s) := fIx_is (j := 7) rfl rfl
end
def spMof : VSp := fun as g R => ∃ (l : List (Str × List PyData)) (x : Str), as = [.val (.list (l.map fun q => .tuple [.str q.1, .tuple q.2])), .val (.str x)] ∧ R (match l.find? (fun q => q.1 == x) with | none => .none | some q => .tuple q.2) g
theorem ok_message_of (B : Bi mg)  (D : Df K mg "message_of" s_message_of ["changed", "word"]) : Ck P w K mg base "message_of" ["changed", "word"] 1 spMof := by
  refine ck_v D sc_message_of (fun as g R h => ?_) (fun f cdv A outer s H E hr => (vss_cons (vs_for PassesOwn.never rfl (vi_list (vv 0)) (vg_tupn (vgs_cons (vg_n 2 sc_message_of.nd) (vgs_cons (vg_n 3 sc_message_of.nd) vgs_nil))) (vss_one (vs_if (t_eq hr.units (vv 2) (vv 1)) (vss_one (vs_ret (vv 3))) vss_nil))) (vss_one (vs_ret v_non)))) (fun as g R h => ?_)
  · obtain ⟨l, x, rfl, hR⟩ := h
    rfl
  · obtain ⟨l, x, rfl, hR⟩ := h
    simp only [sSeq, sIf, sSet, sOwn, sRet, sRetN, sNext, sDis, sSetIx, sApp, sAsg, sPar, sPar2O, sPar3, wB, wOp, wVar, wC, wNil, wCons, pNil, pCons, pPen, wTup, lLst, wL, wCall, wChain, Vl.wAnd, Vl.wOr, Vl.wNot, wAndV, wOrV, wNotV, wIf, wNeg, wIsN, wIsa, wFn, wSl, oNo, oPt, lList, wRevL, wIxO, wEqE, gN, gsNil, gsCons, gT, iL, iT, iR1, iR2, iZp, iEn, wYes, wipeV, endV, startV, e_fII, e_addI, e_addT, e_addL, e_intI, e_intB, e_mulT, e_mulL, e_lenL, e_lenT, e_tupL, e_tupT, e_eqI, e_neI, e_eqB, e_neB, e_eqS, e_neS, e_ix0T, e_ix1T, e_ix2T, e_ix3T, e_ix4T, e_ix0L, e_ix1L, e_ix2L, List.length_cons, List.length_nil, List.replicate, List.cons_append, List.nil_append, List.getElem?_cons_zero, List.getElem?_cons_succ, List.set_cons_zero, List.set_cons_succ, Nat.reduceAdd, Nat.reduceSub, List.replicate_succ, List.replicate_zero, true_and, if_true, if_false, Bool.false_eq_true, reduceIte, Int.toNat_natCast, fGt, fLtI, fLe, fGe, wFn, startV_one, isIntStr, isTupList, Bool.not_true, Bool.not_false, k_isInt_none, k_isInt_bool, k_isInt_int, k_isInt_str, k_isInt_list, k_isInt_tuple, k_isInt_dict, k_isBool_none, k_isBool_bool, k_isBool_int, k_isBool_str, k_isBool_list, k_isBool_tuple, k_isBool_dict, k_isTuple_none, k_isTuple_bool, k_isTuple_int, k_isTuple_str, k_isTuple_list, k_isTuple_tuple, k_isTuple_dict, k_isList_none, k_isList_bool, k_isList_int, k_isList_str, k_isList_list, k_isList_tuple, k_isList_dict, k_isStr_none, k_isStr_bool, k_isStr_int, k_isStr_str, k_isStr_list, k_isStr_tuple, k_isStr_dict, lRg1, lRg2, lLc2, iEm, lSeq, lOf, lRet, lRetO, lDis, lIf, lFn, sApp, lcV, lcV2, lp_cons, lp_nil, List.map_cons, List.map_nil, b_pc, b_cp, beq_self_eq_true, isOwn, List.any_cons, List.any_nil, Bool.or_self, e_src0, e_src1, e_pl0, e_pl2, e_pl3, e_pl4, e_pl5, e_pl6]
    show loopV _ _ _ (l.map fun q => PyData.tuple [.str q.1, .tuple q.2]) _ _
    generalize PyData.list (l.map fun q => PyData.tuple [.str q.1, .tuple q.2]) = a0
    suffices h : ∀ s2 s3 : Sl, loopV (gT 2 (gsCons (gN 2) (gsCons (gN 3) gsNil))) (sIf (wB (wOp fEq (wVar 2) (wVar 1))) (sRet (wVar 3)) sNext) { nx := sRet (wC PyData.none) { nx := fun x g' => ∃ g2, g' ≤ g2 ∧ R PyData.none g2, rt := fun d g' => ∃ g2, g' ≤ g2 ∧ R d g2 }, rt := fun d g' => ∃ g2, g' ≤ g2 ∧ R d g2 } (l.map fun q => PyData.tuple [.str q.1, .tuple q.2]) [Sl.val a0, Sl.val (.str x), s2, s3] g from h _ _
    induction l with
    | nil =>
      intro s2 s3
      simp only [sSeq, sIf, sSet, sOwn, sRet, sRetN, sNext, sDis, sSetIx, sApp, sAsg, sPar, sPar2O, sPar3, wB, wOp, wVar, wC, wNil, wCons, pNil, pCons, pPen, wTup, lLst, wL, wCall, wChain, Vl.wAnd, Vl.wOr, Vl.wNot, wAndV, wOrV, wNotV, wIf, wNeg, wIsN, wIsa, wFn, wSl, oNo, oPt, lList, wRevL, wIxO, wEqE, gN, gsNil, gsCons, gT, iL, iT, iR1, iR2, iZp, iEn, wYes, wipeV, endV, startV, e_fII, e_addI, e_addT, e_addL, e_intI, e_intB, e_mulT, e_mulL, e_lenL, e_lenT, e_tupL, e_tupT, e_eqI, e_neI, e_eqB, e_neB, e_eqS, e_neS, e_ix0T, e_ix1T, e_ix2T, e_ix3T, e_ix4T, e_ix0L, e_ix1L, e_ix2L, List.length_cons, List.length_nil, List.replicate, List.cons_append, List.nil_append, List.getElem?_cons_zero, List.getElem?_cons_succ, List.set_cons_zero, List.set_cons_succ, Nat.reduceAdd, Nat.reduceSub, List.replicate_succ, List.replicate_zero, true_and, if_true, if_false, Bool.false_eq_true, reduceIte, Int.toNat_natCast, fGt, fLtI, fLe, fGe, wFn, startV_one, isIntStr, isTupList, Bool.not_true, Bool.not_false, k_isInt_none, k_isInt_bool, k_isInt_int, k_isInt_str, k_isInt_list, k_isInt_tuple, k_isInt_dict, k_isBool_none, k_isBool_bool, k_isBool_int, k_isBool_str, k_isBool_list, k_isBool_tuple, k_isBool_dict, k_isTuple_none, k_isTuple_bool, k_isTuple_int, k_isTuple_str, k_isTuple_list, k_isTuple_tuple, k_isTuple_dict, k_isList_none, k_isList_bool, k_isList_int, k_isList_str, k_isList_list, k_isList_tuple, k_isList_dict, k_isStr_none, k_isStr_bool, k_isStr_int, k_isStr_str, k_isStr_list, k_isStr_tuple, k_isStr_dict, lRg1, lRg2, lLc2, iEm, lSeq, lOf, lRet, lRetO, lDis, lIf, lFn, sApp, lcV, lcV2, lp_cons, lp_nil, List.map_cons, List.map_nil, b_pc, b_cp, beq_self_eq_true, isOwn, List.any_cons, List.any_nil, Bool.or_self, e_src0, e_src1, e_pl0, e_pl2, e_pl3, e_pl4, e_pl5, e_pl6]
      exact ⟨g, Nat.le_refl _, hR⟩
    | cons q l ih =>
      intro s2 s3
      rw [List.map_cons, lp_cons]
      rw [List.find?_cons] at hR
      simp only [sSeq, sIf, sSet, sOwn, sRet, sRetN, sNext, sDis, sSetIx, sApp, sAsg, sPar, sPar2O, sPar3, wB, wOp, wVar, wC, wNil, wCons, pNil, pCons, pPen, wTup, lLst, wL, wCall, wChain, Vl.wAnd, Vl.wOr, Vl.wNot, wAndV, wOrV, wNotV, wIf, wNeg, wIsN, wIsa, wFn, wSl, oNo, oPt, lList, wRevL, wIxO, wEqE, gN, gsNil, gsCons, gT, iL, iT, iR1, iR2, iZp, iEn, wYes, wipeV, endV, startV, e_fII, e_addI, e_addT, e_addL, e_intI, e_intB, e_mulT, e_mulL, e_lenL, e_lenT, e_tupL, e_tupT, e_eqI, e_neI, e_eqB, e_neB, e_eqS, e_neS, e_ix0T, e_ix1T, e_ix2T, e_ix3T, e_ix4T, e_ix0L, e_ix1L, e_ix2L, List.length_cons, List.length_nil, List.replicate, List.cons_append, List.nil_append, List.getElem?_cons_zero, List.getElem?_cons_succ, List.set_cons_zero, List.set_cons_succ, Nat.reduceAdd, Nat.reduceSub, List.replicate_succ, List.replicate_zero, true_and, if_true, if_false, Bool.false_eq_true, reduceIte, Int.toNat_natCast, fGt, fLtI, fLe, fGe, wFn, startV_one, isIntStr, isTupList, Bool.not_true, Bool.not_false, k_isInt_none, k_isInt_bool, k_isInt_int, k_isInt_str, k_isInt_list, k_isInt_tuple, k_isInt_dict, k_isBool_none, k_isBool_bool, k_isBool_int, k_isBool_str, k_isBool_list, k_isBool_tuple, k_isBool_dict, k_isTuple_none, k_isTuple_bool, k_isTuple_int, k_isTuple_str, k_isTuple_list, k_isTuple_tuple, k_isTuple_dict, k_isList_none, k_isList_bool, k_isList_int, k_isList_str, k_isList_list, k_isList_tuple, k_isList_dict, k_isStr_none, k_isStr_bool, k_isStr_int, k_isStr_str, k_isStr_list, k_isStr_tuple, k_isStr_dict, lRg1, lRg2, lLc2, iEm, lSeq, lOf, lRet, lRetO, lDis, lIf, lFn, sApp, lcV, lcV2, lp_cons, lp_nil, List.map_cons, List.map_nil, b_pc, b_cp, beq_self_eq_true, isOwn, List.any_cons, List.any_nil, Bool.or_self, e_src0, e_src1, e_pl0, e_pl2, e_pl3, e_pl4, e_pl5, e_pl6]
      cases h : q.1 == x with
      | true =>
        rw [h] at hR
        exact ⟨g, Nat.le_refl _, hR⟩
      | false =>
        rw [h] at hR
        exact ih hR _ _

theorem mof_1 {x : Str} {es : List PyData} {l : List (Str × List PyData)} {R : PyData → Nat → Prop} {g : Nat} (h : R (.tuple es) g) : spMof [.val (.list (.tuple [.str x, .tuple es] :: l.map fun q => .tuple [.str q.1, .tuple q.2])), .val (.str x)] g R :=
  ⟨(x, es) :: l, x, rfl, by rw [List.find?_cons, show ((x, es).1 == x) = true from beq_self_eq_true x]; exact h⟩
theorem mof_1n {x y : Str} {es : List PyData} {R : PyData → Nat → Prop} {g : Nat} (hn : (x == y) = false) (h : R .none g) : spMof [.val (.list [.tuple [.str x, .tuple es]]), .val (.str y)] g R :=
  ⟨[(x, es)], y, rfl, by rw [List.find?_cons, show ((x, es).1 == y) = false from hn]; exact h⟩
theorem mof_2 {x y : Str} {es fs : List PyData} {R : PyData → Nat → Prop} {g : Nat} (hn : (x == y) = false) (h : R (.tuple fs) g) : spMof [.val (.list [.tuple [.str x, .tuple es], .tuple [.str y, .tuple fs]]), .val (.str y)] g R :=
  ⟨[(x, es), (y, fs)], y, rfl, by rw [List.find?_cons, show ((x, es).1 == y) = false from hn, List.find?_cons, show ((y, fs).1 == y) = true from beq_self_eq_true y]; exact h⟩
/-- a commit of one change, or of a parent's and then the child's -/
def ShC (f : List Chg) : Prop := (∃ a, f = [a]) ∨ ∃ p s c, f = [.par p s, .chl c]
def spMs : VSp := fun as g R => ∃ (n v k : Int) (ps : List (Int × Int)) (j : Bool) (pl : Pl) (src : SrcV) (f : List Chg), as = [.val (caseD n v k ps j), .val (plD pl), .val (srcD src.1 src.2), .val (comD f)] ∧ CaseOk n v k ps ∧ PlOk pl ∧ SrcOk n v k src.1 src.2 ∧ ShC f ∧ (∀ y ∈ f, ChgIn n v k y) ∧ R (.tuple ((msgsB pl ps src f).map msgD)) g
theorem comD1 (a : Chg) : comD [a] = .tuple [chgD a] := rfl
theorem comD2 (a b : Chg) : comD [a, b] = .tuple [chgD a, chgD b] := rfl
theorem e_par0 {p : Nat} {s : Int} {R : PyData → Prop} : fIx (chgD (.par p s)) (.int 0) R = R (.str "parent") := fIx_is (j := 0) rfl rfl
theorem e_par1 {p : Nat} {s : Int} {R : PyData → Prop} : fIx (chgD (.par p s)) (.int 1) R = R (.int ((p : Nat) : Int)) := fIx_is (j := 1) rfl rfl
theorem e_par2 {p : Nat} {s : Int} {R : PyData → Prop} : fIx (chgD (.par p s)) (.int 2) R = R (.int s) := fIx_is (j := 2) rfl rfl
theorem e_chl0 {c : Option (Int × Int)} {R : PyData → Prop} : fIx (chgD (.chl c)) (.int 0) R = R (.str "child") := fIx_is (j := 0) rfl rfl
theorem e_chl1 {c : Option (Int × Int)} {R : PyData → Prop} : fIx (chgD (.chl c)) (.int 1) R = R (chD c) := fIx_is (j := 1) rfl rfl
def optL : Option Ent → List PyData
  | none => []
  | some e => [entD e]
theorem optL_eq (o : Option Ent) : o.toList.map entD = optL o := by cases o <;> rfl
def qD (q : Str × List PyData) : PyData := .tuple [.str q.1, .tuple q.2]
def mofB (l : List (Str × List PyData)) (x : Str) : PyData := match l.find? (fun q => q.1 == x) with
  | none => .none
  | some q => .tuple q.2
/-- for each lane what it gets -/
def lansB (pl : Pl) (l : List (Str × List PyData)) : PyData := if pl.lanes = 1 then .tuple [.tuple (l.flatMap (·.2))] else .tuple [mofB l "parent", mofB l "child"]
def spIl : VSp := fun as g R => ∃ (pl : Pl) (l : List (Str × List PyData)), as = [.val (plD pl), .val (.list (l.map qD))] ∧ l.length ≤ 2 ∧ (∀ q ∈ l, q.2.length ≤ 8) ∧ R (lansB pl l) g
theorem flat_le {l : List (Str × List PyData)} {m : Nat} (h : ∀ q ∈ l, q.2.length ≤ m) : (l.flatMap (·.2)).length ≤ l.length * m := by
  induction l with
  | nil => simp
  | cons q l ih =>
    rw [List.flatMap_cons, List.length_append, List.length_cons]
    have h1 := h q List.mem_cons_self
    have h2 := ih fun q hq => h q (List.mem_cons_of_mem _ hq)
    have h3 : (l.length + 1) * m = l.length * m + m := Nat.succ_mul _ _
    omega
theorem ok_in_lanes (B : Bi mg) (GC : Gs K mg) (C_message_of : Ck P w K mg base "message_of" ["changed", "word"] 1 spMof) (D : Df K mg "in_lanes" s_in_lanes ["plan", "changed"]) : Ck P w K mg base "in_lanes" ["plan", "changed"] 2 spIl := by
  refine ck_v D sc_in_lanes (fun as g R h => ?_) (fun f cdv A outer s H E hr => (vss_cons (vs_if (t_eq hr.units (v_ix (vv 0) (v_glob GC.c_LANES (by rfl))) v_int) (vss_one (vs_ret (v_tup (va_cons (v_toTuple (by rfl) B.b_tuple (va_cons (v_l (vl_lc2 rfl sc_in_lanes.nd (vs1 := [4]) (vi_list (vv 1)) (blkOk_by (own := [("_", 2), ("entries", 3), ("entry", 4)]) (by show blkC ["plan", "changed", "_", "entries", "entry", "word"] (defScope s_in_lanes) _ _ = true; decide +kernel)) (by decide) (fun _ _ _ _ _ => (vg_tupn (vgs_cons (vg_n 2 sc_in_lanes.nd) (vgs_cons (vg_n 3 sc_in_lanes.nd) vgs_nil)))) (fun _ _ _ _ _ => vts_nil) (fun _ _ _ _ _ => (vi_tup (vv 3))) (fun _ _ _ _ _ => (vg_n 4 sc_in_lanes.nd)) (fun _ _ _ _ _ => vts_nil) (fun _ _ _ _ _ => (vv 4)))) va_nil)) va_nil)))) vss_nil) (vss_one (vs_ret (v_toTuple (by rfl) B.b_tuple (va_cons (v_l (vl_lc rfl sc_in_lanes.nd (vi_tup (v_glob GC.c_LANE_WORDS (by rfl))) (blkOk_by (own := [("word", 5)]) (by show blkC ["plan", "changed", "_", "entries", "entry", "word"] (defScope s_in_lanes) _ _ = true; decide +kernel)) (fun _ _ _ _ _ => (vg_n 5 sc_in_lanes.nd)) (fun _ _ _ _ _ => vts_nil) (fun _ _ _ _ _ => (v_callC C_message_of (hr.mono (by decide)) (by rfl) (vp_cons (vv 1) (vp_cons (vv 5) vp_nil)))))) va_nil)))))) (fun as g R h => ?_)
  · obtain ⟨pl, l, rfl, hl, hq, hR⟩ := h
    rfl
  · obtain ⟨pl, l, rfl, hl, hq, hR⟩ := h
    have hf := flat_le hq
    have hf2 : (l.flatMap (·.2)).length ≤ 16 := by omega
    simp only [sSeq, sIf, sSet, sOwn, sRet, sRetN, sNext, sDis, sSetIx, sApp, sAsg, sPar, sPar2O, sPar3, wB, wOp, wVar, wC, wNil, wCons, pNil, pCons, pPen, wTup, lLst, wL, wCall, wChain, Vl.wAnd, Vl.wOr, Vl.wNot, wAndV, wOrV, wNotV, wIf, wNeg, wIsN, wIsa, wFn, wSl, oNo, oPt, lList, wRevL, wIxO, wEqE, gN, gsNil, gsCons, gT, iL, iT, iR1, iR2, iZp, iEn, wYes, wipeV, endV, startV, e_fII, e_addI, e_addT, e_addL, e_intI, e_intB, e_mulT, e_mulL, e_lenL, e_lenT, e_tupL, e_tupT, e_eqI, e_neI, e_eqB, e_neB, e_eqS, e_neS, e_ix0T, e_ix1T, e_ix2T, e_ix3T, e_ix4T, e_ix0L, e_ix1L, e_ix2L, List.length_cons, List.length_nil, List.replicate, List.cons_append, List.nil_append, List.getElem?_cons_zero, List.getElem?_cons_succ, List.set_cons_zero, List.set_cons_succ, Nat.reduceAdd, Nat.reduceSub, List.replicate_succ, List.replicate_zero, true_and, if_true, if_false, Bool.false_eq_true, reduceIte, Int.toNat_natCast, fGt, fLtI, fLe, fGe, wFn, startV_one, isIntStr, isTupList, Bool.not_true, Bool.not_false, k_isInt_none, k_isInt_bool, k_isInt_int, k_isInt_str, k_isInt_list, k_isInt_tuple, k_isInt_dict, k_isBool_none, k_isBool_bool, k_isBool_int, k_isBool_str, k_isBool_list, k_isBool_tuple, k_isBool_dict, k_isTuple_none, k_isTuple_bool, k_isTuple_int, k_isTuple_str, k_isTuple_list, k_isTuple_tuple, k_isTuple_dict, k_isList_none, k_isList_bool, k_isList_int, k_isList_str, k_isList_list, k_isList_tuple, k_isList_dict, k_isStr_none, k_isStr_bool, k_isStr_int, k_isStr_str, k_isStr_list, k_isStr_tuple, k_isStr_dict, lRg1, lRg2, lLc2, iEm, lSeq, lOf, lRet, lRetO, lDis, lIf, lFn, sApp, lcV, lcV2, lp_cons, lp_nil, List.map_cons, List.map_nil, b_pc, b_cp, beq_self_eq_true, isOwn, List.any_cons, List.any_nil, Bool.or_self, e_src0, e_src1, e_pl0, e_pl2, e_pl3, e_pl4, e_pl5, e_pl6, e_par0, e_par1, e_par2, e_chl0, e_chl1, comD1, comD2, lLc, optL_eq]
    cases h : pl.lanes == 1 with
    | true =>
      unfold lansB at hR
      rw [if_pos (beq_iff_eq.mp h)] at hR
      simp only [sSeq, sIf, sSet, sOwn, sRet, sRetN, sNext, sDis, sSetIx, sApp, sAsg, sPar, sPar2O, sPar3, wB, wOp, wVar, wC, wNil, wCons, pNil, pCons, pPen, wTup, lLst, wL, wCall, wChain, Vl.wAnd, Vl.wOr, Vl.wNot, wAndV, wOrV, wNotV, wIf, wNeg, wIsN, wIsa, wFn, wSl, oNo, oPt, lList, wRevL, wIxO, wEqE, gN, gsNil, gsCons, gT, iL, iT, iR1, iR2, iZp, iEn, wYes, wipeV, endV, startV, e_fII, e_addI, e_addT, e_addL, e_intI, e_intB, e_mulT, e_mulL, e_lenL, e_lenT, e_tupL, e_tupT, e_eqI, e_neI, e_eqB, e_neB, e_eqS, e_neS, e_ix0T, e_ix1T, e_ix2T, e_ix3T, e_ix4T, e_ix0L, e_ix1L, e_ix2L, List.length_cons, List.length_nil, List.replicate, List.cons_append, List.nil_append, List.getElem?_cons_zero, List.getElem?_cons_succ, List.set_cons_zero, List.set_cons_succ, Nat.reduceAdd, Nat.reduceSub, List.replicate_succ, List.replicate_zero, true_and, if_true, if_false, Bool.false_eq_true, reduceIte, Int.toNat_natCast, fGt, fLtI, fLe, fGe, wFn, startV_one, isIntStr, isTupList, Bool.not_true, Bool.not_false, k_isInt_none, k_isInt_bool, k_isInt_int, k_isInt_str, k_isInt_list, k_isInt_tuple, k_isInt_dict, k_isBool_none, k_isBool_bool, k_isBool_int, k_isBool_str, k_isBool_list, k_isBool_tuple, k_isBool_dict, k_isTuple_none, k_isTuple_bool, k_isTuple_int, k_isTuple_str, k_isTuple_list, k_isTuple_tuple, k_isTuple_dict, k_isList_none, k_isList_bool, k_isList_int, k_isList_str, k_isList_list, k_isList_tuple, k_isList_dict, k_isStr_none, k_isStr_bool, k_isStr_int, k_isStr_str, k_isStr_list, k_isStr_tuple, k_isStr_dict, lRg1, lRg2, lLc2, iEm, lSeq, lOf, lRet, lRetO, lDis, lIf, lFn, sApp, lcV, lcV2, lp_cons, lp_nil, List.map_cons, List.map_nil, b_pc, b_cp, beq_self_eq_true, isOwn, List.any_cons, List.any_nil, Bool.or_self, e_src0, e_src1, e_pl0, e_pl2, e_pl3, e_pl4, e_pl5, e_pl6, e_par0, e_par1, e_par2, e_chl0, e_chl1, comD1, comD2, lLc, optL_eq]
      refine lc2_pure (enc := qD) (h := fun q => q.2) 16 l [] (fun q hm N acc ha hN => ?_) (by simpa using hf2) ?_
      · have h8 := hq q hm
        unfold qD
        simp only [sSeq, sIf, sSet, sOwn, sRet, sRetN, sNext, sDis, sSetIx, sApp, sAsg, sPar, sPar2O, sPar3, wB, wOp, wVar, wC, wNil, wCons, pNil, pCons, pPen, wTup, lLst, wL, wCall, wChain, Vl.wAnd, Vl.wOr, Vl.wNot, wAndV, wOrV, wNotV, wIf, wNeg, wIsN, wIsa, wFn, wSl, oNo, oPt, lList, wRevL, wIxO, wEqE, gN, gsNil, gsCons, gT, iL, iT, iR1, iR2, iZp, iEn, wYes, wipeV, endV, startV, e_fII, e_addI, e_addT, e_addL, e_intI, e_intB, e_mulT, e_mulL, e_lenL, e_lenT, e_tupL, e_tupT, e_eqI, e_neI, e_eqB, e_neB, e_eqS, e_neS, e_ix0T, e_ix1T, e_ix2T, e_ix3T, e_ix4T, e_ix0L, e_ix1L, e_ix2L, List.length_cons, List.length_nil, List.replicate, List.cons_append, List.nil_append, List.getElem?_cons_zero, List.getElem?_cons_succ, List.set_cons_zero, List.set_cons_succ, Nat.reduceAdd, Nat.reduceSub, List.replicate_succ, List.replicate_zero, true_and, if_true, if_false, Bool.false_eq_true, reduceIte, Int.toNat_natCast, fGt, fLtI, fLe, fGe, wFn, startV_one, isIntStr, isTupList, Bool.not_true, Bool.not_false, k_isInt_none, k_isInt_bool, k_isInt_int, k_isInt_str, k_isInt_list, k_isInt_tuple, k_isInt_dict, k_isBool_none, k_isBool_bool, k_isBool_int, k_isBool_str, k_isBool_list, k_isBool_tuple, k_isBool_dict, k_isTuple_none, k_isTuple_bool, k_isTuple_int, k_isTuple_str, k_isTuple_list, k_isTuple_tuple, k_isTuple_dict, k_isList_none, k_isList_bool, k_isList_int, k_isList_str, k_isList_list, k_isList_tuple, k_isList_dict, k_isStr_none, k_isStr_bool, k_isStr_int, k_isStr_str, k_isStr_list, k_isStr_tuple, k_isStr_dict, lRg1, lRg2, lLc2, iEm, lSeq, lOf, lRet, lRetO, lDis, lIf, lFn, sApp, lcV, lcV2, lp_cons, lp_nil, List.map_cons, List.map_nil, b_pc, b_cp, beq_self_eq_true, isOwn, List.any_cons, List.any_nil, Bool.or_self, e_src0, e_src1, e_pl0, e_pl2, e_pl3, e_pl4, e_pl5, e_pl6, e_par0, e_par1, e_par2, e_chl0, e_chl1, comD1, comD2, lLc, optL_eq, wYes, iT]
        refine ⟨(show _ ≤ 16777216 by omega), ?_⟩
        have hc := lc_pure (enc := fun d : PyData => d) (keep := fun _ => true) (f := fun d => d) (G := gN 4) (T := wYes) (E := wVar 4) (ρ := [Sl.val (plD pl), Sl.val (PyData.list (l.map qD)), Sl.val (PyData.str q.1), Sl.val (PyData.tuple q.2), Sl.un, Sl.un]) (g := g) (R := N) q.2 acc (fun d _ N acc hN => hN) (by rw [show q.2.filter (fun _ => true) = q.2 from List.filter_eq_self.mpr fun _ _ => rfl, List.map_id']; exact hN)
        rw [List.map_id'] at hc
        exact hc
      · exact ⟨by decide, g, Nat.le_refl _, by simpa using hR⟩
    | false =>
      unfold lansB at hR
      rw [if_neg (fun e => by rw [e] at h; cases h)] at hR
      simp only [sSeq, sIf, sSet, sOwn, sRet, sRetN, sNext, sDis, sSetIx, sApp, sAsg, sPar, sPar2O, sPar3, wB, wOp, wVar, wC, wNil, wCons, pNil, pCons, pPen, wTup, lLst, wL, wCall, wChain, Vl.wAnd, Vl.wOr, Vl.wNot, wAndV, wOrV, wNotV, wIf, wNeg, wIsN, wIsa, wFn, wSl, oNo, oPt, lList, wRevL, wIxO, wEqE, gN, gsNil, gsCons, gT, iL, iT, iR1, iR2, iZp, iEn, wYes, wipeV, endV, startV, e_fII, e_addI, e_addT, e_addL, e_intI, e_intB, e_mulT, e_mulL, e_lenL, e_lenT, e_tupL, e_tupT, e_eqI, e_neI, e_eqB, e_neB, e_eqS, e_neS, e_ix0T, e_ix1T, e_ix2T, e_ix3T, e_ix4T, e_ix0L, e_ix1L, e_ix2L, List.length_cons, List.length_nil, List.replicate, List.cons_append, List.nil_append, List.getElem?_cons_zero, List.getElem?_cons_succ, List.set_cons_zero, List.set_cons_succ, Nat.reduceAdd, Nat.reduceSub, List.replicate_succ, List.replicate_zero, true_and, if_true, if_false, Bool.false_eq_true, reduceIte, Int.toNat_natCast, fGt, fLtI, fLe, fGe, wFn, startV_one, isIntStr, isTupList, Bool.not_true, Bool.not_false, k_isInt_none, k_isInt_bool, k_isInt_int, k_isInt_str, k_isInt_list, k_isInt_tuple, k_isInt_dict, k_isBool_none, k_isBool_bool, k_isBool_int, k_isBool_str, k_isBool_list, k_isBool_tuple, k_isBool_dict, k_isTuple_none, k_isTuple_bool, k_isTuple_int, k_isTuple_str, k_isTuple_list, k_isTuple_tuple, k_isTuple_dict, k_isList_none, k_isList_bool, k_isList_int, k_isList_str, k_isList_list, k_isList_tuple, k_isList_dict, k_isStr_none, k_isStr_bool, k_isStr_int, k_isStr_str, k_isStr_list, k_isStr_tuple, k_isStr_dict, lRg1, lRg2, lLc2, iEm, lSeq, lOf, lRet, lRetO, lDis, lIf, lFn, sApp, lcV, lcV2, lp_cons, lp_nil, List.map_cons, List.map_nil, b_pc, b_cp, beq_self_eq_true, isOwn, List.any_cons, List.any_nil, Bool.or_self, e_src0, e_src1, e_pl0, e_pl2, e_pl3, e_pl4, e_pl5, e_pl6, e_par0, e_par1, e_par2, e_chl0, e_chl1, comD1, comD2, lLc, optL_eq]
      exact ⟨by decide, l, _, rfl, l, _, rfl, g, Nat.le_refl _, hR⟩

def chgW : Chg → Str
  | .par _ _ => "parent"
  | .chl _ => "child"
theorem e_cw0 {y : Chg} {R : PyData → Prop} : fIx (chgD y) (.int 0) R = R (.str (chgW y)) := by
  cases y
  · exact e_par0
  · exact e_chl0
theorem lans_msgs {pl : Pl} {f : List Chg} {g : Chg → Option Ent} (sh : ShC f) : lansB pl (f.map fun y => (chgW y, (g y).toList.map entD)) = .tuple ((if pl.lanes = 1 then [some (f.filterMap g)] else [if f.filter isPar = [] then none else some ((f.filter isPar).filterMap g), if f.filter (fun y => !isPar y) = [] then none else some ((f.filter fun y => !isPar y).filterMap g)]).map msgD) := by
  unfold lansB
  by_cases h : pl.lanes = 1
  · rw [if_pos h, if_pos h]
    have e : (f.map fun y => (chgW y, (g y).toList.map entD)).flatMap (·.2) = (f.filterMap g).map entD := by
      clear sh
      induction f with
      | nil => rfl
      | cons y f ih =>
        rw [List.map_cons, List.flatMap_cons, ih, List.filterMap_cons]
        cases g y <;> rfl
    rw [e]
    rfl
  · rw [if_neg h, if_neg h]
    have e1 : ∀ a : Chg, [a].filterMap g = (g a).toList := fun a => by
      rw [List.filterMap_cons]
      cases g a <;> rfl
    rcases sh with ⟨a, rfl⟩ | ⟨p, s, c, rfl⟩
    · cases a with
      | par p s =>
        rw [show [Chg.par p s].filter isPar = [Chg.par p s] from rfl, show [Chg.par p s].filter (fun y => !isPar y) = [] from rfl, if_neg (by simp), if_pos rfl, e1]
        rfl
      | chl c =>
        rw [show [Chg.chl c].filter isPar = [] from rfl, show [Chg.chl c].filter (fun y => !isPar y) = [Chg.chl c] from rfl, if_pos rfl, if_neg (by simp), e1]
        rfl
    · rw [show [Chg.par p s, Chg.chl c].filter isPar = [Chg.par p s] from rfl, show [Chg.par p s, Chg.chl c].filter (fun y => !isPar y) = [Chg.chl c] from rfl, if_neg (by simp), if_neg (by simp), e1, e1]
      rfl
theorem lane_if (pl : Pl) (ps : List (Int × Int)) (src z : SrcV) (f : List Chg) : laneB pl ps src z f = if f = [] then none else some (f.filterMap (entB pl ps src z)) := by
  cases f <;> rfl
theorem ok_messages_of (B : Bi mg) (C_after_commit : Ck P w K mg base "after_commit" ["source", "commit"] 1 spAft) (C_entries_of : Ck P w K mg base "entries_of" ["case", "plan", "source", "later", "change"] 3 spEo) (C_in_lanes : Ck P w K mg base "in_lanes" ["plan", "changed"] 2 spIl) (D : Df K mg "messages_of" s_messages_of ["case", "plan", "source", "commit"]) : Ck P w K mg base "messages_of" ["case", "plan", "source", "commit"] 4 spMs := by
  refine ck_v D sc_messages_of (fun as g R h => ?_) (fun f cdv A outer s H E hr => (vss_cons (vs_set 4 sc_messages_of.nd (v_callC C_after_commit (hr.mono (by decide)) (by rfl) (vp_cons (vv 2) (vp_cons (vv 3) vp_nil)))) (vss_one (vs_ret (v_callC C_in_lanes (hr.mono (by decide)) (by rfl) (vp_cons (vv 1) (vp_cons (v_l (vl_lc rfl sc_messages_of.nd (vi_tup (vv 3)) (blkOk_by (own := [("change", 5)]) (by show blkC ["case", "plan", "source", "commit", "later", "change"] (defScope s_messages_of) _ _ = true; decide +kernel)) (fun _ _ _ _ _ => (vg_n 5 sc_messages_of.nd)) (fun _ _ _ _ _ => vts_nil) (fun _ _ _ _ _ => (v_tup (va_cons (v_ix (vv 5) v_int) (va_cons (v_callC C_entries_of (hr.mono (by decide)) (by rfl) (vp_cons (vv 0) (vp_cons (vv 1) (vp_cons (vv 2) (vp_cons (vv 4) (vp_cons (vv 5) vp_nil)))))) va_nil)))))) vp_nil))))))) (fun as g R h => ?_)
  · obtain ⟨n, v, k, ps, j, pl, src, f, rfl, ho, po, so, sh, hin, hR⟩ := h
    rfl
  · obtain ⟨n, v, k, ps, j, pl, src, f, rfl, ho, po, so, sh, hin, hR⟩ := h
    have hl3 : src.1.length ≤ 3 := by
      have := so.len
      have := ho.n1
      omega
    have sl := fold_ok so hin
    have hpp : ∀ p s, Chg.par p s ∈ f → p < src.1.length := fun p s hp => by
      have := (hin _ hp).1
      have := so.len
      omega
    have hf2 : f.length ≤ 2 := by
      rcases sh with ⟨a, rfl⟩ | ⟨p, s, c, rfl⟩
      · show 1 ≤ 2; omega
      · exact Nat.le_refl 2
    unfold msgsB at hR
    simp only [lane_if] at hR
    rw [← lans_msgs (g := entB pl ps src (f.foldl stepC src)) sh] at hR
    simp only [sSeq, sIf, sSet, sOwn, sRet, sRetN, sNext, sDis, sSetIx, sApp, sAsg, sPar, sPar2O, sPar3, wB, wOp, wVar, wC, wNil, wCons, pNil, pCons, pPen, wTup, lLst, wL, wCall, wChain, Vl.wAnd, Vl.wOr, Vl.wNot, wAndV, wOrV, wNotV, wIf, wNeg, wIsN, wIsa, wFn, wSl, oNo, oPt, lList, wRevL, wIxO, wEqE, gN, gsNil, gsCons, gT, iL, iT, iR1, iR2, iZp, iEn, wYes, wipeV, endV, startV, e_fII, e_addI, e_addT, e_addL, e_intI, e_intB, e_mulT, e_mulL, e_lenL, e_lenT, e_tupL, e_tupT, e_eqI, e_neI, e_eqB, e_neB, e_eqS, e_neS, e_ix0T, e_ix1T, e_ix2T, e_ix3T, e_ix4T, e_ix0L, e_ix1L, e_ix2L, List.length_cons, List.length_nil, List.replicate, List.cons_append, List.nil_append, List.getElem?_cons_zero, List.getElem?_cons_succ, List.set_cons_zero, List.set_cons_succ, Nat.reduceAdd, Nat.reduceSub, List.replicate_succ, List.replicate_zero, true_and, if_true, if_false, Bool.false_eq_true, reduceIte, Int.toNat_natCast, fGt, fLtI, fLe, fGe, wFn, startV_one, isIntStr, isTupList, Bool.not_true, Bool.not_false, k_isInt_none, k_isInt_bool, k_isInt_int, k_isInt_str, k_isInt_list, k_isInt_tuple, k_isInt_dict, k_isBool_none, k_isBool_bool, k_isBool_int, k_isBool_str, k_isBool_list, k_isBool_tuple, k_isBool_dict, k_isTuple_none, k_isTuple_bool, k_isTuple_int, k_isTuple_str, k_isTuple_list, k_isTuple_tuple, k_isTuple_dict, k_isList_none, k_isList_bool, k_isList_int, k_isList_str, k_isList_list, k_isList_tuple, k_isList_dict, k_isStr_none, k_isStr_bool, k_isStr_int, k_isStr_str, k_isStr_list, k_isStr_tuple, k_isStr_dict, lRg1, lRg2, lLc2, iEm, lSeq, lOf, lRet, lRetO, lDis, lIf, lFn, sApp, lcV, lcV2, lp_cons, lp_nil, List.map_cons, List.map_nil, b_pc, b_cp, beq_self_eq_true, isOwn, List.any_cons, List.any_nil, Bool.or_self, e_src0, e_src1, e_pl0, e_pl2, e_pl3, e_pl4, e_pl5, e_pl6, e_par0, e_par1, e_par2, e_chl0, e_chl1, comD1, comD2, lLc, optL_eq]
    refine ⟨src.1, src.2, f, rfl, hl3, hpp, ?_⟩
    generalize f.foldl stepC src = z at hR sl
    unfold comD
    refine ⟨by rw [List.length_map]; show _ ≤ 16777216; omega, lc_pure (enc := chgD) (keep := fun _ => true) (f := fun y => qD (chgW y, (entB pl ps src z y).toList.map entD)) f [] (fun y hy N acc hN => ?_) ?_⟩
    · simp only [sSeq, sIf, sSet, sOwn, sRet, sRetN, sNext, sDis, sSetIx, sApp, sAsg, sPar, sPar2O, sPar3, wB, wOp, wVar, wC, wNil, wCons, pNil, pCons, pPen, wTup, lLst, wL, wCall, wChain, Vl.wAnd, Vl.wOr, Vl.wNot, wAndV, wOrV, wNotV, wIf, wNeg, wIsN, wIsa, wFn, wSl, oNo, oPt, lList, wRevL, wIxO, wEqE, gN, gsNil, gsCons, gT, iL, iT, iR1, iR2, iZp, iEn, wYes, wipeV, endV, startV, e_fII, e_addI, e_addT, e_addL, e_intI, e_intB, e_mulT, e_mulL, e_lenL, e_lenT, e_tupL, e_tupT, e_eqI, e_neI, e_eqB, e_neB, e_eqS, e_neS, e_ix0T, e_ix1T, e_ix2T, e_ix3T, e_ix4T, e_ix0L, e_ix1L, e_ix2L, List.length_cons, List.length_nil, List.replicate, List.cons_append, List.nil_append, List.getElem?_cons_zero, List.getElem?_cons_succ, List.set_cons_zero, List.set_cons_succ, Nat.reduceAdd, Nat.reduceSub, List.replicate_succ, List.replicate_zero, true_and, if_true, if_false, Bool.false_eq_true, reduceIte, Int.toNat_natCast, fGt, fLtI, fLe, fGe, wFn, startV_one, isIntStr, isTupList, Bool.not_true, Bool.not_false, k_isInt_none, k_isInt_bool, k_isInt_int, k_isInt_str, k_isInt_list, k_isInt_tuple, k_isInt_dict, k_isBool_none, k_isBool_bool, k_isBool_int, k_isBool_str, k_isBool_list, k_isBool_tuple, k_isBool_dict, k_isTuple_none, k_isTuple_bool, k_isTuple_int, k_isTuple_str, k_isTuple_list, k_isTuple_tuple, k_isTuple_dict, k_isList_none, k_isList_bool, k_isList_int, k_isList_str, k_isList_list, k_isList_tuple, k_isList_dict, k_isStr_none, k_isStr_bool, k_isStr_int, k_isStr_str, k_isStr_list, k_isStr_tuple, k_isStr_dict, lRg1, lRg2, lLc2, iEm, lSeq, lOf, lRet, lRetO, lDis, lIf, lFn, sApp, lcV, lcV2, lp_cons, lp_nil, List.map_cons, List.map_nil, b_pc, b_cp, beq_self_eq_true, isOwn, List.any_cons, List.any_nil, Bool.or_self, e_src0, e_src1, e_pl0, e_pl2, e_pl3, e_pl4, e_pl5, e_pl6, e_par0, e_par1, e_par2, e_chl0, e_chl1, comD1, comD2, lLc, optL_eq, e_cw0]
      exact ⟨n, v, k, ps, j, pl, src, z, y, rfl, ho, so, sl, hin y hy, by decide, hN⟩
    · rw [List.nil_append, show f.filter (fun _ => true) = f from List.filter_eq_self.mpr fun _ _ => rfl]
      refine ⟨pl, f.map fun y => (chgW y, (entB pl ps src z y).toList.map entD), by rw [List.map_map]; rfl, by rw [List.length_map]; exact hf2, fun q hq => ?_, g, Nat.le_refl _, hR⟩
      obtain ⟨y, _, rfl⟩ := List.mem_map.mp hq
      rw [List.length_map]
      cases entB pl ps src z y <;> simp


end
end Law
namespace Law
open PySem PySem.Spec PyProof.Rows L2 Vl
section
variable {P : Program} {w : World} {K : PySem.W.Frag} {mg : Str → Option Value} {base : Heap}
def tailS : WS := sIf (Vl.wOr (wB (wOp fEq (wVar 10) (wC (.str "all")))) (Vl.wOr (wB (wOp fIx (wVar 8) (wC (.int 1)))) (Vl.wAnd (wB (wOp fEq (wVar 10) (wC (.str "either")))) (wB (wOp fIx (wVar 8) (wC (.int 0))))))) (sApp 5 (wVar 9)) sNext
theorem addC {p : Nat} {s : Int} {t : PyData} {R : PyData → Prop} : fAdd (chgD (.par p s)) (.tuple [t]) R = (4 ≤ sizeLine ∧ R (.tuple [.str "parent", .int ((p : Nat) : Int), .int s, t])) := by
  show fAdd (.tuple _) _ _ = _
  rw [e_addT]
  rfl
theorem tail_ok {V : EndsV} {a0 a1 a2 a3 a4 a6 a7 a11 a12 : Sl} {L : List PyData} {was iz : Bool} {ed : PyData} {sd : Snd} {g : Nat} (hL : L.length < sizeLine) (h : V.nx [a0, a1, a2, a3, a4, .own (L ++ if sentB sd was iz = true then [ed] else []), a6, a7, .val (.list [.bool was, .bool iz]), .val ed, .val (.str sd.s), a11, a12] g) :
    tailS V [a0, a1, a2, a3, a4, .own L, a6, a7, .val (.list [.bool was, .bool iz]), .val ed, .val (.str sd.s), a11, a12] g := by
  unfold tailS
  simp only [sSeq, sIf, sSet, sOwn, sRet, sRetN, sNext, sDis, sSetIx, sApp, sAsg, sPar, sPar2O, sPar3, wB, wOp, wVar, wC, wNil, wCons, pNil, pCons, pPen, wTup, lLst, wL, wCall, wChain, Vl.wAnd, Vl.wOr, Vl.wNot, wAndV, wOrV, wNotV, wIf, wNeg, wIsN, wIsa, wFn, wSl, oNo, oPt, lList, wRevL, wIxO, wEqE, gN, gsNil, gsCons, gT, iL, iT, iR1, iR2, iZp, iEn, wYes, wipeV, endV, startV, e_fII, e_addI, e_addT, e_addL, e_intI, e_intB, e_mulT, e_mulL, e_lenL, e_lenT, e_tupL, e_tupT, e_eqI, e_neI, e_eqB, e_neB, e_eqS, e_neS, e_ix0T, e_ix1T, e_ix2T, e_ix3T, e_ix4T, e_ix0L, e_ix1L, e_ix2L, List.length_cons, List.length_nil, List.replicate, List.cons_append, List.nil_append, List.getElem?_cons_zero, List.getElem?_cons_succ, List.set_cons_zero, List.set_cons_succ, Nat.reduceAdd, Nat.reduceSub, List.replicate_succ, List.replicate_zero, true_and, if_true, if_false, Bool.false_eq_true, reduceIte, Int.toNat_natCast, fGt, fLtI, fLe, fGe, wFn, startV_one, isIntStr, isTupList, Bool.not_true, Bool.not_false, k_isInt_none, k_isInt_bool, k_isInt_int, k_isInt_str, k_isInt_list, k_isInt_tuple, k_isInt_dict, k_isBool_none, k_isBool_bool, k_isBool_int, k_isBool_str, k_isBool_list, k_isBool_tuple, k_isBool_dict, k_isTuple_none, k_isTuple_bool, k_isTuple_int, k_isTuple_str, k_isTuple_list, k_isTuple_tuple, k_isTuple_dict, k_isList_none, k_isList_bool, k_isList_int, k_isList_str, k_isList_list, k_isList_tuple, k_isList_dict, k_isStr_none, k_isStr_bool, k_isStr_int, k_isStr_str, k_isStr_list, k_isStr_tuple, k_isStr_dict, lRg1, lRg2, lLc2, iEm, lSeq, lOf, lRet, lRetO, lDis, lIf, lFn, sApp, sFor_eq, sPar2P, lcV, lcV2, lp_cons, lp_nil, List.map_cons, List.map_nil, b_pc, b_cp, beq_self_eq_true, isOwn, List.any_cons, List.any_nil, Bool.or_self, e_src0, e_src1, e_pl0, e_pl1, e_pl2, e_pl3, e_pl4, e_pl5, e_pl6, e_pl7, e_par0, e_par1, e_par2, e_chl0, e_chl1, comD1, comD2, lLc, optL_eq, snd_all, snd_ei]
  unfold sentB at h
  generalize sd.isAll = b1 at h ⊢
  generalize sd.isEi = b2 at h ⊢
  cases b1 <;> cases b2 <;> cases was <;> cases iz <;> simp only [sSeq, sIf, sSet, sOwn, sRet, sRetN, sNext, sDis, sSetIx, sApp, sAsg, sPar, sPar2O, sPar3, wB, wOp, wVar, wC, wNil, wCons, pNil, pCons, pPen, wTup, lLst, wL, wCall, wChain, Vl.wAnd, Vl.wOr, Vl.wNot, wAndV, wOrV, wNotV, wIf, wNeg, wIsN, wIsa, wFn, wSl, oNo, oPt, lList, wRevL, wIxO, wEqE, gN, gsNil, gsCons, gT, iL, iT, iR1, iR2, iZp, iEn, wYes, wipeV, endV, startV, e_fII, e_addI, e_addT, e_addL, e_intI, e_intB, e_mulT, e_mulL, e_lenL, e_lenT, e_tupL, e_tupT, e_eqI, e_neI, e_eqB, e_neB, e_eqS, e_neS, e_ix0T, e_ix1T, e_ix2T, e_ix3T, e_ix4T, e_ix0L, e_ix1L, e_ix2L, List.length_cons, List.length_nil, List.replicate, List.cons_append, List.nil_append, List.getElem?_cons_zero, List.getElem?_cons_succ, List.set_cons_zero, List.set_cons_succ, Nat.reduceAdd, Nat.reduceSub, List.replicate_succ, List.replicate_zero, true_and, if_true, if_false, Bool.false_eq_true, reduceIte, Int.toNat_natCast, fGt, fLtI, fLe, fGe, wFn, startV_one, isIntStr, isTupList, Bool.not_true, Bool.not_false, k_isInt_none, k_isInt_bool, k_isInt_int, k_isInt_str, k_isInt_list, k_isInt_tuple, k_isInt_dict, k_isBool_none, k_isBool_bool, k_isBool_int, k_isBool_str, k_isBool_list, k_isBool_tuple, k_isBool_dict, k_isTuple_none, k_isTuple_bool, k_isTuple_int, k_isTuple_str, k_isTuple_list, k_isTuple_tuple, k_isTuple_dict, k_isList_none, k_isList_bool, k_isList_int, k_isList_str, k_isList_list, k_isList_tuple, k_isList_dict, k_isStr_none, k_isStr_bool, k_isStr_int, k_isStr_str, k_isStr_list, k_isStr_tuple, k_isStr_dict, lRg1, lRg2, lLc2, iEm, lSeq, lOf, lRet, lRetO, lDis, lIf, lFn, sApp, sFor_eq, sPar2P, lcV, lcV2, lp_cons, lp_nil, List.map_cons, List.map_nil, b_pc, b_cp, beq_self_eq_true, isOwn, List.any_cons, List.any_nil, Bool.or_self, e_src0, e_src1, e_pl0, e_pl1, e_pl2, e_pl3, e_pl4, e_pl5, e_pl6, e_pl7, e_par0, e_par1, e_par2, e_chl0, e_chl1, comD1, comD2, lLc, optL_eq, Bool.or_true, Bool.or_false, Bool.true_or, Bool.false_or, Bool.and_true, Bool.and_false, Bool.true_and, Bool.false_and, List.append_nil] at h ⊢ <;> first | exact h | exact ⟨_, rfl, hL, h⟩
def spLen : VSp := fun as g R => ∃ (n v k : Int) (ps : List (Int × Int)) (j : Bool) (pl : Pl) (src : SrcV) (f : List Chg), as = [.val (caseD n v k ps j), .val (plD pl), .val (srcD src.1 src.2), .val (comD f)] ∧ CaseOk n v k ps ∧ PlOk pl ∧ SrcOk n v k src.1 src.2 ∧ ShC f ∧ (∀ y ∈ f, ChgIn n v k y) ∧ R (.list ((f.filterMap (entB pl ps src (f.foldl stepC src))).map entD)) g
theorem ok__law_entries (B : Bi mg) (C__law_done : Ck P w K mg base "_law_done" ["source", "commit"] 1 spAft) (C__law_child_ok : Ck P w K mg base "_law_child_ok" ["case", "parents", "child"] 1 spCok) (C__law_value_ok : Ck P w K mg base "_law_value_ok" ["case", "value"] 1 spVp) (D : Df K mg "_law_entries" s__law_entries ["case", "plan", "source", "commit"]) : Ck P w K mg base "_law_entries" ["case", "plan", "source", "commit"] 3 spLen := by
  refine ck_v D sc__law_entries (fun as g R h => ?_) (fun f cdv A outer s H E hr => (vss_cons (vs_par2P 4 5 rfl sc__law_entries.nd (v_callC C__law_done (hr.mono (by decide)) (by rfl) (vp_cons (vv 2) (vp_cons (vv 3) vp_nil))) (vl_lst va_nil)) (vss_cons (vs_for PassesOwn.never rfl (vi_tup (vv 3)) (vg_n 6 sc__law_entries.nd) (vss_cons (vs_if (t_eq hr.units (v_ix (vv 6) v_int) v_str) (vss_cons (vs_set 7 sc__law_entries.nd (v_if (t_w (w_and (t_val (v_ix (vv 1) v_int)) (w_and1 (t_ne hr.units (v_ix (vv 6) v_int) (v_tup va_nil))))) (v_ix (v_ix (vv 4) v_int) (v_ix (v_ix (vv 6) v_int) v_int)) (v_neg v_int))) (vss_cons (vs_set 8 sc__law_entries.nd (v_lst (va_cons (v_callC C__law_child_ok (hr.mono (by decide)) (by rfl) (vp_cons (vv 0) (vp_cons (v_ix (vv 2) v_int) (vp_cons (v_ix (vv 2) v_int) vp_nil)))) (va_cons (v_callC C__law_child_ok (hr.mono (by decide)) (by rfl) (vp_cons (vv 0) (vp_cons (v_ix (vv 4) v_int) (vp_cons (v_ix (vv 4) v_int) vp_nil)))) va_nil)))) (vss_one (vs_par2 9 10 rfl sc__law_entries.nd (v_tup (va_cons v_str (va_cons (v_ix (vv 6) v_int) (va_cons (vv 7) va_nil)))) (v_ix (vv 1) v_int))))) (vss_cons (vs_par2 11 12 rfl sc__law_entries.nd (v_ix (vv 6) v_int) (v_ix (vv 4) v_int)) (vss_cons (vs_set 8 sc__law_entries.nd (v_lst (va_cons (v_callC C__law_value_ok (hr.mono (by decide)) (by rfl) (vp_cons (vv 0) (vp_cons (v_ix (v_ix (vv 2) v_int) (vv 11)) vp_nil))) (va_cons (v_callC C__law_value_ok (hr.mono (by decide)) (by rfl) (vp_cons (vv 0) (vp_cons (v_ix (vv 6) v_int) vp_nil))) va_nil)))) (vss_one (vs_par2 9 10 rfl sc__law_entries.nd (v_add (vv 6) (v_tup (va_cons (v_if (t_w (w_and (t_val (v_ix (vv 1) v_int)) (w_and (t_ne hr.units (vv 12) (v_tup va_nil)) (w_and1 (t_eq hr.units (v_ix (vv 12) v_int) (vv 11)))))) (v_tup (va_cons (v_ix (vv 12) v_int) va_nil)) (v_tup va_nil)) va_nil))) (v_ix (vv 1) v_int)))))) (vss_one (vs_if (t_w (w_or (t_eq hr.units (vv 10) v_str) (w_or (t_val (v_ix (vv 8) v_int)) (w_or1 (t_w (w_and (t_eq hr.units (vv 10) v_str) (w_and1 (t_val (v_ix (vv 8) v_int))))))))) (vss_one (vs_appN 5 (vv 9))) vss_nil)))) (vss_dis 5 (vss_one (vs_ret (vv 5))))))) (fun as g R h => ?_)
  · obtain ⟨n, v, k, ps, j, pl, src, f, rfl, ho, po, so, sh, hin, hR⟩ := h
    rfl
  · obtain ⟨n, v, k, ps, j, pl, src, f, rfl, ho, po, so, sh, hin, hR⟩ := h
    have hl3 : src.1.length ≤ 3 := by
      have := so.len
      have := ho.n1
      omega
    have sl := fold_ok so hin
    have hpp : ∀ p s, Chg.par p s ∈ f → p < src.1.length := fun p s hp => by
      have := (hin _ hp).1
      have := so.len
      omega
    have haf : ∀ {R : PyData → Nat → Prop} {g : Nat}, R (srcD (f.foldl stepC src).1 (f.foldl stepC src).2) g → spAft [.val (srcD src.1 src.2), .val (comD f)] g R := fun {R g} hR => ⟨src.1, src.2, f, rfl, hl3, hpp, hR⟩
    generalize f.foldl stepC src = z at hR haf sl
    simp only [sSeq, sIf, sSet, sOwn, sRet, sRetN, sNext, sDis, sSetIx, sApp, sAsg, sPar, sPar2O, sPar3, wB, wOp, wVar, wC, wNil, wCons, pNil, pCons, pPen, wTup, lLst, wL, wCall, wChain, Vl.wAnd, Vl.wOr, Vl.wNot, wAndV, wOrV, wNotV, wIf, wNeg, wIsN, wIsa, wFn, wSl, oNo, oPt, lList, wRevL, wIxO, wEqE, gN, gsNil, gsCons, gT, iL, iT, iR1, iR2, iZp, iEn, wYes, wipeV, endV, startV, e_fII, e_addI, e_addT, e_addL, e_intI, e_intB, e_mulT, e_mulL, e_lenL, e_lenT, e_tupL, e_tupT, e_eqI, e_neI, e_eqB, e_neB, e_eqS, e_neS, e_ix0T, e_ix1T, e_ix2T, e_ix3T, e_ix4T, e_ix0L, e_ix1L, e_ix2L, List.length_cons, List.length_nil, List.replicate, List.cons_append, List.nil_append, List.getElem?_cons_zero, List.getElem?_cons_succ, List.set_cons_zero, List.set_cons_succ, Nat.reduceAdd, Nat.reduceSub, List.replicate_succ, List.replicate_zero, true_and, if_true, if_false, Bool.false_eq_true, reduceIte, Int.toNat_natCast, fGt, fLtI, fLe, fGe, wFn, startV_one, isIntStr, isTupList, Bool.not_true, Bool.not_false, k_isInt_none, k_isInt_bool, k_isInt_int, k_isInt_str, k_isInt_list, k_isInt_tuple, k_isInt_dict, k_isBool_none, k_isBool_bool, k_isBool_int, k_isBool_str, k_isBool_list, k_isBool_tuple, k_isBool_dict, k_isTuple_none, k_isTuple_bool, k_isTuple_int, k_isTuple_str, k_isTuple_list, k_isTuple_tuple, k_isTuple_dict, k_isList_none, k_isList_bool, k_isList_int, k_isList_str, k_isList_list, k_isList_tuple, k_isList_dict, k_isStr_none, k_isStr_bool, k_isStr_int, k_isStr_str, k_isStr_list, k_isStr_tuple, k_isStr_dict, lRg1, lRg2, lLc2, iEm, lSeq, lOf, lRet, lRetO, lDis, lIf, lFn, sApp, sFor_eq, sPar2P, lcV, lcV2, lp_cons, lp_nil, List.map_cons, List.map_nil, b_pc, b_cp, beq_self_eq_true, isOwn, List.any_cons, List.any_nil, Bool.or_self, e_src0, e_src1, e_pl0, e_pl1, e_pl2, e_pl3, e_pl4, e_pl5, e_pl6, e_pl7, e_par0, e_par1, e_par2, e_chl0, e_chl1, comD1, comD2, lLc, optL_eq]
    refine haf ⟨by decide, ?_⟩
    show loopV _ (sSeq (sIf _ _ _) tailS) _ (f.map chgD) _ _
    refine lp_pre (enc := chgD) (fun pre ρ => ∃ s6 s7 s8 s9 s10 s11 s12, ρ = [Sl.val (caseD n v k ps j), Sl.val (plD pl), Sl.val (srcD src.1 src.2), Sl.val (comD f), Sl.val (srcD z.1 z.2), Sl.own ((pre.filterMap (entB pl ps src z)).map entD), s6, s7, s8, s9, s10, s11, s12]) f (fun pre y post hsp ρ N hI hN => ?_) (fun ρ' hI => ?_) _ [] _ rfl ⟨_, _, _, _, _, _, _, rfl⟩
    · obtain ⟨s6, s7, s8, s9, s10, s11, s12, rfl⟩ := hI
      have hy := hin y (by rw [hsp]; exact List.mem_append_right _ List.mem_cons_self)
      have hL : ((pre.filterMap (entB pl ps src z)).map entD).length < sizeLine := by
        have h1 := List.length_filterMap_le (entB pl ps src z) pre
        have h2 : pre.length ≤ 2 := by
          have := congrArg List.length hsp
          rw [List.length_append, List.length_cons] at this
          rcases sh with ⟨a, rfl⟩ | ⟨p, s, c, rfl⟩ <;> simp at this <;> omega
        rw [List.length_map]
        show _ < 16777216
        omega
      have hlen := so.len
      have hlen2 := sl.len
      cases y with
      | par p s =>
        have hp := hy.1
        have hP : ∀ t, toldB pl z p = t → ((pre ++ [Chg.par p s]).filterMap (entB pl ps src z)).map entD = (pre.filterMap (entB pl ps src z)).map entD ++ if sentB pl.pa (vpB ps (src.1.getD p 0)) (vpB ps s) = true then [entD (.par p s t)] else [] := fun t ht => by
          rw [List.filterMap_append, List.map_append, List.filterMap_cons, List.filterMap_nil]
          congr 1
          subst ht
          rw [show entB pl ps src z (.par p s) = if sentB pl.pa (vpB ps (src.1.getD p 0)) (vpB ps s) = true then some (.par p s (toldB pl z p)) else none from rfl]
          by_cases h : sentB pl.pa (vpB ps (src.1.getD p 0)) (vpB ps s) = true
          · rw [if_pos h, if_pos h]; rfl
          · rw [if_neg h, if_neg h]; rfl
        simp only [sSeq, sIf, sSet, sOwn, sRet, sRetN, sNext, sDis, sSetIx, sApp, sAsg, sPar, sPar2O, sPar3, wB, wOp, wVar, wC, wNil, wCons, pNil, pCons, pPen, wTup, lLst, wL, wCall, wChain, Vl.wAnd, Vl.wOr, Vl.wNot, wAndV, wOrV, wNotV, wIf, wNeg, wIsN, wIsa, wFn, wSl, oNo, oPt, lList, wRevL, wIxO, wEqE, gN, gsNil, gsCons, gT, iL, iT, iR1, iR2, iZp, iEn, wYes, wipeV, endV, startV, e_fII, e_addI, e_addT, e_addL, e_intI, e_intB, e_mulT, e_mulL, e_lenL, e_lenT, e_tupL, e_tupT, e_eqI, e_neI, e_eqB, e_neB, e_eqS, e_neS, e_ix0T, e_ix1T, e_ix2T, e_ix3T, e_ix4T, e_ix0L, e_ix1L, e_ix2L, List.length_cons, List.length_nil, List.replicate, List.cons_append, List.nil_append, List.getElem?_cons_zero, List.getElem?_cons_succ, List.set_cons_zero, List.set_cons_succ, Nat.reduceAdd, Nat.reduceSub, List.replicate_succ, List.replicate_zero, true_and, if_true, if_false, Bool.false_eq_true, reduceIte, Int.toNat_natCast, fGt, fLtI, fLe, fGe, wFn, startV_one, isIntStr, isTupList, Bool.not_true, Bool.not_false, k_isInt_none, k_isInt_bool, k_isInt_int, k_isInt_str, k_isInt_list, k_isInt_tuple, k_isInt_dict, k_isBool_none, k_isBool_bool, k_isBool_int, k_isBool_str, k_isBool_list, k_isBool_tuple, k_isBool_dict, k_isTuple_none, k_isTuple_bool, k_isTuple_int, k_isTuple_str, k_isTuple_list, k_isTuple_tuple, k_isTuple_dict, k_isList_none, k_isList_bool, k_isList_int, k_isList_str, k_isList_list, k_isList_tuple, k_isList_dict, k_isStr_none, k_isStr_bool, k_isStr_int, k_isStr_str, k_isStr_list, k_isStr_tuple, k_isStr_dict, lRg1, lRg2, lLc2, iEm, lSeq, lOf, lRet, lRetO, lDis, lIf, lFn, sApp, sFor_eq, sPar2P, lcV, lcV2, lp_cons, lp_nil, List.map_cons, List.map_nil, b_pc, b_cp, beq_self_eq_true, isOwn, List.any_cons, List.any_nil, Bool.or_self, e_src0, e_src1, e_pl0, e_pl1, e_pl2, e_pl3, e_pl4, e_pl5, e_pl6, e_pl7, e_par0, e_par1, e_par2, e_chl0, e_chl1, comD1, comD2, lLc, optL_eq]
        refine ix_par (i := ((p : Nat) : Int)) (by omega) (by omega) ⟨n, v, k, ps, j, _, rfl, ho.len, ⟨n, v, k, ps, j, _, rfl, ho.len, by decide, ?_⟩⟩
        rw [Int.toNat_natCast]
        cases h1 : pl.tc with
        | false =>
          have ht : toldB pl z p = none := by unfold toldB; rw [h1]; rfl
          rw [if_neg Bool.false_ne_true]
          refine ⟨by decide, by decide, ?_⟩
          rw [addC]
          exact ⟨by decide, tail_ok hL (hN _ ⟨_, _, _, _, _, _, _, by rw [hP _ ht]; rfl⟩)⟩
        | true =>
          rw [if_pos rfl]
          refine ⟨by decide, e_ne_ch ?_⟩
          cases h2 : z.2 with
          | none =>
            have ht : toldB pl z p = none := by unfold toldB; rw [h1, h2]; rfl
            simp only [sSeq, sIf, sSet, sOwn, sRet, sRetN, sNext, sDis, sSetIx, sApp, sAsg, sPar, sPar2O, sPar3, wB, wOp, wVar, wC, wNil, wCons, pNil, pCons, pPen, wTup, lLst, wL, wCall, wChain, Vl.wAnd, Vl.wOr, Vl.wNot, wAndV, wOrV, wNotV, wIf, wNeg, wIsN, wIsa, wFn, wSl, oNo, oPt, lList, wRevL, wIxO, wEqE, gN, gsNil, gsCons, gT, iL, iT, iR1, iR2, iZp, iEn, wYes, wipeV, endV, startV, e_fII, e_addI, e_addT, e_addL, e_intI, e_intB, e_mulT, e_mulL, e_lenL, e_lenT, e_tupL, e_tupT, e_eqI, e_neI, e_eqB, e_neB, e_eqS, e_neS, e_ix0T, e_ix1T, e_ix2T, e_ix3T, e_ix4T, e_ix0L, e_ix1L, e_ix2L, List.length_cons, List.length_nil, List.replicate, List.cons_append, List.nil_append, List.getElem?_cons_zero, List.getElem?_cons_succ, List.set_cons_zero, List.set_cons_succ, Nat.reduceAdd, Nat.reduceSub, List.replicate_succ, List.replicate_zero, true_and, if_true, if_false, Bool.false_eq_true, reduceIte, Int.toNat_natCast, fGt, fLtI, fLe, fGe, wFn, startV_one, isIntStr, isTupList, Bool.not_true, Bool.not_false, k_isInt_none, k_isInt_bool, k_isInt_int, k_isInt_str, k_isInt_list, k_isInt_tuple, k_isInt_dict, k_isBool_none, k_isBool_bool, k_isBool_int, k_isBool_str, k_isBool_list, k_isBool_tuple, k_isBool_dict, k_isTuple_none, k_isTuple_bool, k_isTuple_int, k_isTuple_str, k_isTuple_list, k_isTuple_tuple, k_isTuple_dict, k_isList_none, k_isList_bool, k_isList_int, k_isList_str, k_isList_list, k_isList_tuple, k_isList_dict, k_isStr_none, k_isStr_bool, k_isStr_int, k_isStr_str, k_isStr_list, k_isStr_tuple, k_isStr_dict, lRg1, lRg2, lLc2, iEm, lSeq, lOf, lRet, lRetO, lDis, lIf, lFn, sApp, sFor_eq, sPar2P, lcV, lcV2, lp_cons, lp_nil, List.map_cons, List.map_nil, b_pc, b_cp, beq_self_eq_true, isOwn, List.any_cons, List.any_nil, Bool.or_self, e_src0, e_src1, e_pl0, e_pl1, e_pl2, e_pl3, e_pl4, e_pl5, e_pl6, e_pl7, e_par0, e_par1, e_par2, e_chl0, e_chl1, comD1, comD2, lLc, optL_eq, ne_eq, not_true_eq_false, decide_false]
            refine ⟨by decide, by decide, ?_⟩
            rw [addC]
            exact ⟨by decide, tail_ok hL (hN _ ⟨_, _, _, _, _, _, _, by rw [hP _ ht, h2]; rfl⟩)⟩
          | some q =>
            simp only [sSeq, sIf, sSet, sOwn, sRet, sRetN, sNext, sDis, sSetIx, sApp, sAsg, sPar, sPar2O, sPar3, wB, wOp, wVar, wC, wNil, wCons, pNil, pCons, pPen, wTup, lLst, wL, wCall, wChain, Vl.wAnd, Vl.wOr, Vl.wNot, wAndV, wOrV, wNotV, wIf, wNeg, wIsN, wIsa, wFn, wSl, oNo, oPt, lList, wRevL, wIxO, wEqE, gN, gsNil, gsCons, gT, iL, iT, iR1, iR2, iZp, iEn, wYes, wipeV, endV, startV, e_fII, e_addI, e_addT, e_addL, e_intI, e_intB, e_mulT, e_mulL, e_lenL, e_lenT, e_tupL, e_tupT, e_eqI, e_neI, e_eqB, e_neB, e_eqS, e_neS, e_ix0T, e_ix1T, e_ix2T, e_ix3T, e_ix4T, e_ix0L, e_ix1L, e_ix2L, List.length_cons, List.length_nil, List.replicate, List.cons_append, List.nil_append, List.getElem?_cons_zero, List.getElem?_cons_succ, List.set_cons_zero, List.set_cons_succ, Nat.reduceAdd, Nat.reduceSub, List.replicate_succ, List.replicate_zero, true_and, if_true, if_false, Bool.false_eq_true, reduceIte, Int.toNat_natCast, fGt, fLtI, fLe, fGe, wFn, startV_one, isIntStr, isTupList, Bool.not_true, Bool.not_false, k_isInt_none, k_isInt_bool, k_isInt_int, k_isInt_str, k_isInt_list, k_isInt_tuple, k_isInt_dict, k_isBool_none, k_isBool_bool, k_isBool_int, k_isBool_str, k_isBool_list, k_isBool_tuple, k_isBool_dict, k_isTuple_none, k_isTuple_bool, k_isTuple_int, k_isTuple_str, k_isTuple_list, k_isTuple_tuple, k_isTuple_dict, k_isList_none, k_isList_bool, k_isList_int, k_isList_str, k_isList_list, k_isList_tuple, k_isList_dict, k_isStr_none, k_isStr_bool, k_isStr_int, k_isStr_str, k_isStr_list, k_isStr_tuple, k_isStr_dict, lRg1, lRg2, lLc2, iEm, lSeq, lOf, lRet, lRetO, lDis, lIf, lFn, sApp, sFor_eq, sPar2P, lcV, lcV2, lp_cons, lp_nil, List.map_cons, List.map_nil, b_pc, b_cp, beq_self_eq_true, isOwn, List.any_cons, List.any_nil, Bool.or_self, e_src0, e_src1, e_pl0, e_pl1, e_pl2, e_pl3, e_pl4, e_pl5, e_pl6, e_pl7, e_par0, e_par1, e_par2, e_chl0, e_chl1, comD1, comD2, lLc, optL_eq, ne_eq, reduceCtorEq, not_false_eq_true, decide_true, chD, prD]
            by_cases h3 : q.2 = ((p : Nat) : Int)
            · have ht : toldB pl z p = some q.1 := by unfold toldB; rw [h1, h2, if_pos rfl]; exact if_pos h3
              rw [show (q.2 == ((p : Nat) : Int)) = true from beq_iff_eq.mpr h3]
              simp only [sSeq, sIf, sSet, sOwn, sRet, sRetN, sNext, sDis, sSetIx, sApp, sAsg, sPar, sPar2O, sPar3, wB, wOp, wVar, wC, wNil, wCons, pNil, pCons, pPen, wTup, lLst, wL, wCall, wChain, Vl.wAnd, Vl.wOr, Vl.wNot, wAndV, wOrV, wNotV, wIf, wNeg, wIsN, wIsa, wFn, wSl, oNo, oPt, lList, wRevL, wIxO, wEqE, gN, gsNil, gsCons, gT, iL, iT, iR1, iR2, iZp, iEn, wYes, wipeV, endV, startV, e_fII, e_addI, e_addT, e_addL, e_intI, e_intB, e_mulT, e_mulL, e_lenL, e_lenT, e_tupL, e_tupT, e_eqI, e_neI, e_eqB, e_neB, e_eqS, e_neS, e_ix0T, e_ix1T, e_ix2T, e_ix3T, e_ix4T, e_ix0L, e_ix1L, e_ix2L, List.length_cons, List.length_nil, List.replicate, List.cons_append, List.nil_append, List.getElem?_cons_zero, List.getElem?_cons_succ, List.set_cons_zero, List.set_cons_succ, Nat.reduceAdd, Nat.reduceSub, List.replicate_succ, List.replicate_zero, true_and, if_true, if_false, Bool.false_eq_true, reduceIte, Int.toNat_natCast, fGt, fLtI, fLe, fGe, wFn, startV_one, isIntStr, isTupList, Bool.not_true, Bool.not_false, k_isInt_none, k_isInt_bool, k_isInt_int, k_isInt_str, k_isInt_list, k_isInt_tuple, k_isInt_dict, k_isBool_none, k_isBool_bool, k_isBool_int, k_isBool_str, k_isBool_list, k_isBool_tuple, k_isBool_dict, k_isTuple_none, k_isTuple_bool, k_isTuple_int, k_isTuple_str, k_isTuple_list, k_isTuple_tuple, k_isTuple_dict, k_isList_none, k_isList_bool, k_isList_int, k_isList_str, k_isList_list, k_isList_tuple, k_isList_dict, k_isStr_none, k_isStr_bool, k_isStr_int, k_isStr_str, k_isStr_list, k_isStr_tuple, k_isStr_dict, lRg1, lRg2, lLc2, iEm, lSeq, lOf, lRet, lRetO, lDis, lIf, lFn, sApp, sFor_eq, sPar2P, lcV, lcV2, lp_cons, lp_nil, List.map_cons, List.map_nil, b_pc, b_cp, beq_self_eq_true, isOwn, List.any_cons, List.any_nil, Bool.or_self, e_src0, e_src1, e_pl0, e_pl1, e_pl2, e_pl3, e_pl4, e_pl5, e_pl6, e_pl7, e_par0, e_par1, e_par2, e_chl0, e_chl1, comD1, comD2, lLc, optL_eq]
              refine ⟨by decide, by decide, ?_⟩
              rw [addC]
              exact ⟨by decide, tail_ok hL (hN _ ⟨_, _, _, _, _, _, _, by rw [hP _ ht, h2]; rfl⟩)⟩
            · have ht : toldB pl z p = none := by unfold toldB; rw [h1, h2, if_pos rfl]; exact if_neg h3
              rw [show (q.2 == ((p : Nat) : Int)) = false from beq_eq_false_iff_ne.mpr h3]
              simp only [sSeq, sIf, sSet, sOwn, sRet, sRetN, sNext, sDis, sSetIx, sApp, sAsg, sPar, sPar2O, sPar3, wB, wOp, wVar, wC, wNil, wCons, pNil, pCons, pPen, wTup, lLst, wL, wCall, wChain, Vl.wAnd, Vl.wOr, Vl.wNot, wAndV, wOrV, wNotV, wIf, wNeg, wIsN, wIsa, wFn, wSl, oNo, oPt, lList, wRevL, wIxO, wEqE, gN, gsNil, gsCons, gT, iL, iT, iR1, iR2, iZp, iEn, wYes, wipeV, endV, startV, e_fII, e_addI, e_addT, e_addL, e_intI, e_intB, e_mulT, e_mulL, e_lenL, e_lenT, e_tupL, e_tupT, e_eqI, e_neI, e_eqB, e_neB, e_eqS, e_neS, e_ix0T, e_ix1T, e_ix2T, e_ix3T, e_ix4T, e_ix0L, e_ix1L, e_ix2L, List.length_cons, List.length_nil, List.replicate, List.cons_append, List.nil_append, List.getElem?_cons_zero, List.getElem?_cons_succ, List.set_cons_zero, List.set_cons_succ, Nat.reduceAdd, Nat.reduceSub, List.replicate_succ, List.replicate_zero, true_and, if_true, if_false, Bool.false_eq_true, reduceIte, Int.toNat_natCast, fGt, fLtI, fLe, fGe, wFn, startV_one, isIntStr, isTupList, Bool.not_true, Bool.not_false, k_isInt_none, k_isInt_bool, k_isInt_int, k_isInt_str, k_isInt_list, k_isInt_tuple, k_isInt_dict, k_isBool_none, k_isBool_bool, k_isBool_int, k_isBool_str, k_isBool_list, k_isBool_tuple, k_isBool_dict, k_isTuple_none, k_isTuple_bool, k_isTuple_int, k_isTuple_str, k_isTuple_list, k_isTuple_tuple, k_isTuple_dict, k_isList_none, k_isList_bool, k_isList_int, k_isList_str, k_isList_list, k_isList_tuple, k_isList_dict, k_isStr_none, k_isStr_bool, k_isStr_int, k_isStr_str, k_isStr_list, k_isStr_tuple, k_isStr_dict, lRg1, lRg2, lLc2, iEm, lSeq, lOf, lRet, lRetO, lDis, lIf, lFn, sApp, sFor_eq, sPar2P, lcV, lcV2, lp_cons, lp_nil, List.map_cons, List.map_nil, b_pc, b_cp, beq_self_eq_true, isOwn, List.any_cons, List.any_nil, Bool.or_self, e_src0, e_src1, e_pl0, e_pl1, e_pl2, e_pl3, e_pl4, e_pl5, e_pl6, e_pl7, e_par0, e_par1, e_par2, e_chl0, e_chl1, comD1, comD2, lLc, optL_eq]
              refine ⟨by decide, by decide, ?_⟩
              rw [addC]
              exact ⟨by decide, tail_ok hL (hN _ ⟨_, _, _, _, _, _, _, by rw [hP _ ht, h2]; rfl⟩)⟩
      | chl c =>
        have hP : ∀ t, valB pl z c = t → ((pre ++ [Chg.chl c]).filterMap (entB pl ps src z)).map entD = (pre.filterMap (entB pl ps src z)).map entD ++ if sentB pl.ch (cpB ps src.1 src.2) (cpB ps z.1 z.2) = true then [entD (.chl c t)] else [] := fun t ht => by
          rw [List.filterMap_append, List.map_append, List.filterMap_cons, List.filterMap_nil]
          congr 1
          subst ht
          rw [show entB pl ps src z (.chl c) = if sentB pl.ch (cpB ps src.1 src.2) (cpB ps z.1 z.2) = true then some (.chl c (valB pl z c)) else none from rfl]
          by_cases h : sentB pl.ch (cpB ps src.1 src.2) (cpB ps z.1 z.2) = true
          · rw [if_pos h, if_pos h]; rfl
          · rw [if_neg h, if_neg h]; rfl
        simp only [sSeq, sIf, sSet, sOwn, sRet, sRetN, sNext, sDis, sSetIx, sApp, sAsg, sPar, sPar2O, sPar3, wB, wOp, wVar, wC, wNil, wCons, pNil, pCons, pPen, wTup, lLst, wL, wCall, wChain, Vl.wAnd, Vl.wOr, Vl.wNot, wAndV, wOrV, wNotV, wIf, wNeg, wIsN, wIsa, wFn, wSl, oNo, oPt, lList, wRevL, wIxO, wEqE, gN, gsNil, gsCons, gT, iL, iT, iR1, iR2, iZp, iEn, wYes, wipeV, endV, startV, e_fII, e_addI, e_addT, e_addL, e_intI, e_intB, e_mulT, e_mulL, e_lenL, e_lenT, e_tupL, e_tupT, e_eqI, e_neI, e_eqB, e_neB, e_eqS, e_neS, e_ix0T, e_ix1T, e_ix2T, e_ix3T, e_ix4T, e_ix0L, e_ix1L, e_ix2L, List.length_cons, List.length_nil, List.replicate, List.cons_append, List.nil_append, List.getElem?_cons_zero, List.getElem?_cons_succ, List.set_cons_zero, List.set_cons_succ, Nat.reduceAdd, Nat.reduceSub, List.replicate_succ, List.replicate_zero, true_and, if_true, if_false, Bool.false_eq_true, reduceIte, Int.toNat_natCast, fGt, fLtI, fLe, fGe, wFn, startV_one, isIntStr, isTupList, Bool.not_true, Bool.not_false, k_isInt_none, k_isInt_bool, k_isInt_int, k_isInt_str, k_isInt_list, k_isInt_tuple, k_isInt_dict, k_isBool_none, k_isBool_bool, k_isBool_int, k_isBool_str, k_isBool_list, k_isBool_tuple, k_isBool_dict, k_isTuple_none, k_isTuple_bool, k_isTuple_int, k_isTuple_str, k_isTuple_list, k_isTuple_tuple, k_isTuple_dict, k_isList_none, k_isList_bool, k_isList_int, k_isList_str, k_isList_list, k_isList_tuple, k_isList_dict, k_isStr_none, k_isStr_bool, k_isStr_int, k_isStr_str, k_isStr_list, k_isStr_tuple, k_isStr_dict, lRg1, lRg2, lLc2, iEm, lSeq, lOf, lRet, lRetO, lDis, lIf, lFn, sApp, sFor_eq, sPar2P, lcV, lcV2, lp_cons, lp_nil, List.map_cons, List.map_nil, b_pc, b_cp, beq_self_eq_true, isOwn, List.any_cons, List.any_nil, Bool.or_self, e_src0, e_src1, e_pl0, e_pl1, e_pl2, e_pl3, e_pl4, e_pl5, e_pl6, e_pl7, e_par0, e_par1, e_par2, e_chl0, e_chl1, comD1, comD2, lLc, optL_eq]
        cases h1 : pl.tv with
        | false =>
          have ht : valB pl z c = -1 := by unfold valB; rw [h1]; rfl
          rw [if_neg Bool.false_ne_true]
          exact ⟨n, v, k, ps, j, _, _, rfl, ho, so, ⟨n, v, k, ps, j, _, _, rfl, ho, sl, by decide, by decide, tail_ok hL (hN _ ⟨_, _, _, _, _, _, _, by rw [hP _ ht]; rfl⟩)⟩⟩
        | true =>
          rw [if_pos rfl]
          refine ⟨by decide, e_ne_ch ?_⟩
          cases c with
          | none =>
            have ht : valB pl z none = -1 := by unfold valB; rw [h1]; rfl
            simp only [sSeq, sIf, sSet, sOwn, sRet, sRetN, sNext, sDis, sSetIx, sApp, sAsg, sPar, sPar2O, sPar3, wB, wOp, wVar, wC, wNil, wCons, pNil, pCons, pPen, wTup, lLst, wL, wCall, wChain, Vl.wAnd, Vl.wOr, Vl.wNot, wAndV, wOrV, wNotV, wIf, wNeg, wIsN, wIsa, wFn, wSl, oNo, oPt, lList, wRevL, wIxO, wEqE, gN, gsNil, gsCons, gT, iL, iT, iR1, iR2, iZp, iEn, wYes, wipeV, endV, startV, e_fII, e_addI, e_addT, e_addL, e_intI, e_intB, e_mulT, e_mulL, e_lenL, e_lenT, e_tupL, e_tupT, e_eqI, e_neI, e_eqB, e_neB, e_eqS, e_neS, e_ix0T, e_ix1T, e_ix2T, e_ix3T, e_ix4T, e_ix0L, e_ix1L, e_ix2L, List.length_cons, List.length_nil, List.replicate, List.cons_append, List.nil_append, List.getElem?_cons_zero, List.getElem?_cons_succ, List.set_cons_zero, List.set_cons_succ, Nat.reduceAdd, Nat.reduceSub, List.replicate_succ, List.replicate_zero, true_and, if_true, if_false, Bool.false_eq_true, reduceIte, Int.toNat_natCast, fGt, fLtI, fLe, fGe, wFn, startV_one, isIntStr, isTupList, Bool.not_true, Bool.not_false, k_isInt_none, k_isInt_bool, k_isInt_int, k_isInt_str, k_isInt_list, k_isInt_tuple, k_isInt_dict, k_isBool_none, k_isBool_bool, k_isBool_int, k_isBool_str, k_isBool_list, k_isBool_tuple, k_isBool_dict, k_isTuple_none, k_isTuple_bool, k_isTuple_int, k_isTuple_str, k_isTuple_list, k_isTuple_tuple, k_isTuple_dict, k_isList_none, k_isList_bool, k_isList_int, k_isList_str, k_isList_list, k_isList_tuple, k_isList_dict, k_isStr_none, k_isStr_bool, k_isStr_int, k_isStr_str, k_isStr_list, k_isStr_tuple, k_isStr_dict, lRg1, lRg2, lLc2, iEm, lSeq, lOf, lRet, lRetO, lDis, lIf, lFn, sApp, sFor_eq, sPar2P, lcV, lcV2, lp_cons, lp_nil, List.map_cons, List.map_nil, b_pc, b_cp, beq_self_eq_true, isOwn, List.any_cons, List.any_nil, Bool.or_self, e_src0, e_src1, e_pl0, e_pl1, e_pl2, e_pl3, e_pl4, e_pl5, e_pl6, e_pl7, e_par0, e_par1, e_par2, e_chl0, e_chl1, comD1, comD2, lLc, optL_eq, ne_eq, not_true_eq_false, decide_false]
            exact ⟨n, v, k, ps, j, _, _, rfl, ho, so, ⟨n, v, k, ps, j, _, _, rfl, ho, sl, by decide, by decide, tail_ok hL (hN _ ⟨_, _, _, _, _, _, _, by rw [hP _ ht]; rfl⟩)⟩⟩
          | some q =>
            have hq := hy q rfl
            have ht : valB pl z (some q) = z.1.getD q.2.toNat 0 := by unfold valB; rw [h1]; rfl
            simp only [sSeq, sIf, sSet, sOwn, sRet, sRetN, sNext, sDis, sSetIx, sApp, sAsg, sPar, sPar2O, sPar3, wB, wOp, wVar, wC, wNil, wCons, pNil, pCons, pPen, wTup, lLst, wL, wCall, wChain, Vl.wAnd, Vl.wOr, Vl.wNot, wAndV, wOrV, wNotV, wIf, wNeg, wIsN, wIsa, wFn, wSl, oNo, oPt, lList, wRevL, wIxO, wEqE, gN, gsNil, gsCons, gT, iL, iT, iR1, iR2, iZp, iEn, wYes, wipeV, endV, startV, e_fII, e_addI, e_addT, e_addL, e_intI, e_intB, e_mulT, e_mulL, e_lenL, e_lenT, e_tupL, e_tupT, e_eqI, e_neI, e_eqB, e_neB, e_eqS, e_neS, e_ix0T, e_ix1T, e_ix2T, e_ix3T, e_ix4T, e_ix0L, e_ix1L, e_ix2L, List.length_cons, List.length_nil, List.replicate, List.cons_append, List.nil_append, List.getElem?_cons_zero, List.getElem?_cons_succ, List.set_cons_zero, List.set_cons_succ, Nat.reduceAdd, Nat.reduceSub, List.replicate_succ, List.replicate_zero, true_and, if_true, if_false, Bool.false_eq_true, reduceIte, Int.toNat_natCast, fGt, fLtI, fLe, fGe, wFn, startV_one, isIntStr, isTupList, Bool.not_true, Bool.not_false, k_isInt_none, k_isInt_bool, k_isInt_int, k_isInt_str, k_isInt_list, k_isInt_tuple, k_isInt_dict, k_isBool_none, k_isBool_bool, k_isBool_int, k_isBool_str, k_isBool_list, k_isBool_tuple, k_isBool_dict, k_isTuple_none, k_isTuple_bool, k_isTuple_int, k_isTuple_str, k_isTuple_list, k_isTuple_tuple, k_isTuple_dict, k_isList_none, k_isList_bool, k_isList_int, k_isList_str, k_isList_list, k_isList_tuple, k_isList_dict, k_isStr_none, k_isStr_bool, k_isStr_int, k_isStr_str, k_isStr_list, k_isStr_tuple, k_isStr_dict, lRg1, lRg2, lLc2, iEm, lSeq, lOf, lRet, lRetO, lDis, lIf, lFn, sApp, sFor_eq, sPar2P, lcV, lcV2, lp_cons, lp_nil, List.map_cons, List.map_nil, b_pc, b_cp, beq_self_eq_true, isOwn, List.any_cons, List.any_nil, Bool.or_self, e_src0, e_src1, e_pl0, e_pl1, e_pl2, e_pl3, e_pl4, e_pl5, e_pl6, e_pl7, e_par0, e_par1, e_par2, e_chl0, e_chl1, comD1, comD2, lLc, optL_eq, ne_eq, reduceCtorEq, not_false_eq_true, decide_true]
            rw [show chD (some q) = .tuple [.int q.1, .int q.2] from rfl]
            simp only [sSeq, sIf, sSet, sOwn, sRet, sRetN, sNext, sDis, sSetIx, sApp, sAsg, sPar, sPar2O, sPar3, wB, wOp, wVar, wC, wNil, wCons, pNil, pCons, pPen, wTup, lLst, wL, wCall, wChain, Vl.wAnd, Vl.wOr, Vl.wNot, wAndV, wOrV, wNotV, wIf, wNeg, wIsN, wIsa, wFn, wSl, oNo, oPt, lList, wRevL, wIxO, wEqE, gN, gsNil, gsCons, gT, iL, iT, iR1, iR2, iZp, iEn, wYes, wipeV, endV, startV, e_fII, e_addI, e_addT, e_addL, e_intI, e_intB, e_mulT, e_mulL, e_lenL, e_lenT, e_tupL, e_tupT, e_eqI, e_neI, e_eqB, e_neB, e_eqS, e_neS, e_ix0T, e_ix1T, e_ix2T, e_ix3T, e_ix4T, e_ix0L, e_ix1L, e_ix2L, List.length_cons, List.length_nil, List.replicate, List.cons_append, List.nil_append, List.getElem?_cons_zero, List.getElem?_cons_succ, List.set_cons_zero, List.set_cons_succ, Nat.reduceAdd, Nat.reduceSub, List.replicate_succ, List.replicate_zero, true_and, if_true, if_false, Bool.false_eq_true, reduceIte, Int.toNat_natCast, fGt, fLtI, fLe, fGe, wFn, startV_one, isIntStr, isTupList, Bool.not_true, Bool.not_false, k_isInt_none, k_isInt_bool, k_isInt_int, k_isInt_str, k_isInt_list, k_isInt_tuple, k_isInt_dict, k_isBool_none, k_isBool_bool, k_isBool_int, k_isBool_str, k_isBool_list, k_isBool_tuple, k_isBool_dict, k_isTuple_none, k_isTuple_bool, k_isTuple_int, k_isTuple_str, k_isTuple_list, k_isTuple_tuple, k_isTuple_dict, k_isList_none, k_isList_bool, k_isList_int, k_isList_str, k_isList_list, k_isList_tuple, k_isList_dict, k_isStr_none, k_isStr_bool, k_isStr_int, k_isStr_str, k_isStr_list, k_isStr_tuple, k_isStr_dict, lRg1, lRg2, lLc2, iEm, lSeq, lOf, lRet, lRetO, lDis, lIf, lFn, sApp, sFor_eq, sPar2P, lcV, lcV2, lp_cons, lp_nil, List.map_cons, List.map_nil, b_pc, b_cp, beq_self_eq_true, isOwn, List.any_cons, List.any_nil, Bool.or_self, e_src0, e_src1, e_pl0, e_pl1, e_pl2, e_pl3, e_pl4, e_pl5, e_pl6, e_pl7, e_par0, e_par1, e_par2, e_chl0, e_chl1, comD1, comD2, lLc, optL_eq]
            refine ix_par hq.2.1 (by omega) ?_
            exact ⟨n, v, k, ps, j, _, _, rfl, ho, so, ⟨n, v, k, ps, j, _, _, rfl, ho, sl, by decide, by decide, tail_ok hL (hN _ ⟨_, _, _, _, _, _, _, by rw [hP _ ht]; rfl⟩)⟩⟩
    · obtain ⟨s6, s7, s8, s9, s10, s11, s12, rfl⟩ := hI
      simp only [sSeq, sIf, sSet, sOwn, sRet, sRetN, sNext, sDis, sSetIx, sApp, sAsg, sPar, sPar2O, sPar3, wB, wOp, wVar, wC, wNil, wCons, pNil, pCons, pPen, wTup, lLst, wL, wCall, wChain, Vl.wAnd, Vl.wOr, Vl.wNot, wAndV, wOrV, wNotV, wIf, wNeg, wIsN, wIsa, wFn, wSl, oNo, oPt, lList, wRevL, wIxO, wEqE, gN, gsNil, gsCons, gT, iL, iT, iR1, iR2, iZp, iEn, wYes, wipeV, endV, startV, e_fII, e_addI, e_addT, e_addL, e_intI, e_intB, e_mulT, e_mulL, e_lenL, e_lenT, e_tupL, e_tupT, e_eqI, e_neI, e_eqB, e_neB, e_eqS, e_neS, e_ix0T, e_ix1T, e_ix2T, e_ix3T, e_ix4T, e_ix0L, e_ix1L, e_ix2L, List.length_cons, List.length_nil, List.replicate, List.cons_append, List.nil_append, List.getElem?_cons_zero, List.getElem?_cons_succ, List.set_cons_zero, List.set_cons_succ, Nat.reduceAdd, Nat.reduceSub, List.replicate_succ, List.replicate_zero, true_and, if_true, if_false, Bool.false_eq_true, reduceIte, Int.toNat_natCast, fGt, fLtI, fLe, fGe, wFn, startV_one, isIntStr, isTupList, Bool.not_true, Bool.not_false, k_isInt_none, k_isInt_bool, k_isInt_int, k_isInt_str, k_isInt_list, k_isInt_tuple, k_isInt_dict, k_isBool_none, k_isBool_bool, k_isBool_int, k_isBool_str, k_isBool_list, k_isBool_tuple, k_isBool_dict, k_isTuple_none, k_isTuple_bool, k_isTuple_int, k_isTuple_str, k_isTuple_list, k_isTuple_tuple, k_isTuple_dict, k_isList_none, k_isList_bool, k_isList_int, k_isList_str, k_isList_list, k_isList_tuple, k_isList_dict, k_isStr_none, k_isStr_bool, k_isStr_int, k_isStr_str, k_isStr_list, k_isStr_tuple, k_isStr_dict, lRg1, lRg2, lLc2, iEm, lSeq, lOf, lRet, lRetO, lDis, lIf, lFn, sApp, sFor_eq, sPar2P, lcV, lcV2, lp_cons, lp_nil, List.map_cons, List.map_nil, b_pc, b_cp, beq_self_eq_true, isOwn, List.any_cons, List.any_nil, Bool.or_self, e_src0, e_src1, e_pl0, e_pl1, e_pl2, e_pl3, e_pl4, e_pl5, e_pl6, e_pl7, e_par0, e_par1, e_par2, e_chl0, e_chl1, comD1, comD2, lLc, optL_eq]
      exact ⟨_, rfl, g, Nat.le_refl _, hR⟩


end
end Law
namespace Law
open PySem PySem.Spec PyProof.Rows L2 Vl
section
variable {P : Program} {w : World} {K : PySem.W.Frag} {mg : Str → Option Value} {base : Heap}
def entPar : Ent → Bool
  | .par _ _ _ => true
  | .chl _ _ => false
theorem ent_keep {pl : Pl} {ps : List (Int × Int)} {src z : SrcV} : ∀ f : List Chg, (f.filterMap (entB pl ps src z)).filter entPar = (f.filter isPar).filterMap (entB pl ps src z) ∧ (f.filterMap (entB pl ps src z)).filter (fun e => !entPar e) = (f.filter fun y => !isPar y).filterMap (entB pl ps src z)
  | [] => ⟨rfl, rfl⟩
  | .par p s :: f => by
    obtain ⟨h1, h2⟩ := ent_keep (pl := pl) (ps := ps) (src := src) (z := z) f
    rw [List.filterMap_cons, List.filter_cons_of_pos (by rfl), List.filterMap_cons, List.filter_cons_of_neg (by simp [isPar]), show entB pl ps src z (.par p s) = if sentB pl.pa (vpB ps (src.1.getD p 0)) (vpB ps s) = true then some (.par p s (toldB pl z p)) else none from rfl]
    by_cases h : sentB pl.pa (vpB ps (src.1.getD p 0)) (vpB ps s) = true
    · rw [if_pos h]
      exact ⟨by rw [List.filter_cons_of_pos (by rfl), h1], by rw [List.filter_cons_of_neg (by simp [entPar]), h2]⟩
    · rw [if_neg h]
      exact ⟨h1, h2⟩
  | .chl c :: f => by
    obtain ⟨h1, h2⟩ := ent_keep (pl := pl) (ps := ps) (src := src) (z := z) f
    rw [List.filterMap_cons, List.filter_cons_of_neg (by simp [isPar]), List.filter_cons_of_pos (by rfl), List.filterMap_cons, show entB pl ps src z (.chl c) = if sentB pl.ch (cpB ps src.1 src.2) (cpB ps z.1 z.2) = true then some (.chl c (valB pl z c)) else none from rfl]
    by_cases h : sentB pl.ch (cpB ps src.1 src.2) (cpB ps z.1 z.2) = true
    · rw [if_pos h]
      exact ⟨by rw [List.filter_cons_of_neg (by simp [entPar]), h1], by rw [List.filter_cons_of_pos (by rfl), h2]⟩
    · rw [if_neg h]
      exact ⟨h1, h2⟩
theorem plainAll_chg : ∀ f : List Chg, PyData.plainAll (f.map chgD) = true
  | [] => by simp only [List.map_nil, PyData.plainAll]
  | y :: f => by simp only [List.map_cons, PyData.plainAll, plain_chg, plainAll_chg f, Bool.and_self]
theorem depthAll_chg : ∀ f : List Chg, PyData.depthAll (f.map chgD) ≤ 2
  | [] => by simp [PyData.depthAll]
  | y :: f => by
    have h1 := depthAll_chg f
    have h2 := depth_chg y
    simp only [List.map_cons, PyData.depthAll]
    omega
theorem ne_chgs {f : List Chg} {R : PyData → Prop} (h : R (.bool (!f.isEmpty))) : fNe (.list (f.map chgD)) (.list []) R := by
  refine ⟨⟨by simp only [PyData.plain]; exact plainAll_chg f, rfl, ?_⟩, ?_⟩
  · have := depthAll_chg f
    simp only [PyData.depth, PyData.depthAll]
    omega
  · rw [eqv_nil, List.isEmpty_map]
    exact h
def lD : Bool → Str
  | true => "parent"
  | false => "child"
theorem lD_eq (a b : Bool) : (lD a == lD b) = (a == b) := by cases a <;> cases b <;> decide
theorem e_chg0 {y : Chg} {R : PyData → Prop} : fIx (chgD y) (.int 0) R = R (.str (lD (isPar y))) := by
  cases y with
  | par p s => rw [e_par0]; rfl
  | chl c => rw [e_chl0]; rfl
theorem e_ent0 {e : Ent} {R : PyData → Prop} : fIx (entD e) (.int 0) R = R (.str (lD (entPar e))) := by
  cases e with
  | par p s t => exact fIx_is (j := 0) rfl rfl
  | chl c v => exact fIx_is (j := 0) rfl rfl
theorem ent_len {pl : Pl} {ps : List (Int × Int)} {src z : SrcV} {f : List Chg} (sh : ShC f) : (f.filterMap (entB pl ps src z)).length ≤ 2 := by
  have := List.length_filterMap_le (entB pl ps src z) f
  rcases sh with ⟨a, rfl⟩ | ⟨p, s, c, rfl⟩ <;> simp at this ⊢ <;> omega
theorem ok__law_messages (B : Bi mg) (C__law_entries : Ck P w K mg base "_law_entries" ["case", "plan", "source", "commit"] 3 spLen) (D : Df K mg "_law_messages" s__law_messages ["case", "plan", "source", "commit"]) : Ck P w K mg base "_law_messages" ["case", "plan", "source", "commit"] 4 spMs := by
  refine ck_v D sc__law_messages (fun as g R h => ?_) (fun f cdv A outer s H E hr => (vss_cons (vs_set 4 sc__law_messages.nd (v_callC C__law_entries (hr.mono (by decide)) (by rfl) (vp_cons (vv 0) (vp_cons (vv 1) (vp_cons (vv 2) (vp_cons (vv 3) vp_nil)))))) (vss_cons (vs_if (t_eq hr.units (v_ix (vv 1) v_int) v_int) (vss_one (vs_ret (v_tup (va_cons (v_toTuple (by rfl) B.b_tuple (va_cons (vv 4) va_nil)) va_nil)))) vss_nil) (vss_cons (vs_own 5 sc__law_messages.nd (vl_lst va_nil)) (vss_cons (vs_for PassesOwn.never rfl (vi_list (v_lst (va_cons v_str (va_cons v_str va_nil)))) (vg_n 6 sc__law_messages.nd) (vss_cons (vs_set 7 sc__law_messages.nd (v_toTuple (by rfl) B.b_tuple (va_cons (v_l (vl_lc rfl sc__law_messages.nd (vi_list (vv 4)) (blkOk_by (own := [("entry", 8)]) (by show blkC ["case", "plan", "source", "commit", "entries", "found", "word", "mine", "entry", "change"] (defScope s__law_messages) _ _ = true; decide +kernel)) (fun _ _ _ _ _ => (vg_n 8 sc__law_messages.nd)) (fun _ _ _ _ _ => (vts_one (t_eq hr.units (v_ix (vv 8) v_int) (vv 6)))) (fun _ _ _ _ _ => (vv 8)))) va_nil))) (vss_one (vs_appN 5 (v_if (t_ne hr.units (v_l (vl_lc rfl sc__law_messages.nd (vi_tup (vv 3)) (blkOk_by (own := [("change", 9)]) (by show blkC ["case", "plan", "source", "commit", "entries", "found", "word", "mine", "entry", "change"] (defScope s__law_messages) _ _ = true; decide +kernel)) (fun _ _ _ _ _ => (vg_n 9 sc__law_messages.nd)) (fun _ _ _ _ _ => (vts_one (t_eq hr.units (v_ix (vv 9) v_int) (vv 6)))) (fun _ _ _ _ _ => (vv 9)))) (v_lst va_nil)) (vv 7) v_non))))) (vss_dis 5 (vss_one (vs_ret (v_toTuple (by rfl) B.b_tuple (va_cons (vv 5) va_nil)))))))))) (fun as g R h => ?_)
  · obtain ⟨n, v, k, ps, j, pl, src, f, rfl, ho, po, so, sh, hin, hR⟩ := h
    rfl
  · obtain ⟨n, v, k, ps, j, pl, src, f, rfl, ho, po, so, sh, hin, hR⟩ := h
    have hfl : f.length ≤ 2 := by rcases sh with ⟨a, rfl⟩ | ⟨p, s, c, rfl⟩ <;> simp
    have hel := ent_len (pl := pl) (ps := ps) (src := src) (z := f.foldl stepC src) sh
    simp only [sSeq, sIf, sSet, sOwn, sRet, sRetN, sNext, sDis, sSetIx, sApp, sAsg, sPar, sPar2O, sPar3, wB, wOp, wVar, wC, wNil, wCons, pNil, pCons, pPen, wTup, lLst, wL, wCall, wChain, Vl.wAnd, Vl.wOr, Vl.wNot, wAndV, wOrV, wNotV, wIf, wNeg, wIsN, wIsa, wFn, wSl, oNo, oPt, lList, wRevL, wIxO, wEqE, gN, gsNil, gsCons, gT, iL, iT, iR1, iR2, iZp, iEn, wYes, wipeV, endV, startV, e_fII, e_addI, e_addT, e_addL, e_intI, e_intB, e_mulT, e_mulL, e_lenL, e_lenT, e_tupL, e_tupT, e_eqI, e_neI, e_eqB, e_neB, e_eqS, e_neS, e_ix0T, e_ix1T, e_ix2T, e_ix3T, e_ix4T, e_ix0L, e_ix1L, e_ix2L, List.length_cons, List.length_nil, List.replicate, List.cons_append, List.nil_append, List.getElem?_cons_zero, List.getElem?_cons_succ, List.set_cons_zero, List.set_cons_succ, Nat.reduceAdd, Nat.reduceSub, List.replicate_succ, List.replicate_zero, true_and, if_true, if_false, Bool.false_eq_true, reduceIte, Int.toNat_natCast, fGt, fLtI, fLe, fGe, wFn, startV_one, isIntStr, isTupList, Bool.not_true, Bool.not_false, k_isInt_none, k_isInt_bool, k_isInt_int, k_isInt_str, k_isInt_list, k_isInt_tuple, k_isInt_dict, k_isBool_none, k_isBool_bool, k_isBool_int, k_isBool_str, k_isBool_list, k_isBool_tuple, k_isBool_dict, k_isTuple_none, k_isTuple_bool, k_isTuple_int, k_isTuple_str, k_isTuple_list, k_isTuple_tuple, k_isTuple_dict, k_isList_none, k_isList_bool, k_isList_int, k_isList_str, k_isList_list, k_isList_tuple, k_isList_dict, k_isStr_none, k_isStr_bool, k_isStr_int, k_isStr_str, k_isStr_list, k_isStr_tuple, k_isStr_dict, lRg1, lRg2, lLc2, iEm, lSeq, lOf, lRet, lRetO, lDis, lIf, lFn, sApp, sFor_eq, sPar2P, lcV, lcV2, List.map_cons, List.map_nil, b_pc, b_cp, beq_self_eq_true, isOwn, List.any_cons, List.any_nil, Bool.or_self, e_src0, e_src1, e_pl0, e_pl1, e_pl2, e_pl3, e_pl4, e_pl5, e_pl6, e_pl7, e_par0, e_par1, e_par2, e_chl0, e_chl1, lLc, optL_eq]
    refine ⟨n, v, k, ps, j, pl, src, f, rfl, ho, po, so, sh, hin, ?_⟩
    unfold msgsB at hR
    generalize f.foldl stepC src = z at hR hel
    obtain ⟨k1, k2⟩ := ent_keep (pl := pl) (ps := ps) (src := src) (z := z) f
    have hb2 : pl.lanes = 2 → (pl.lanes == 1) = false := fun h => by rw [h]; decide
    have hb1 : pl.lanes = 1 → (pl.lanes == 1) = true := fun h => by rw [h]; decide
    have hn2 : pl.lanes = 2 → ¬ pl.lanes = 1 := fun h => by rw [h]; decide
    simp only [sSeq, sIf, sSet, sOwn, sRet, sRetN, sNext, sDis, sSetIx, sApp, sAsg, sPar, sPar2O, sPar3, wB, wOp, wVar, wC, wNil, wCons, pNil, pCons, pPen, wTup, lLst, wL, wCall, wChain, Vl.wAnd, Vl.wOr, Vl.wNot, wAndV, wOrV, wNotV, wIf, wNeg, wIsN, wIsa, wFn, wSl, oNo, oPt, lList, wRevL, wIxO, wEqE, gN, gsNil, gsCons, gT, iL, iT, iR1, iR2, iZp, iEn, wYes, wipeV, endV, startV, e_fII, e_addI, e_addT, e_addL, e_intI, e_intB, e_mulT, e_mulL, e_lenL, e_lenT, e_tupL, e_tupT, e_eqI, e_neI, e_eqB, e_neB, e_eqS, e_neS, e_ix0T, e_ix1T, e_ix2T, e_ix3T, e_ix4T, e_ix0L, e_ix1L, e_ix2L, List.length_cons, List.length_nil, List.replicate, List.cons_append, List.nil_append, List.getElem?_cons_zero, List.getElem?_cons_succ, List.set_cons_zero, List.set_cons_succ, Nat.reduceAdd, Nat.reduceSub, List.replicate_succ, List.replicate_zero, true_and, if_true, if_false, Bool.false_eq_true, reduceIte, Int.toNat_natCast, fGt, fLtI, fLe, fGe, wFn, startV_one, isIntStr, isTupList, Bool.not_true, Bool.not_false, k_isInt_none, k_isInt_bool, k_isInt_int, k_isInt_str, k_isInt_list, k_isInt_tuple, k_isInt_dict, k_isBool_none, k_isBool_bool, k_isBool_int, k_isBool_str, k_isBool_list, k_isBool_tuple, k_isBool_dict, k_isTuple_none, k_isTuple_bool, k_isTuple_int, k_isTuple_str, k_isTuple_list, k_isTuple_tuple, k_isTuple_dict, k_isList_none, k_isList_bool, k_isList_int, k_isList_str, k_isList_list, k_isList_tuple, k_isList_dict, k_isStr_none, k_isStr_bool, k_isStr_int, k_isStr_str, k_isStr_list, k_isStr_tuple, k_isStr_dict, lRg1, lRg2, lLc2, iEm, lSeq, lOf, lRet, lRetO, lDis, lIf, lFn, sApp, sFor_eq, sPar2P, lcV, lcV2, List.map_cons, List.map_nil, b_pc, b_cp, beq_self_eq_true, isOwn, List.any_cons, List.any_nil, Bool.or_self, e_src0, e_src1, e_pl0, e_pl1, e_pl2, e_pl3, e_pl4, e_pl5, e_pl6, e_pl7, e_par0, e_par1, e_par2, e_chl0, e_chl1, lLc, optL_eq]
    rcases po.l with h | h
    · rw [if_pos h] at hR
      rw [hb1 h, if_pos rfl]
      exact ⟨by decide, g, Nat.le_refl _, hR⟩
    · rw [if_neg (hn2 h)] at hR
      rw [hb2 h, if_neg Bool.false_ne_true]
      have hlane : ∀ (l : List Chg), msgD (laneB pl ps src z l) = if (!l.isEmpty) = true then .tuple ((l.filterMap (entB pl ps src z)).map entD) else .none := fun l => by cases l <;> rfl
      simp only [List.map_cons, List.map_nil, hlane] at hR
      rw [← k1, ← k2] at hR
      generalize f.filterMap (entB pl ps src z) = es at hR hel
      refine ⟨by decide, by decide, ?_⟩
      have ef : f.filter (fun y => isPar y == true) = f.filter isPar := by congr 1; funext y; cases isPar y <;> rfl
      have ef2 : f.filter (fun y => isPar y == false) = f.filter (fun y => !isPar y) := by congr 1; funext y; cases isPar y <;> rfl
      have ee : es.filter (fun y => entPar y == true) = es.filter entPar := by congr 1; funext y; cases entPar y <;> rfl
      have ee2 : es.filter (fun y => entPar y == false) = es.filter (fun y => !entPar y) := by congr 1; funext y; cases entPar y <;> rfl
      rw [← ef, ← ef2, ← ee, ← ee2] at hR
      show loopV _ _ _ ([true, false].map fun b => PyData.str (lD b)) _ _
      refine lp_pre (enc := fun b => PyData.str (lD b)) (fun pre ρ => ∃ s6 s7 s8 s9, ρ = [Sl.val (caseD n v k ps j), Sl.val (plD pl), Sl.val (srcD src.1 src.2), Sl.val (comD f), Sl.val (.list (es.map entD)), Sl.own (pre.map fun b => if (!(f.filter fun y => isPar y == b).isEmpty) = true then PyData.tuple ((es.filter fun e => entPar e == b).map entD) else .none), s6, s7, s8, s9]) [true, false] (fun pre b post hsp ρ N hI hN => ?_) (fun ρ' hI => ?_) _ [] _ rfl ⟨_, _, _, _, rfl⟩
      · obtain ⟨s6, s7, s8, s9, rfl⟩ := hI
        have hpre : pre.length ≤ 1 := by
          have := congrArg List.length hsp
          simp at this
          omega
        simp only [sSeq, sIf, sSet, sOwn, sRet, sRetN, sNext, sDis, sSetIx, sApp, sAsg, sPar, sPar2O, sPar3, wB, wOp, wVar, wC, wNil, wCons, pNil, pCons, pPen, wTup, lLst, wL, wCall, wChain, Vl.wAnd, Vl.wOr, Vl.wNot, wAndV, wOrV, wNotV, wIf, wNeg, wIsN, wIsa, wFn, wSl, oNo, oPt, lList, wRevL, wIxO, wEqE, gN, gsNil, gsCons, gT, iL, iT, iR1, iR2, iZp, iEn, wYes, wipeV, endV, startV, e_fII, e_addI, e_addT, e_addL, e_intI, e_intB, e_mulT, e_mulL, e_lenL, e_lenT, e_tupL, e_tupT, e_eqI, e_neI, e_eqB, e_neB, e_eqS, e_neS, e_ix0T, e_ix1T, e_ix2T, e_ix3T, e_ix4T, e_ix0L, e_ix1L, e_ix2L, List.length_cons, List.length_nil, List.replicate, List.cons_append, List.nil_append, List.getElem?_cons_zero, List.getElem?_cons_succ, List.set_cons_zero, List.set_cons_succ, Nat.reduceAdd, Nat.reduceSub, List.replicate_succ, List.replicate_zero, true_and, if_true, if_false, Bool.false_eq_true, reduceIte, Int.toNat_natCast, fGt, fLtI, fLe, fGe, wFn, startV_one, isIntStr, isTupList, Bool.not_true, Bool.not_false, k_isInt_none, k_isInt_bool, k_isInt_int, k_isInt_str, k_isInt_list, k_isInt_tuple, k_isInt_dict, k_isBool_none, k_isBool_bool, k_isBool_int, k_isBool_str, k_isBool_list, k_isBool_tuple, k_isBool_dict, k_isTuple_none, k_isTuple_bool, k_isTuple_int, k_isTuple_str, k_isTuple_list, k_isTuple_tuple, k_isTuple_dict, k_isList_none, k_isList_bool, k_isList_int, k_isList_str, k_isList_list, k_isList_tuple, k_isList_dict, k_isStr_none, k_isStr_bool, k_isStr_int, k_isStr_str, k_isStr_list, k_isStr_tuple, k_isStr_dict, lRg1, lRg2, lLc2, iEm, lSeq, lOf, lRet, lRetO, lDis, lIf, lFn, sApp, sFor_eq, sPar2P, b_pc, b_cp, beq_self_eq_true, isOwn, List.any_cons, List.any_nil, Bool.or_self, e_src0, e_src1, e_pl0, e_pl1, e_pl2, e_pl3, e_pl4, e_pl5, e_pl6, e_pl7, e_par0, e_par1, e_par2, e_chl0, e_chl1, lLc, optL_eq]
        refine ⟨by rw [List.length_map]; show _ ≤ 16777216; omega, lc_pure (enc := entD) (keep := fun e => entPar e == b) (f := entD) es [] (fun e he M acc hM => ?_) ?_⟩
        · simp only [sSeq, sIf, sSet, sOwn, sRet, sRetN, sNext, sDis, sSetIx, sApp, sAsg, sPar, sPar2O, sPar3, wB, wOp, wVar, wC, wNil, wCons, pNil, pCons, pPen, wTup, lLst, wL, wCall, wChain, Vl.wAnd, Vl.wOr, Vl.wNot, wAndV, wOrV, wNotV, wIf, wNeg, wIsN, wIsa, wFn, wSl, oNo, oPt, lList, wRevL, wIxO, wEqE, gN, gsNil, gsCons, gT, iL, iT, iR1, iR2, iZp, iEn, wYes, wipeV, endV, startV, e_fII, e_addI, e_addT, e_addL, e_intI, e_intB, e_mulT, e_mulL, e_lenL, e_lenT, e_tupL, e_tupT, e_eqI, e_neI, e_eqB, e_neB, e_eqS, e_neS, e_ix0T, e_ix1T, e_ix2T, e_ix3T, e_ix4T, e_ix0L, e_ix1L, e_ix2L, List.length_cons, List.length_nil, List.replicate, List.cons_append, List.nil_append, List.getElem?_cons_zero, List.getElem?_cons_succ, List.set_cons_zero, List.set_cons_succ, Nat.reduceAdd, Nat.reduceSub, List.replicate_succ, List.replicate_zero, true_and, if_true, if_false, Bool.false_eq_true, reduceIte, Int.toNat_natCast, fGt, fLtI, fLe, fGe, wFn, startV_one, isIntStr, isTupList, Bool.not_true, Bool.not_false, k_isInt_none, k_isInt_bool, k_isInt_int, k_isInt_str, k_isInt_list, k_isInt_tuple, k_isInt_dict, k_isBool_none, k_isBool_bool, k_isBool_int, k_isBool_str, k_isBool_list, k_isBool_tuple, k_isBool_dict, k_isTuple_none, k_isTuple_bool, k_isTuple_int, k_isTuple_str, k_isTuple_list, k_isTuple_tuple, k_isTuple_dict, k_isList_none, k_isList_bool, k_isList_int, k_isList_str, k_isList_list, k_isList_tuple, k_isList_dict, k_isStr_none, k_isStr_bool, k_isStr_int, k_isStr_str, k_isStr_list, k_isStr_tuple, k_isStr_dict, lRg1, lRg2, lLc2, iEm, lSeq, lOf, lRet, lRetO, lDis, lIf, lFn, sApp, sFor_eq, sPar2P, b_pc, b_cp, beq_self_eq_true, isOwn, List.any_cons, List.any_nil, Bool.or_self, e_src0, e_src1, e_pl0, e_pl1, e_pl2, e_pl3, e_pl4, e_pl5, e_pl6, e_pl7, e_par0, e_par1, e_par2, e_chl0, e_chl1, lLc, optL_eq, e_ent0, lD_eq]
          cases h : entPar e == b <;> rw [h] at hM <;> exact hM
        · rw [List.nil_append]
          refine ⟨_, rfl, ?_⟩
          show _ ∧ lcV _ _ _ (f.map chgD) _ _ _ _
          refine ⟨by rw [List.length_map]; show _ ≤ 16777216; omega, lc_pure (enc := chgD) (keep := fun y => isPar y == b) (f := chgD) f [] (fun y hy M acc hM => ?_) ?_⟩
          · simp only [sSeq, sIf, sSet, sOwn, sRet, sRetN, sNext, sDis, sSetIx, sApp, sAsg, sPar, sPar2O, sPar3, wB, wOp, wVar, wC, wNil, wCons, pNil, pCons, pPen, wTup, lLst, wL, wCall, wChain, Vl.wAnd, Vl.wOr, Vl.wNot, wAndV, wOrV, wNotV, wIf, wNeg, wIsN, wIsa, wFn, wSl, oNo, oPt, lList, wRevL, wIxO, wEqE, gN, gsNil, gsCons, gT, iL, iT, iR1, iR2, iZp, iEn, wYes, wipeV, endV, startV, e_fII, e_addI, e_addT, e_addL, e_intI, e_intB, e_mulT, e_mulL, e_lenL, e_lenT, e_tupL, e_tupT, e_eqI, e_neI, e_eqB, e_neB, e_eqS, e_neS, e_ix0T, e_ix1T, e_ix2T, e_ix3T, e_ix4T, e_ix0L, e_ix1L, e_ix2L, List.length_cons, List.length_nil, List.replicate, List.cons_append, List.nil_append, List.getElem?_cons_zero, List.getElem?_cons_succ, List.set_cons_zero, List.set_cons_succ, Nat.reduceAdd, Nat.reduceSub, List.replicate_succ, List.replicate_zero, true_and, if_true, if_false, Bool.false_eq_true, reduceIte, Int.toNat_natCast, fGt, fLtI, fLe, fGe, wFn, startV_one, isIntStr, isTupList, Bool.not_true, Bool.not_false, k_isInt_none, k_isInt_bool, k_isInt_int, k_isInt_str, k_isInt_list, k_isInt_tuple, k_isInt_dict, k_isBool_none, k_isBool_bool, k_isBool_int, k_isBool_str, k_isBool_list, k_isBool_tuple, k_isBool_dict, k_isTuple_none, k_isTuple_bool, k_isTuple_int, k_isTuple_str, k_isTuple_list, k_isTuple_tuple, k_isTuple_dict, k_isList_none, k_isList_bool, k_isList_int, k_isList_str, k_isList_list, k_isList_tuple, k_isList_dict, k_isStr_none, k_isStr_bool, k_isStr_int, k_isStr_str, k_isStr_list, k_isStr_tuple, k_isStr_dict, lRg1, lRg2, lLc2, iEm, lSeq, lOf, lRet, lRetO, lDis, lIf, lFn, sApp, sFor_eq, sPar2P, b_pc, b_cp, beq_self_eq_true, isOwn, List.any_cons, List.any_nil, Bool.or_self, e_src0, e_src1, e_pl0, e_pl1, e_pl2, e_pl3, e_pl4, e_pl5, e_pl6, e_pl7, e_par0, e_par1, e_par2, e_chl0, e_chl1, lLc, optL_eq, e_chg0, lD_eq]
            cases h : isPar y == b <;> rw [h] at hM <;> exact hM
          · rw [List.nil_append]
            refine ⟨by decide, ne_chgs ?_⟩
            have hl : (pre.map fun b => if (!(f.filter fun y => isPar y == b).isEmpty) = true then PyData.tuple ((es.filter fun e => entPar e == b).map entD) else .none).length < sizeLine := by
              rw [List.length_map]
              show _ < 16777216
              omega
            cases h : (!(f.filter fun y => isPar y == b).isEmpty) with
            | true =>
              simp only [sSeq, sIf, sSet, sOwn, sRet, sRetN, sNext, sDis, sSetIx, sApp, sAsg, sPar, sPar2O, sPar3, wB, wOp, wVar, wC, wNil, wCons, pNil, pCons, pPen, wTup, lLst, wL, wCall, wChain, Vl.wAnd, Vl.wOr, Vl.wNot, wAndV, wOrV, wNotV, wIf, wNeg, wIsN, wIsa, wFn, wSl, oNo, oPt, lList, wRevL, wIxO, wEqE, gN, gsNil, gsCons, gT, iL, iT, iR1, iR2, iZp, iEn, wYes, wipeV, endV, startV, e_fII, e_addI, e_addT, e_addL, e_intI, e_intB, e_mulT, e_mulL, e_lenL, e_lenT, e_tupL, e_tupT, e_eqI, e_neI, e_eqB, e_neB, e_eqS, e_neS, e_ix0T, e_ix1T, e_ix2T, e_ix3T, e_ix4T, e_ix0L, e_ix1L, e_ix2L, List.length_cons, List.length_nil, List.replicate, List.cons_append, List.nil_append, List.getElem?_cons_zero, List.getElem?_cons_succ, List.set_cons_zero, List.set_cons_succ, Nat.reduceAdd, Nat.reduceSub, List.replicate_succ, List.replicate_zero, true_and, if_true, if_false, Bool.false_eq_true, reduceIte, Int.toNat_natCast, fGt, fLtI, fLe, fGe, wFn, startV_one, isIntStr, isTupList, Bool.not_true, Bool.not_false, k_isInt_none, k_isInt_bool, k_isInt_int, k_isInt_str, k_isInt_list, k_isInt_tuple, k_isInt_dict, k_isBool_none, k_isBool_bool, k_isBool_int, k_isBool_str, k_isBool_list, k_isBool_tuple, k_isBool_dict, k_isTuple_none, k_isTuple_bool, k_isTuple_int, k_isTuple_str, k_isTuple_list, k_isTuple_tuple, k_isTuple_dict, k_isList_none, k_isList_bool, k_isList_int, k_isList_str, k_isList_list, k_isList_tuple, k_isList_dict, k_isStr_none, k_isStr_bool, k_isStr_int, k_isStr_str, k_isStr_list, k_isStr_tuple, k_isStr_dict, lRg1, lRg2, lLc2, iEm, lSeq, lOf, lRet, lRetO, lDis, lIf, lFn, sApp, sFor_eq, sPar2P, b_pc, b_cp, beq_self_eq_true, isOwn, List.any_cons, List.any_nil, Bool.or_self, e_src0, e_src1, e_pl0, e_pl1, e_pl2, e_pl3, e_pl4, e_pl5, e_pl6, e_pl7, e_par0, e_par1, e_par2, e_chl0, e_chl1, lLc, optL_eq]
              exact ⟨hl, hN _ ⟨_, _, _, _, by rw [List.map_append, List.map_cons, List.map_nil, if_pos h]⟩⟩
            | false =>
              simp only [sSeq, sIf, sSet, sOwn, sRet, sRetN, sNext, sDis, sSetIx, sApp, sAsg, sPar, sPar2O, sPar3, wB, wOp, wVar, wC, wNil, wCons, pNil, pCons, pPen, wTup, lLst, wL, wCall, wChain, Vl.wAnd, Vl.wOr, Vl.wNot, wAndV, wOrV, wNotV, wIf, wNeg, wIsN, wIsa, wFn, wSl, oNo, oPt, lList, wRevL, wIxO, wEqE, gN, gsNil, gsCons, gT, iL, iT, iR1, iR2, iZp, iEn, wYes, wipeV, endV, startV, e_fII, e_addI, e_addT, e_addL, e_intI, e_intB, e_mulT, e_mulL, e_lenL, e_lenT, e_tupL, e_tupT, e_eqI, e_neI, e_eqB, e_neB, e_eqS, e_neS, e_ix0T, e_ix1T, e_ix2T, e_ix3T, e_ix4T, e_ix0L, e_ix1L, e_ix2L, List.length_cons, List.length_nil, List.replicate, List.cons_append, List.nil_append, List.getElem?_cons_zero, List.getElem?_cons_succ, List.set_cons_zero, List.set_cons_succ, Nat.reduceAdd, Nat.reduceSub, List.replicate_succ, List.replicate_zero, true_and, if_true, if_false, Bool.false_eq_true, reduceIte, Int.toNat_natCast, fGt, fLtI, fLe, fGe, wFn, startV_one, isIntStr, isTupList, Bool.not_true, Bool.not_false, k_isInt_none, k_isInt_bool, k_isInt_int, k_isInt_str, k_isInt_list, k_isInt_tuple, k_isInt_dict, k_isBool_none, k_isBool_bool, k_isBool_int, k_isBool_str, k_isBool_list, k_isBool_tuple, k_isBool_dict, k_isTuple_none, k_isTuple_bool, k_isTuple_int, k_isTuple_str, k_isTuple_list, k_isTuple_tuple, k_isTuple_dict, k_isList_none, k_isList_bool, k_isList_int, k_isList_str, k_isList_list, k_isList_tuple, k_isList_dict, k_isStr_none, k_isStr_bool, k_isStr_int, k_isStr_str, k_isStr_list, k_isStr_tuple, k_isStr_dict, lRg1, lRg2, lLc2, iEm, lSeq, lOf, lRet, lRetO, lDis, lIf, lFn, sApp, sFor_eq, sPar2P, b_pc, b_cp, beq_self_eq_true, isOwn, List.any_cons, List.any_nil, Bool.or_self, e_src0, e_src1, e_pl0, e_pl1, e_pl2, e_pl3, e_pl4, e_pl5, e_pl6, e_pl7, e_par0, e_par1, e_par2, e_chl0, e_chl1, lLc, optL_eq]
              exact ⟨hl, hN _ ⟨_, _, _, _, by rw [List.map_append, List.map_cons, List.map_nil, if_neg (by rw [h]; exact Bool.false_ne_true)]⟩⟩
      · obtain ⟨s6, s7, s8, s9, rfl⟩ := hI
        simp only [sSeq, sIf, sSet, sOwn, sRet, sRetN, sNext, sDis, sSetIx, sApp, sAsg, sPar, sPar2O, sPar3, wB, wOp, wVar, wC, wNil, wCons, pNil, pCons, pPen, wTup, lLst, wL, wCall, wChain, Vl.wAnd, Vl.wOr, Vl.wNot, wAndV, wOrV, wNotV, wIf, wNeg, wIsN, wIsa, wFn, wSl, oNo, oPt, lList, wRevL, wIxO, wEqE, gN, gsNil, gsCons, gT, iL, iT, iR1, iR2, iZp, iEn, wYes, wipeV, endV, startV, e_fII, e_addI, e_addT, e_addL, e_intI, e_intB, e_mulT, e_mulL, e_lenL, e_lenT, e_tupL, e_tupT, e_eqI, e_neI, e_eqB, e_neB, e_eqS, e_neS, e_ix0T, e_ix1T, e_ix2T, e_ix3T, e_ix4T, e_ix0L, e_ix1L, e_ix2L, List.length_cons, List.length_nil, List.replicate, List.cons_append, List.nil_append, List.getElem?_cons_zero, List.getElem?_cons_succ, List.set_cons_zero, List.set_cons_succ, Nat.reduceAdd, Nat.reduceSub, List.replicate_succ, List.replicate_zero, true_and, if_true, if_false, Bool.false_eq_true, reduceIte, Int.toNat_natCast, fGt, fLtI, fLe, fGe, wFn, startV_one, isIntStr, isTupList, Bool.not_true, Bool.not_false, k_isInt_none, k_isInt_bool, k_isInt_int, k_isInt_str, k_isInt_list, k_isInt_tuple, k_isInt_dict, k_isBool_none, k_isBool_bool, k_isBool_int, k_isBool_str, k_isBool_list, k_isBool_tuple, k_isBool_dict, k_isTuple_none, k_isTuple_bool, k_isTuple_int, k_isTuple_str, k_isTuple_list, k_isTuple_tuple, k_isTuple_dict, k_isList_none, k_isList_bool, k_isList_int, k_isList_str, k_isList_list, k_isList_tuple, k_isList_dict, k_isStr_none, k_isStr_bool, k_isStr_int, k_isStr_str, k_isStr_list, k_isStr_tuple, k_isStr_dict, lRg1, lRg2, lLc2, iEm, lSeq, lOf, lRet, lRetO, lDis, lIf, lFn, sApp, sFor_eq, sPar2P, b_pc, b_cp, beq_self_eq_true, isOwn, List.any_cons, List.any_nil, Bool.or_self, e_src0, e_src1, e_pl0, e_pl1, e_pl2, e_pl3, e_pl4, e_pl5, e_pl6, e_pl7, e_par0, e_par1, e_par2, e_chl0, e_chl1, lLc, optL_eq]
        exact ⟨_, rfl, g, Nat.le_refl _, hR⟩


end
end Law
namespace Law
open PySem PySem.Spec PyProof.Rows L2 Vl
section
variable {P : Program} {w : World} {K : PySem.W.Frag} {mg : Str → Option Value} {base : Heap}
def spDpl : VSp := fun as g R => ∃ late : Int, as = [.pen, .val (.int late)] ∧ (late = 1 ∨ late = 2) ∧ g + 7 ≤ LIM ∧ ∀ pl : Pl, PlOk pl → pl.late = late → R (plD pl) (g + 7)
theorem snd_of {d : PyData} (h : d ∈ [PyData.str "all", .str "all", .str "either", .str "now"]) : ∃ s : Snd, d = .str s.s := by
  simp only [List.mem_cons, List.not_mem_nil, or_false] at h
  rcases h with rfl | rfl | rfl | rfl
  · exact ⟨.all, rfl⟩
  · exact ⟨.all, rfl⟩
  · exact ⟨.either, rfl⟩
  · exact ⟨.now, rfl⟩
theorem anw_of {d : PyData} (h : d ∈ [PyData.str "never", .str "never", .str "cut", .str "kept"]) : ∃ s : Anw, d = .str s.s := by
  simp only [List.mem_cons, List.not_mem_nil, or_false] at h
  rcases h with rfl | rfl | rfl | rfl
  · exact ⟨.never, rfl⟩
  · exact ⟨.never, rfl⟩
  · exact ⟨.cut, rfl⟩
  · exact ⟨.kept, rfl⟩
theorem ok__law_draw_plan (B : Bi mg) (C__law_take : Ck P w K mg base "_law_take" ["pen", "amount"] 2 spTake) (C__law_one_of : Ck P w K mg base "_law_one_of" ["pen", "some"] 3 spOneOf) (D : Df K mg "_law_draw_plan" s__law_draw_plan ["pen", "late"]) : Ck P w K mg base "_law_draw_plan" ["pen", "late"] 4 spDpl := by
  refine ck_v D sc__law_draw_plan (fun as g R h => ?_) (fun f cdv A outer s H E hr => (vss_cons (vs_set 2 sc__law_draw_plan.nd (v_lst (va_cons v_str (va_cons v_str (va_cons v_str (va_cons v_str va_nil)))))) (vss_cons (vs_set 3 sc__law_draw_plan.nd (v_toTuple (by rfl) B.b_tuple (va_cons (v_l (vl_lc rfl sc__law_draw_plan.nd (vi_range1 (by rfl) B.b_range (va_cons v_int va_nil)) (blkOk_by (own := [("flag", 4)]) (by show blkC ["pen", "late", "sends", "flags", "flag", "anew", "some"] (defScope s__law_draw_plan) _ _ = true; decide +kernel)) (fun _ _ _ _ _ => (vg_n 4 sc__law_draw_plan.nd)) (fun _ _ _ _ _ => vts_nil) (fun _ _ _ _ _ => (v_eq hr.units (v_callC C__law_take (hr.mono (by decide)) (by rfl) (vp_pen 0 (vp_cons v_int vp_nil))) v_int)))) va_nil))) (vss_cons (vs_set 5 sc__law_draw_plan.nd (v_callC C__law_one_of (hr.mono (by decide)) (by rfl) (vp_pen 0 (vp_cons (v_lst (va_cons v_str (va_cons v_str (va_cons v_str (va_cons v_str va_nil))))) vp_nil)))) (vss_cons (vs_set 6 sc__law_draw_plan.nd (v_tup (va_cons (v_callC C__law_one_of (hr.mono (by decide)) (by rfl) (vp_pen 0 (vp_cons (vv 2) vp_nil))) (va_cons (v_callC C__law_one_of (hr.mono (by decide)) (by rfl) (vp_pen 0 (vp_cons (vv 2) vp_nil))) va_nil)))) (vss_one (vs_ret (v_add (v_add (v_add (v_tup (va_cons (v_add v_int (v_callC C__law_take (hr.mono (by decide)) (by rfl) (vp_pen 0 (vp_cons v_int vp_nil)))) (va_cons (vv 1) va_nil))) (vv 6)) (vv 3)) (v_tup (va_cons (vv 5) va_nil)))))))))) (fun as g R h => ?_)
  · obtain ⟨late, rfl, hl, hg, hR⟩ := h
    rfl
  · obtain ⟨late, rfl, hl, hg, hR⟩ := h
    have hg' : g + 7 ≤ 4000000000 := hg
    simp only [sSeq, sIf, sSet, sOwn, sRet, sRetN, sNext, sDis, sSetIx, sApp, sAsg, sPar, sPar2O, sPar3, wB, wOp, wVar, wC, wNil, wCons, pNil, pCons, pPen, wTup, lLst, wL, wCall, wChain, Vl.wAnd, Vl.wOr, Vl.wNot, wAndV, wOrV, wNotV, wIf, wNeg, wIsN, wIsa, wFn, wSl, oNo, oPt, lList, wRevL, wIxO, wEqE, gN, gsNil, gsCons, gT, iL, iT, iR1, iR2, iZp, iEn, wYes, wipeV, endV, startV, e_fII, e_addI, e_addT, e_addL, e_intI, e_intB, e_mulT, e_mulL, e_lenL, e_lenT, e_tupL, e_tupT, e_eqI, e_neI, e_eqB, e_neB, e_eqS, e_neS, e_ix0T, e_ix1T, e_ix2T, e_ix3T, e_ix4T, e_ix0L, e_ix1L, e_ix2L, List.length_cons, List.length_nil, List.replicate, List.cons_append, List.nil_append, List.getElem?_cons_zero, List.getElem?_cons_succ, List.set_cons_zero, List.set_cons_succ, Nat.reduceAdd, Nat.reduceSub, List.replicate_succ, List.replicate_zero, true_and, if_true, if_false, Bool.false_eq_true, reduceIte, Int.toNat_natCast, fGt, fLtI, fLe, fGe, wFn, startV_one, isIntStr, isTupList, Bool.not_true, Bool.not_false, k_isInt_none, k_isInt_bool, k_isInt_int, k_isInt_str, k_isInt_list, k_isInt_tuple, k_isInt_dict, k_isBool_none, k_isBool_bool, k_isBool_int, k_isBool_str, k_isBool_list, k_isBool_tuple, k_isBool_dict, k_isTuple_none, k_isTuple_bool, k_isTuple_int, k_isTuple_str, k_isTuple_list, k_isTuple_tuple, k_isTuple_dict, k_isList_none, k_isList_bool, k_isList_int, k_isList_str, k_isList_list, k_isList_tuple, k_isList_dict, k_isStr_none, k_isStr_bool, k_isStr_int, k_isStr_str, k_isStr_list, k_isStr_tuple, k_isStr_dict, lRg1, lRg2, lLc2, iEm, lSeq, lOf, lRet, lRetO, lDis, lIf, lFn, sApp, lLc]
    refine ⟨by decide, ⟨by decide, by decide⟩, by decide, ?_⟩
    refine lc_inv (P := fun _ => True) (fun m acc g' => (∃ bs : List Bool, acc = bs.map .bool ∧ bs.length + m = 3) ∧ g' + m ≤ g + 3) ?_ ?_ _ _ _ (fun _ _ => trivial) ⟨⟨[], rfl, by decide⟩, by show g + 3 ≤ _; omega⟩
    · rintro acc g2 ⟨⟨bs, rfl, hl2⟩, hg2⟩
      rcases bs with _ | ⟨b1, _ | ⟨b2, _ | ⟨b3, _ | ⟨b4, bs⟩⟩⟩⟩ <;> simp at hl2
      simp only [sSeq, sIf, sSet, sOwn, sRet, sRetN, sNext, sDis, sSetIx, sApp, sAsg, sPar, sPar2O, sPar3, wB, wOp, wVar, wC, wNil, wCons, pNil, pCons, pPen, wTup, lLst, wL, wCall, wChain, Vl.wAnd, Vl.wOr, Vl.wNot, wAndV, wOrV, wNotV, wIf, wNeg, wIsN, wIsa, wFn, wSl, oNo, oPt, lList, wRevL, wIxO, wEqE, gN, gsNil, gsCons, gT, iL, iT, iR1, iR2, iZp, iEn, wYes, wipeV, endV, startV, e_fII, e_addI, e_addT, e_addL, e_intI, e_intB, e_mulT, e_mulL, e_lenL, e_lenT, e_tupL, e_tupT, e_eqI, e_neI, e_eqB, e_neB, e_eqS, e_neS, e_ix0T, e_ix1T, e_ix2T, e_ix3T, e_ix4T, e_ix0L, e_ix1L, e_ix2L, List.length_cons, List.length_nil, List.replicate, List.cons_append, List.nil_append, List.getElem?_cons_zero, List.getElem?_cons_succ, List.set_cons_zero, List.set_cons_succ, Nat.reduceAdd, Nat.reduceSub, List.replicate_succ, List.replicate_zero, true_and, if_true, if_false, Bool.false_eq_true, reduceIte, Int.toNat_natCast, fGt, fLtI, fLe, fGe, wFn, startV_one, isIntStr, isTupList, Bool.not_true, Bool.not_false, k_isInt_none, k_isInt_bool, k_isInt_int, k_isInt_str, k_isInt_list, k_isInt_tuple, k_isInt_dict, k_isBool_none, k_isBool_bool, k_isBool_int, k_isBool_str, k_isBool_list, k_isBool_tuple, k_isBool_dict, k_isTuple_none, k_isTuple_bool, k_isTuple_int, k_isTuple_str, k_isTuple_list, k_isTuple_tuple, k_isTuple_dict, k_isList_none, k_isList_bool, k_isList_int, k_isList_str, k_isList_list, k_isList_tuple, k_isList_dict, k_isStr_none, k_isStr_bool, k_isStr_int, k_isStr_str, k_isStr_list, k_isStr_tuple, k_isStr_dict, lRg1, lRg2, lLc2, iEm, lSeq, lOf, lRet, lRetO, lDis, lIf, lFn, sApp, lLc, List.map_cons, List.map_nil]
      refine ⟨by decide, _, rfl, ⟨by show 0 < 4; decide, by show 4 < 1000000000; decide⟩, by show g2 < 4000000000; omega, fun d hd => ?_⟩
      obtain ⟨an, rfl⟩ := anw_of hd
      refine ⟨_, rfl, ⟨by show 0 < 4; decide, by show 4 < 1000000000; decide⟩, by show g2 + 1 < 4000000000; omega, fun d hd => ?_⟩
      obtain ⟨ch, rfl⟩ := snd_of hd
      refine ⟨_, rfl, ⟨by show 0 < 4; decide, by show 4 < 1000000000; decide⟩, by show g2 + 1 + 1 < 4000000000; omega, fun d hd => ?_⟩
      obtain ⟨pa, rfl⟩ := snd_of hd
      refine ⟨by decide, 2, rfl, ⟨by decide, by decide⟩, by show g2 + 1 + 1 + 1 < 4000000000; omega, fun r r0 r1 => ?_⟩
      simp only [sSeq, sIf, sSet, sOwn, sRet, sRetN, sNext, sDis, sSetIx, sApp, sAsg, sPar, sPar2O, sPar3, wB, wOp, wVar, wC, wNil, wCons, pNil, pCons, pPen, wTup, lLst, wL, wCall, wChain, Vl.wAnd, Vl.wOr, Vl.wNot, wAndV, wOrV, wNotV, wIf, wNeg, wIsN, wIsa, wFn, wSl, oNo, oPt, lList, wRevL, wIxO, wEqE, gN, gsNil, gsCons, gT, iL, iT, iR1, iR2, iZp, iEn, wYes, wipeV, endV, startV, e_fII, e_addI, e_addT, e_addL, e_intI, e_intB, e_mulT, e_mulL, e_lenL, e_lenT, e_tupL, e_tupT, e_eqI, e_neI, e_eqB, e_neB, e_eqS, e_neS, e_ix0T, e_ix1T, e_ix2T, e_ix3T, e_ix4T, e_ix0L, e_ix1L, e_ix2L, List.length_cons, List.length_nil, List.replicate, List.cons_append, List.nil_append, List.getElem?_cons_zero, List.getElem?_cons_succ, List.set_cons_zero, List.set_cons_succ, Nat.reduceAdd, Nat.reduceSub, List.replicate_succ, List.replicate_zero, true_and, if_true, if_false, Bool.false_eq_true, reduceIte, Int.toNat_natCast, fGt, fLtI, fLe, fGe, wFn, startV_one, isIntStr, isTupList, Bool.not_true, Bool.not_false, k_isInt_none, k_isInt_bool, k_isInt_int, k_isInt_str, k_isInt_list, k_isInt_tuple, k_isInt_dict, k_isBool_none, k_isBool_bool, k_isBool_int, k_isBool_str, k_isBool_list, k_isBool_tuple, k_isBool_dict, k_isTuple_none, k_isTuple_bool, k_isTuple_int, k_isTuple_str, k_isTuple_list, k_isTuple_tuple, k_isTuple_dict, k_isList_none, k_isList_bool, k_isList_int, k_isList_str, k_isList_list, k_isList_tuple, k_isList_dict, k_isStr_none, k_isStr_bool, k_isStr_int, k_isStr_str, k_isStr_list, k_isStr_tuple, k_isStr_dict, lRg1, lRg2, lLc2, iEm, lSeq, lOf, lRet, lRetO, lDis, lIf, lFn, sApp, lLc]
      refine ⟨by decide, by decide, by decide, by decide, by decide, g + 7, by omega, hR ⟨1 + r, late, ch, pa, b1, b2, b3, an⟩ ⟨?_, hl⟩ rfl⟩
      show 1 + r = 1 ∨ 1 + r = 2
      omega
    · rintro d m acc g2 N2 _ ⟨⟨bs, rfl, hl2⟩, hg2⟩ hN2
      simp only [sSeq, sIf, sSet, sOwn, sRet, sRetN, sNext, sDis, sSetIx, sApp, sAsg, sPar, sPar2O, sPar3, wB, wOp, wVar, wC, wNil, wCons, pNil, pCons, pPen, wTup, lLst, wL, wCall, wChain, Vl.wAnd, Vl.wOr, Vl.wNot, wAndV, wOrV, wNotV, wIf, wNeg, wIsN, wIsa, wFn, wSl, oNo, oPt, lList, wRevL, wIxO, wEqE, gN, gsNil, gsCons, gT, iL, iT, iR1, iR2, iZp, iEn, wYes, wipeV, endV, startV, e_fII, e_addI, e_addT, e_addL, e_intI, e_intB, e_mulT, e_mulL, e_lenL, e_lenT, e_tupL, e_tupT, e_eqI, e_neI, e_eqB, e_neB, e_eqS, e_neS, e_ix0T, e_ix1T, e_ix2T, e_ix3T, e_ix4T, e_ix0L, e_ix1L, e_ix2L, List.length_cons, List.length_nil, List.replicate, List.cons_append, List.nil_append, List.getElem?_cons_zero, List.getElem?_cons_succ, List.set_cons_zero, List.set_cons_succ, Nat.reduceAdd, Nat.reduceSub, List.replicate_succ, List.replicate_zero, true_and, if_true, if_false, Bool.false_eq_true, reduceIte, Int.toNat_natCast, fGt, fLtI, fLe, fGe, wFn, startV_one, isIntStr, isTupList, Bool.not_true, Bool.not_false, k_isInt_none, k_isInt_bool, k_isInt_int, k_isInt_str, k_isInt_list, k_isInt_tuple, k_isInt_dict, k_isBool_none, k_isBool_bool, k_isBool_int, k_isBool_str, k_isBool_list, k_isBool_tuple, k_isBool_dict, k_isTuple_none, k_isTuple_bool, k_isTuple_int, k_isTuple_str, k_isTuple_list, k_isTuple_tuple, k_isTuple_dict, k_isList_none, k_isList_bool, k_isList_int, k_isList_str, k_isList_list, k_isList_tuple, k_isList_dict, k_isStr_none, k_isStr_bool, k_isStr_int, k_isStr_str, k_isStr_list, k_isStr_tuple, k_isStr_dict, lRg1, lRg2, lLc2, iEm, lSeq, lOf, lRet, lRetO, lDis, lIf, lFn, sApp, lLc, List.map_cons, List.map_nil]
      refine ⟨2, rfl, ⟨by decide, by decide⟩, by show g2 < 4000000000; omega, fun r r0 r1 => ?_⟩
      simp only [sSeq, sIf, sSet, sOwn, sRet, sRetN, sNext, sDis, sSetIx, sApp, sAsg, sPar, sPar2O, sPar3, wB, wOp, wVar, wC, wNil, wCons, pNil, pCons, pPen, wTup, lLst, wL, wCall, wChain, Vl.wAnd, Vl.wOr, Vl.wNot, wAndV, wOrV, wNotV, wIf, wNeg, wIsN, wIsa, wFn, wSl, oNo, oPt, lList, wRevL, wIxO, wEqE, gN, gsNil, gsCons, gT, iL, iT, iR1, iR2, iZp, iEn, wYes, wipeV, endV, startV, e_fII, e_addI, e_addT, e_addL, e_intI, e_intB, e_mulT, e_mulL, e_lenL, e_lenT, e_tupL, e_tupT, e_eqI, e_neI, e_eqB, e_neB, e_eqS, e_neS, e_ix0T, e_ix1T, e_ix2T, e_ix3T, e_ix4T, e_ix0L, e_ix1L, e_ix2L, List.length_cons, List.length_nil, List.replicate, List.cons_append, List.nil_append, List.getElem?_cons_zero, List.getElem?_cons_succ, List.set_cons_zero, List.set_cons_succ, Nat.reduceAdd, Nat.reduceSub, List.replicate_succ, List.replicate_zero, true_and, if_true, if_false, Bool.false_eq_true, reduceIte, Int.toNat_natCast, fGt, fLtI, fLe, fGe, wFn, startV_one, isIntStr, isTupList, Bool.not_true, Bool.not_false, k_isInt_none, k_isInt_bool, k_isInt_int, k_isInt_str, k_isInt_list, k_isInt_tuple, k_isInt_dict, k_isBool_none, k_isBool_bool, k_isBool_int, k_isBool_str, k_isBool_list, k_isBool_tuple, k_isBool_dict, k_isTuple_none, k_isTuple_bool, k_isTuple_int, k_isTuple_str, k_isTuple_list, k_isTuple_tuple, k_isTuple_dict, k_isList_none, k_isList_bool, k_isList_int, k_isList_str, k_isList_list, k_isList_tuple, k_isList_dict, k_isStr_none, k_isStr_bool, k_isStr_int, k_isStr_str, k_isStr_list, k_isStr_tuple, k_isStr_dict, lRg1, lRg2, lLc2, iEm, lSeq, lOf, lRet, lRetO, lDis, lIf, lFn, sApp, lLc]
      exact hN2 _ _ ⟨⟨bs ++ [r == 0], by rw [List.map_append]; rfl, by rw [List.length_append, List.length_singleton]; omega⟩, by omega⟩


end
end Law
namespace Law
open PySem PySem.Spec PyProof.Rows L2 Vl
section
variable {P : Program} {w : World} {K : PySem.W.Frag} {mg : Str → Option Value} {base : Heap}
theorem bd_int {t n : Nat} {i : Int} (h : i.natAbs ≤ 1000) : Bd t n (.int i) := .int n i (Nat.lt_of_le_of_lt h (Nat.lt_of_lt_of_le (show 1000 < 10 ^ 30 by decide) (Nat.pow_le_pow_right (by decide) (by omega))))
theorem bd_case {n v k : Int} {ps : List (Int × Int)} {j : Bool} (ho : CaseOk n v k ps) : Bd 0 3 (caseD n v k ps j) := by
  obtain ⟨n0, n1, v0, v1, k0, k1, hp, hl⟩ := ho
  refine .tup (n := 2) (fun x hx => ?_) (by show 5 ≤ 8; decide)
  simp only [List.mem_cons, List.not_mem_nil, or_false] at hx
  rcases hx with rfl | rfl | rfl | rfl | rfl
  · exact bd_int (by omega)
  · exact bd_int (by omega)
  · exact bd_int (by omega)
  · refine .tup (n := 1) (fun x hx => ?_) (by rw [List.length_map]; omega)
    obtain ⟨p, hpm, rfl⟩ := List.mem_map.mp hx
    have := hp p hpm
    refine .tup (n := 0) (fun y hy => ?_) (by show 2 ≤ 8; decide)
    rcases List.mem_cons.mp hy with rfl | hy
    · exact bd_int (by omega)
    · rw [List.mem_singleton.mp hy]
      exact bd_int (by omega)
  · exact .bl _ _
theorem bd_ch {n v k : Int} {xs : List Int} {c : Option (Int × Int)} (so : SrcOk n v k xs c) (hn : n ≤ 3) (hk : k ≤ 2) : Bd 0 1 (chD c) := by
  cases c with
  | none => exact .tup (fun _ h => (nomatch h)) (by decide)
  | some q =>
    have hq := so.hc q rfl
    refine .tup (fun x hx => ?_) (by show 2 ≤ 8; decide)
    rcases List.mem_cons.mp hx with rfl | hx
    · exact bd_int (by omega)
    · rw [List.mem_singleton.mp hx]
      exact bd_int (by omega)
theorem bd_par {n v k : Int} {xs : List Int} {c : Option (Int × Int)} (so : SrcOk n v k xs c) (hn : n ≤ 3) (hv : v ≤ 3) : Bd 0 1 (.tuple (xs.map .int)) := by
  have := so.len
  refine .tup (fun x hx => ?_) (by rw [List.length_map]; omega)
  obtain ⟨y, hy, rfl⟩ := List.mem_map.mp hx
  have := so.hx y hy
  exact bd_int (by omega)
theorem bd_src {n v k : Int} {xs : List Int} {c : Option (Int × Int)} (so : SrcOk n v k xs c) (hn : n ≤ 3) (hv : v ≤ 3) (hk : k ≤ 2) : Bd 0 2 (srcD xs c) := by
  refine .tup (fun x hx => ?_) (by show 2 ≤ 8; decide)
  rcases List.mem_cons.mp hx with rfl | hx
  · exact bd_par so hn hv
  · rw [List.mem_singleton.mp hx]
    exact bd_ch so hn hk
theorem bd_pair {n : Nat} {a b : PyData} (ha : Bd 0 n a) (hb : Bd 0 n b) : Bd 0 (n + 1) (.tuple [a, b]) := .tup (fun x hx => by
  rcases List.mem_cons.mp hx with rfl | hx
  · exact ha
  · rw [List.mem_singleton.mp hx]; exact hb) (by show 2 ≤ 8; decide)
theorem bd_cs {n v k : Int} {ps : List (Int × Int)} {j : Bool} {xs : List Int} {c : Option (Int × Int)} (ho : CaseOk n v k ps) (so : SrcOk n v k xs c) : showOk (.tuple [caseD n v k ps j, srcD xs c]) :=
  (bd_pair (bd_case ho) ((bd_src so ho.n1 ho.v1 ho.k1).le (by decide))).ok (by decide) (by decide)
theorem _root_.Vl.Sm.up {n : Nat} {d : PyData} (h : Sm n d) : Sm (n + 1) d := by
  induction h with
  | non n => exact .non _
  | bl n b => exact .bl _ b
  | int n i => exact .int _ i
  | str n x => exact .str _ x
  | lst _ hl ih => exact .lst ih hl
  | tup _ hl ih => exact .tup ih hl
theorem _root_.Vl.Sm.le {n m : Nat} {d : PyData} (h : Sm n d) (l : n ≤ m) : Sm m d := by
  induction l with
  | refl => exact h
  | step _ ih => exact ih.up
theorem sm_ints {xs : List Int} (h : xs.length ≤ 1000000) : Sm 1 (.tuple (xs.map .int)) := .tup (n := 0) (fun x hx => by
  obtain ⟨y, _, rfl⟩ := List.mem_map.mp hx
  exact .int _ _) (by rw [List.length_map]; exact h)
theorem sm_two {n : Nat} {a b : PyData} (ha : Sm n a) (hb : Sm n b) : Sm (n + 1) (.tuple [a, b]) := .tup (fun x hx => by
  rcases List.mem_cons.mp hx with rfl | hx
  · exact ha
  · rw [List.mem_singleton.mp hx]; exact hb) (by show 2 ≤ 1000000; decide)
theorem sm_ch {c : Option (Int × Int)} : Sm 1 (chD c) := by
  cases c with
  | none => exact .tup (fun _ h => (nomatch h)) (by decide)
  | some q => exact sm_two (.int _ _) (.int _ _)
theorem sm_src {xs : List Int} {c : Option (Int × Int)} (h : xs.length ≤ 1000000) : Sm 2 (srcD xs c) := sm_two (sm_ints h) sm_ch
theorem ne_self {x : Str} {R : PyData → Prop} (h : R (.bool false)) : fNe (.str x) (.str x) R := by rw [e_neS, beq_self_eq_true]; exact h
theorem coms_len {n v k : Int} {j : Bool} {xs : List Int} {c : Option (Int × Int)} (ho : n ≤ 3 ∧ v ≤ 3 ∧ k ≤ 2) (hl : (xs.length : Int) = n) : (comsOf n v k j xs c).length ≤ 103 := by
  rw [(coms_perm n v k j xs c).length_eq]
  have := List.length_filter_le (rrC xs c) (joinC j (pcsC v xs) (chC n k c))
  have := join_len (j := j) (pcsC_len (xs := xs) ho.2.1 (by omega)) (chC_len (c := c) ho.1 ho.2.2)
  omega
theorem pcC_ne {v x : Int} {p : Nat} (hv : 1 ≤ v) : ∃ s, Chg.par p s ∈ pcC v (x, p) := by
  by_cases h : x = -1
  · exact ⟨-1 + ((1 : Nat) : Int), List.mem_map.mpr ⟨1, List.mem_filter.mpr ⟨List.mem_range.mpr (by omega), by subst h; rfl⟩, rfl⟩⟩
  · exact ⟨-1 + ((0 : Nat) : Int), List.mem_map.mpr ⟨0, List.mem_filter.mpr ⟨List.mem_range.mpr (by omega), by simp; omega⟩, rfl⟩⟩
theorem coms_ne {n v k : Int} {j : Bool} {xs : List Int} {c : Option (Int × Int)} (hn : 1 ≤ n) (hv : 1 ≤ v) (hl : (xs.length : Int) = n) : 0 < (comsOf n v k j xs c).length := by
  have key : ∃ f, f ∈ (joinC j (pcsC v xs) (chC n k c)).filter (rrC xs c) := by
    cases c with
    | some q =>
      refine ⟨[.chl none], List.mem_filter.mpr ⟨List.mem_append_left _ (List.mem_map.mpr ⟨.chl none, List.mem_append_right _ (List.mem_map.mpr ⟨none, List.mem_filter.mpr ⟨List.mem_cons_self, ?_⟩, rfl⟩), rfl⟩), rfl⟩⟩
      simp
    | none =>
      obtain ⟨s, hs⟩ := pcC_ne (x := xs.getD 0 0) (p := 0) hv
      have h0 : Chg.par 0 s ∈ pcsC v xs := by
        rw [pcsC_range]
        exact List.mem_flatMap.mpr ⟨0, List.mem_range.mpr (by omega), hs⟩
      exact ⟨[.par 0 s], List.mem_filter.mpr ⟨List.mem_append_left _ (List.mem_map.mpr ⟨.par 0 s, List.mem_append_left _ h0, rfl⟩), rfl⟩⟩
  obtain ⟨f, hf⟩ := key
  exact List.length_pos_of_mem ((coms_perm n v k j xs c).mem_iff.mpr hf)
theorem zero_src (n : Int) : (List.replicate n.toNat [PyData.int (-1)]).flatten = (List.replicate n.toNat (-1 : Int)).map .int := by
  rw [List.map_replicate]
  generalize n.toNat = z
  induction z with
  | zero => rfl
  | succ z ih => rw [List.replicate_succ, List.flatten_cons, ih, List.replicate_succ]; rfl
theorem zero_ok {n v k : Int} (hn : 1 ≤ n) (hv : 1 ≤ v) : SrcOk n v k (List.replicate n.toNat (-1 : Int)) none := ⟨by rw [List.length_replicate]; omega, fun x hx => by rw [List.eq_of_mem_replicate hx]; omega, fun q hq => (nomatch hq)⟩
theorem coms_sh {n v k : Int} {j : Bool} {xs : List Int} {c : Option (Int × Int)} (hl : (xs.length : Int) = n) : ∀ f ∈ comsOf n v k j xs c, ShC f := fun f hf => by
  have h := (List.mem_filter.mp ((coms_perm n v k j xs c).mem_iff.mp hf)).1
  unfold joinC at h
  rcases List.mem_append.mp h with h | h
  · obtain ⟨y, _, rfl⟩ := List.mem_map.mp h
    exact .inl ⟨y, rfl⟩
  · cases j with
    | false => exact (nomatch h)
    | true =>
      rw [if_pos rfl] at h
      obtain ⟨a, ha, h⟩ := List.mem_flatMap.mp h
      obtain ⟨b, hb, rfl⟩ := List.mem_map.mp h
      obtain ⟨p, s, rfl⟩ := (pcs_in k hl a ha).2
      obtain ⟨c', rfl⟩ := (ch_in v b hb).2
      exact .inr ⟨p, s, c', rfl⟩
theorem bd_snd (s : Snd) : Bd 0 0 (.str s.s) := by cases s <;> exact .str _ _ (by decide +kernel)
theorem bd_anw (s : Anw) : Bd 0 0 (.str s.s) := by cases s <;> exact .str _ _ (by decide +kernel)
theorem bd_pl {pl : Pl} (po : PlOk pl) : Bd 0 1 (plD pl) := .tup (fun x hx => by
  have h1 := po.l
  have h2 := po.t
  simp only [List.mem_cons, List.not_mem_nil, or_false] at hx
  rcases hx with rfl | rfl | rfl | rfl | rfl | rfl | rfl | rfl
  · exact bd_int (by omega)
  · exact bd_int (by omega)
  · exact bd_snd _
  · exact bd_snd _
  · exact .bl _ _
  · exact .bl _ _
  · exact .bl _ _
  · exact bd_anw _) (by show 8 ≤ 8; decide)
theorem bd_three {n : Nat} {a b c : PyData} (ha : Bd 0 n a) (hb : Bd 0 n b) (hc : Bd 0 n c) : Bd 0 (n + 1) (.tuple [a, b, c]) := .tup (fun x hx => by
  simp only [List.mem_cons, List.not_mem_nil, or_false] at hx
  rcases hx with rfl | rfl | rfl
  · exact ha
  · exact hb
  · exact hc) (by show 3 ≤ 8; decide)
theorem sm_told (t : Option Int) : Sm 1 (toldD t) := by
  cases t with
  | none => exact .tup (fun _ h => (nomatch h)) (by decide)
  | some k => exact .tup (fun x hx => by rw [List.mem_singleton.mp hx]; exact .int _ _) (by show 1 ≤ 1000000; decide)
theorem sm_ent : ∀ e : Ent, Sm 2 (entD e)
  | .par p s t => .tup (fun x hx => by
      simp only [List.mem_cons, List.not_mem_nil, or_false] at hx
      rcases hx with rfl | rfl | rfl | rfl
      · exact .str _ _
      · exact .int _ _
      · exact .int _ _
      · exact sm_told t) (by show 4 ≤ 1000000; decide)
  | .chl c v => .tup (fun x hx => by
      simp only [List.mem_cons, List.not_mem_nil, or_false] at hx
      rcases hx with rfl | rfl | rfl
      · exact .str _ _
      · exact sm_ch
      · exact .int _ _) (by show 3 ≤ 1000000; decide)
/-- what a lane gets is short -/
theorem msgs_len {pl : Pl} {ps : List (Int × Int)} {src : SrcV} {f : List Chg} (sh : ShC f) : ∀ m ∈ msgsB pl ps src f, ∀ es, m = some es → es.length ≤ 2 := fun m hm es he => by
  subst he
  have hf : f.length ≤ 2 := by rcases sh with ⟨a, rfl⟩ | ⟨p, s, c, rfl⟩ <;> simp
  have hl : ∀ l : List Chg, l.length ≤ 2 → laneB pl ps src (f.foldl stepC src) l = some es → es.length ≤ 2 := fun l hl e => by
    cases l with
    | nil => cases e
    | cons y l =>
      injection e with e
      subst e
      exact Nat.le_trans (List.length_filterMap_le _ _) hl
  unfold msgsB at hm
  by_cases h : pl.lanes = 1
  · rw [if_pos h] at hm
    injection List.mem_singleton.mp hm with e
    subst e
    exact Nat.le_trans (List.length_filterMap_le _ _) hf
  · rw [if_neg h] at hm
    rcases List.mem_cons.mp hm with hm | hm
    · exact hl _ (Nat.le_trans (List.length_filter_le _ _) hf) hm.symm
    · exact hl _ (Nat.le_trans (List.length_filter_le _ _) hf) (List.mem_singleton.mp hm).symm
theorem msgs_two {pl : Pl} {ps : List (Int × Int)} {src : SrcV} {f : List Chg} : (msgsB pl ps src f).length ≤ 2 := by
  unfold msgsB
  split <;> simp
theorem sm_msgs {pl : Pl} {ps : List (Int × Int)} {src : SrcV} {f : List Chg} (sh : ShC f) : Sm 4 (.tuple ((msgsB pl ps src f).map msgD)) := .tup (fun x hx => by
  obtain ⟨m, hm, rfl⟩ := List.mem_map.mp hx
  cases m with
  | none => exact .non _
  | some es =>
    have := msgs_len sh _ hm es rfl
    exact .tup (fun y hy => by
      obtain ⟨e, _, rfl⟩ := List.mem_map.mp hy
      exact sm_ent e) (by rw [List.length_map]; omega)) (by have := @msgs_two pl ps src f; rw [List.length_map]; omega)
def spLaw (K : PySem.W.Frag) : Sp := fun vs H Q _ => ∃ (a : Addr) (ns : List Int), vs = [.ref a] ∧ SqL K H a (ns.map V.int) ∧ ns.length ≤ 63 ∧ ∀ H', Q (.bl true) H'
theorem ok_law {f : Addr} {fd : FuncData} (B : Bi mg) (hsy : SysD base) (F : Fun K "law" "law" s_law f fd)
    (C_open : ∃ (f : Addr) (fd : FuncData), FnOk P w K mg base CX0 1 f fd ["script"] (spOpen K) ∧ L2.Binds K fd ["script"] [] ∧ mg "_law_open" = some (.ref f) ∧ PySem.W.keepIn K (.ref f) = true)
    (C__law_draw_case : Ck P w K mg base "_law_draw_case" ["pen", "shapes"] 4 spDc)
    (C__law_draw_plan : Ck P w K mg base "_law_draw_plan" ["pen", "late"] 4 spDpl)
    (C__law_commits : Ck P w K mg base "_law_commits" ["case", "source"] 2 spLco)
    (C__law_one_of : Ck P w K mg base "_law_one_of" ["pen", "some"] 3 spOneOf)
    (C_messages_of : Ck P w K mg base "messages_of" ["case", "plan", "source", "commit"] 4 spMs)
    (C__law_messages : Ck P w K mg base "_law_messages" ["case", "plan", "source", "commit"] 4 spMs)
    (C__law_same : Ck P w K mg base "_law_same" ["found", "due"] 5 (spSame 4))
    (C__law_done : Ck P w K mg base "_law_done" ["source", "commit"] 1 spAft) : FnG P w K mg base 9 f fd ["script"] (spLaw K) := by
  obtain ⟨om, hsm, hcm⟩ := hsy
  obtain ⟨fO, fdO, FO, bO, gO, kO⟩ := C_open
  refine fn_g F sc_law (fun vs H Q E h => ?_) (fun cdv A outer s H vs Q E hgd hr h => ?_)
  · obtain ⟨a, ns, rfl, _⟩ := h
    rfl
  · obtain ⟨a, ns, rfl, ha, hl, q⟩ := h
    have rest : VSs (cxOf CX0 P w K mg base ["script", "pen", "turn", "case", "plan", "source", "again", "some", "text", "commit", "each"] "law" (defScope s_law) f cdv A outer s H E).nox ((defBody s_law).drop 1) _ := (vss_cons (vs_for PassesOwn.never rfl (vi_range1 (by rfl) B.b_range (va_cons v_int va_nil)) (vg_n 2 sc_law.nd) (vss_cons (vs_set 3 sc_law.nd (v_callC C__law_draw_case (hr.mono (by decide)) (by rfl) (vp_pen 1 (vp_cons (v_lst (va_cons (v_tup (va_cons v_int (va_cons v_int (va_cons v_int va_nil)))) (va_cons (v_tup (va_cons v_int (va_cons v_int (va_cons v_int va_nil)))) (va_cons (v_tup (va_cons v_int (va_cons v_int (va_cons v_int va_nil)))) (va_cons (v_tup (va_cons v_int (va_cons v_int (va_cons v_int va_nil)))) (va_cons (v_tup (va_cons v_int (va_cons v_int (va_cons v_int va_nil)))) (va_cons (v_tup (va_cons v_int (va_cons v_int (va_cons v_int va_nil)))) va_nil))))))) vp_nil)))) (vss_cons (vs_set 4 sc_law.nd (v_callC C__law_draw_plan (hr.mono (by decide)) (by rfl) (vp_pen 1 (vp_cons v_int vp_nil)))) (vss_cons (vs_set 5 sc_law.nd (v_tup (va_cons (v_mulT (v_tup (va_cons (v_neg v_int) va_nil)) (v_ix (vv 3) v_int)) (va_cons (v_tup va_nil) va_nil)))) (vss_one (vs_for PassesOwn.never rfl (vi_range1 (by rfl) B.b_range (va_cons v_int va_nil)) (vg_n 6 sc_law.nd) (vss_cons (vs_set 7 sc_law.nd (v_callC C__law_commits (hr.mono (by decide)) (by rfl) (vp_cons (vv 3) (vp_cons (vv 5) vp_nil)))) (vss_cons (vs_set 8 sc_law.nd (v_repr hgd hr.units hsm hcm (by rfl) B.b_repr (va_cons (v_tup (va_cons (vv 3) (va_cons (vv 4) (va_cons (vv 5) va_nil)))) va_nil))) (vss_cons (vs_for PassesOwn.never rfl (vi_list (v_l (vl_lc rfl sc_law.nd (vi_range1 (by rfl) B.b_range (va_cons v_int va_nil)) (blkOk_by (own := [("each", 10)]) (by show blkC ["script", "pen", "turn", "case", "plan", "source", "again", "some", "text", "commit", "each"] (defScope s_law) _ _ = true; decide +kernel)) (fun _ _ _ _ _ => (vg_n 10 sc_law.nd)) (fun _ _ _ _ _ => vts_nil) (fun _ _ _ _ _ => (v_callC C__law_one_of (hr.mono (by decide)) (by rfl) (vp_pen 1 (vp_cons (vv 7) vp_nil))))))) (vg_n 9 sc_law.nd) (vss_one (vs_if (t_not (t_val (v_callC C__law_same (hr.mono (by decide)) (by rfl) (vp_cons (v_callC C_messages_of (hr.mono (by decide)) (by rfl) (vp_cons (vv 3) (vp_cons (vv 4) (vp_cons (vv 5) (vp_cons (vv 9) vp_nil))))) (vp_cons (v_callC C__law_messages (hr.mono (by decide)) (by rfl) (vp_cons (vv 3) (vp_cons (vv 4) (vp_cons (vv 5) (vp_cons (vv 9) vp_nil))))) vp_nil))))) (vss_one (vs_ret v_bl)) vss_nil))) (vss_cons (vs_if (t_ne hr.units (v_repr hgd hr.units hsm hcm (by rfl) B.b_repr (va_cons (v_tup (va_cons (vv 3) (va_cons (vv 4) (va_cons (vv 5) va_nil)))) va_nil)) (vv 8)) (vss_one (vs_ret v_bl)) vss_nil) (vss_one (vs_set 5 sc_law.nd (v_callC C__law_done (hr.mono (by decide)) (by rfl) (vp_cons (vv 5) (vp_cons (v_callC C__law_one_of (hr.mono (by decide)) (by rfl) (vp_pen 1 (vp_cons (vv 7) vp_nil))) vp_nil))))))))))))))) (vss_one (vs_ret v_bl)))
    refine ⟨_, (pss_cons (ps_set (i := 1) sc_law.nd rfl (by first | exact .inl rfl | exact .inr rfl) (pe_call FO (hr.mono (by decide)) (by rfl) gO kO bO .nil pass0 (pa_cons (pv 0) pa_nil))) rest), ?_⟩
    refine ⟨.ref a, rfl, a, ns, rfl, ha, hl, fun p H1 hp hs hpen => ?_⟩
    refine ⟨p, H1, [], [], [.un, .pen, .un, .un, .un, .un, .un, .un, .un, .un, .un], 0, { nx := fun _ _ => False, rt := fun d _ => d = .bool true }, ?_, ?_, ?_⟩
    · refine ⟨Kp.refl _ _, hpen, fun _ h => h, fun _ h => (nomatch h), fun h => (nomatch h), fun _ h => (nomatch h), fun _ h => (nomatch h), rfl, fun i s hi => ?_, fun i j ds es o hi => ?_⟩
      · rcases i with _ | _ | _ | _ | _ | _ | _ | _ | _ | _ | _ | i <;> cases hi
        all_goals first | trivial | rfl
      · rcases i with _ | _ | _ | _ | _ | _ | _ | _ | _ | _ | _ | i <;> cases hi
    · show (-(2 ^ 62) ≤ (3 : Int) ∧ (3 : Int) < 2 ^ 62) ∧ loopV (gN 2) _ _ (rangeD 0 3) _ _
      refine ⟨⟨by decide, by decide⟩, ?_⟩
      refine lp_inv (fun m ρ g => ∃ s2 s3 s4 s5 s6 s7 s8 s9 s10 : Sl, ρ = [.un, .pen, s2, s3, s4, s5, s6, s7, s8, s9, s10] ∧ g + 40 * m ≤ 120) ?_ ?_ _ _ _ ⟨_, _, _, _, _, _, _, _, _, rfl, by decide⟩
      · rintro ρ g ⟨s2, s3, s4, s5, s6, s7, s8, s9, s10, rfl, hg⟩
        rfl
      · rintro d m ρ g N ⟨s2, s3, s4, s5, s6, s7, s8, s9, s10, rfl, hg⟩ hN
        simp only [sSeq, sIf, sSet, sOwn, sRet, sRetN, sNext, sDis, sSetIx, sApp, sAsg, sPar, sPar2O, sPar3, wB, wOp, wVar, wC, wNil, wCons, pNil, pCons, pPen, wTup, lLst, wL, wCall, wChain, Vl.wAnd, Vl.wOr, Vl.wNot, wAndV, wOrV, wNotV, wIf, wNeg, wIsN, wIsa, wFn, wSl, oNo, oPt, lList, wRevL, wIxO, wEqE, gN, gsNil, gsCons, gT, iL, iT, iR1, iR2, iZp, iEn, wYes, wipeV, endV, startV, e_fII, e_addI, e_addT, e_addL, e_intI, e_intB, e_mulT, e_mulL, e_lenL, e_lenT, e_tupL, e_tupT, e_eqI, e_neI, e_eqB, e_neB, e_eqS, e_neS, e_ix0T, e_ix1T, e_ix2T, e_ix3T, e_ix4T, e_ix0L, e_ix1L, e_ix2L, List.length_cons, List.length_nil, List.replicate, List.cons_append, List.nil_append, List.getElem?_cons_zero, List.getElem?_cons_succ, List.set_cons_zero, List.set_cons_succ, Nat.reduceAdd, Nat.reduceSub, List.replicate_succ, List.replicate_zero, true_and, if_true, if_false, Bool.false_eq_true, reduceIte, Int.toNat_natCast, fGt, fLtI, fLe, fGe, wFn, startV_one, isIntStr, isTupList, Bool.not_true, Bool.not_false, k_isInt_none, k_isInt_bool, k_isInt_int, k_isInt_str, k_isInt_list, k_isInt_tuple, k_isInt_dict, k_isBool_none, k_isBool_bool, k_isBool_int, k_isBool_str, k_isBool_list, k_isBool_tuple, k_isBool_dict, k_isTuple_none, k_isTuple_bool, k_isTuple_int, k_isTuple_str, k_isTuple_list, k_isTuple_tuple, k_isTuple_dict, k_isList_none, k_isList_bool, k_isList_int, k_isList_str, k_isList_list, k_isList_tuple, k_isList_dict, k_isStr_none, k_isStr_bool, k_isStr_int, k_isStr_str, k_isStr_list, k_isStr_tuple, k_isStr_dict, lRg1, lRg2, lLc2, iEm, lSeq, lOf, lRet, lRetO, lDis, lIf, lFn, sApp, lLc]
        refine ⟨by decide, by decide, by decide, by decide, by decide, by decide, by decide, [(1, 2, 1), (2, 2, 1), (2, 3, 2), (3, 3, 2), (3, 1, 1), (1, 3, 2)], rfl, ⟨by decide, by decide⟩, by decide, by show g + 8 ≤ 4000000000; omega, fun n v k ps j ho => ?_⟩
        have := ho.n0
        have := ho.n1
        have := ho.v0
        have := ho.v1
        simp only [sSeq, sIf, sSet, sOwn, sRet, sRetN, sNext, sDis, sSetIx, sApp, sAsg, sPar, sPar2O, sPar3, wB, wOp, wVar, wC, wNil, wCons, pNil, pCons, pPen, wTup, lLst, wL, wCall, wChain, Vl.wAnd, Vl.wOr, Vl.wNot, wAndV, wOrV, wNotV, wIf, wNeg, wIsN, wIsa, wFn, wSl, oNo, oPt, lList, wRevL, wIxO, wEqE, gN, gsNil, gsCons, gT, iL, iT, iR1, iR2, iZp, iEn, wYes, wipeV, endV, startV, e_fII, e_addI, e_addT, e_addL, e_intI, e_intB, e_mulT, e_mulL, e_lenL, e_lenT, e_tupL, e_tupT, e_eqI, e_neI, e_eqB, e_neB, e_eqS, e_neS, e_ix0T, e_ix1T, e_ix2T, e_ix3T, e_ix4T, e_ix0L, e_ix1L, e_ix2L, List.length_cons, List.length_nil, List.replicate, List.cons_append, List.nil_append, List.getElem?_cons_zero, List.getElem?_cons_succ, List.set_cons_zero, List.set_cons_succ, Nat.reduceAdd, Nat.reduceSub, List.replicate_succ, List.replicate_zero, true_and, if_true, if_false, Bool.false_eq_true, reduceIte, Int.toNat_natCast, fGt, fLtI, fLe, fGe, wFn, startV_one, isIntStr, isTupList, Bool.not_true, Bool.not_false, k_isInt_none, k_isInt_bool, k_isInt_int, k_isInt_str, k_isInt_list, k_isInt_tuple, k_isInt_dict, k_isBool_none, k_isBool_bool, k_isBool_int, k_isBool_str, k_isBool_list, k_isBool_tuple, k_isBool_dict, k_isTuple_none, k_isTuple_bool, k_isTuple_int, k_isTuple_str, k_isTuple_list, k_isTuple_tuple, k_isTuple_dict, k_isList_none, k_isList_bool, k_isList_int, k_isList_str, k_isList_list, k_isList_tuple, k_isList_dict, k_isStr_none, k_isStr_bool, k_isStr_int, k_isStr_str, k_isStr_list, k_isStr_tuple, k_isStr_dict, lRg1, lRg2, lLc2, iEm, lSeq, lOf, lRet, lRetO, lDis, lIf, lFn, sApp, lLc]
        refine ⟨1, rfl, .inl rfl, by show g + 8 + 7 ≤ 4000000000; omega, fun pl po _ => ?_⟩
        simp only [sSeq, sIf, sSet, sOwn, sRet, sRetN, sNext, sDis, sSetIx, sApp, sAsg, sPar, sPar2O, sPar3, wB, wOp, wVar, wC, wNil, wCons, pNil, pCons, pPen, wTup, lLst, wL, wCall, wChain, Vl.wAnd, Vl.wOr, Vl.wNot, wAndV, wOrV, wNotV, wIf, wNeg, wIsN, wIsa, wFn, wSl, oNo, oPt, lList, wRevL, wIxO, wEqE, gN, gsNil, gsCons, gT, iL, iT, iR1, iR2, iZp, iEn, wYes, wipeV, endV, startV, e_fII, e_addI, e_addT, e_addL, e_intI, e_intB, e_mulT, e_mulL, e_lenL, e_lenT, e_tupL, e_tupT, e_eqI, e_neI, e_eqB, e_neB, e_eqS, e_neS, e_ix0T, e_ix1T, e_ix2T, e_ix3T, e_ix4T, e_ix0L, e_ix1L, e_ix2L, List.length_cons, List.length_nil, List.replicate, List.cons_append, List.nil_append, List.getElem?_cons_zero, List.getElem?_cons_succ, List.set_cons_zero, List.set_cons_succ, Nat.reduceAdd, Nat.reduceSub, List.replicate_succ, List.replicate_zero, true_and, if_true, if_false, Bool.false_eq_true, reduceIte, Int.toNat_natCast, fGt, fLtI, fLe, fGe, wFn, startV_one, isIntStr, isTupList, Bool.not_true, Bool.not_false, k_isInt_none, k_isInt_bool, k_isInt_int, k_isInt_str, k_isInt_list, k_isInt_tuple, k_isInt_dict, k_isBool_none, k_isBool_bool, k_isBool_int, k_isBool_str, k_isBool_list, k_isBool_tuple, k_isBool_dict, k_isTuple_none, k_isTuple_bool, k_isTuple_int, k_isTuple_str, k_isTuple_list, k_isTuple_tuple, k_isTuple_dict, k_isList_none, k_isList_bool, k_isList_int, k_isList_str, k_isList_list, k_isList_tuple, k_isList_dict, k_isStr_none, k_isStr_bool, k_isStr_int, k_isStr_str, k_isStr_list, k_isStr_tuple, k_isStr_dict, lRg1, lRg2, lLc2, iEm, lSeq, lOf, lRet, lRetO, lDis, lIf, lFn, sApp, lLc]
        refine ⟨by decide, fIxT_at (j := 0) rfl ?_⟩
        rw [e_mulT]
        refine ⟨⟨by omega, by omega, by decide⟩, by decide, by decide, ?_⟩
        rw [zero_src, show PyData.tuple [.tuple ((List.replicate n.toNat (-1 : Int)).map .int), .tuple []] = srcD (List.replicate n.toNat (-1 : Int)) none from rfl, sFor_eq]
        simp only [sSeq, sIf, sSet, sOwn, sRet, sRetN, sNext, sDis, sSetIx, sApp, sAsg, sPar, sPar2O, sPar3, wB, wOp, wVar, wC, wNil, wCons, pNil, pCons, pPen, wTup, lLst, wL, wCall, wChain, Vl.wAnd, Vl.wOr, Vl.wNot, wAndV, wOrV, wNotV, wIf, wNeg, wIsN, wIsa, wFn, wSl, oNo, oPt, lList, wRevL, wIxO, wEqE, gN, gsNil, gsCons, gT, iL, iT, iR1, iR2, iZp, iEn, wYes, wipeV, endV, startV, e_fII, e_addI, e_addT, e_addL, e_intI, e_intB, e_mulT, e_mulL, e_lenL, e_lenT, e_tupL, e_tupT, e_eqI, e_neI, e_eqB, e_neB, e_eqS, e_neS, e_ix0T, e_ix1T, e_ix2T, e_ix3T, e_ix4T, e_ix0L, e_ix1L, e_ix2L, List.length_cons, List.length_nil, List.replicate, List.cons_append, List.nil_append, List.getElem?_cons_zero, List.getElem?_cons_succ, List.set_cons_zero, List.set_cons_succ, Nat.reduceAdd, Nat.reduceSub, List.replicate_succ, List.replicate_zero, true_and, if_true, if_false, Bool.false_eq_true, reduceIte, Int.toNat_natCast, fGt, fLtI, fLe, fGe, wFn, startV_one, isIntStr, isTupList, Bool.not_true, Bool.not_false, k_isInt_none, k_isInt_bool, k_isInt_int, k_isInt_str, k_isInt_list, k_isInt_tuple, k_isInt_dict, k_isBool_none, k_isBool_bool, k_isBool_int, k_isBool_str, k_isBool_list, k_isBool_tuple, k_isBool_dict, k_isTuple_none, k_isTuple_bool, k_isTuple_int, k_isTuple_str, k_isTuple_list, k_isTuple_tuple, k_isTuple_dict, k_isList_none, k_isList_bool, k_isList_int, k_isList_str, k_isList_list, k_isList_tuple, k_isList_dict, k_isStr_none, k_isStr_bool, k_isStr_int, k_isStr_str, k_isStr_list, k_isStr_tuple, k_isStr_dict, lRg1, lRg2, lLc2, iEm, lSeq, lOf, lRet, lRetO, lDis, lIf, lFn, sApp, lLc]
        refine ⟨⟨by decide, by decide⟩, ?_⟩
        refine lp_inv (fun m' ρ g' => ∃ (xs : List Int) (c : Option (Int × Int)) (s2 s6 s7 s8 s9 s10 : Sl), ρ = [.un, .pen, s2, .val (caseD n v k ps j), .val (plD pl), .val (srcD xs c), s6, s7, s8, s9, s10] ∧ SrcOk n v k xs c ∧ g' + 5 * m' ≤ g + 40) ?_ ?_ _ _ _ ⟨_, _, _, _, _, _, _, _, rfl, zero_ok ho.n0 ho.v0, by show g + 8 + 7 + 5 * 5 ≤ g + 40; omega⟩
        · rintro ρ g' ⟨xs, c, s2, s6, s7, s8, s9, s10, rfl, so, hg'⟩
          exact hN _ _ ⟨_, _, _, _, _, _, _, _, _, rfl, by omega⟩
        · rintro d' m' ρ g' N' ⟨xs, c, s2, s6, s7, s8, s9, s10, rfl, so, hg'⟩ hN'
          have hl3 : xs.length ≤ 3 := by
            have := so.len
            omega
          have hshow : showOk (.tuple [caseD n v k ps j, plD pl, srcD xs c]) := (bd_three (bd_case ho) ((bd_pl po).le (by decide)) ((bd_src so ho.n1 ho.v1 ho.k1).le (by decide))).ok (by decide) (by decide)
          have hlen := coms_len (j := j) (c := c) ⟨ho.n1, ho.v1, ho.k1⟩ so.len
          have hpos := coms_ne (j := j) (k := k) (c := c) ho.n0 ho.v0 so.len
          have hok := coms_ok (v := v) (k := k) (j := j) (c := c) so.len
          have hsh := coms_sh (v := v) (k := k) (j := j) (c := c) so.len
          simp only [sSeq, sIf, sSet, sOwn, sRet, sRetN, sNext, sDis, sSetIx, sApp, sAsg, sPar, sPar2O, sPar3, wB, wOp, wVar, wC, wNil, wCons, pNil, pCons, pPen, wTup, lLst, wL, wCall, wChain, Vl.wAnd, Vl.wOr, Vl.wNot, wAndV, wOrV, wNotV, wIf, wNeg, wIsN, wIsa, wFn, wSl, oNo, oPt, lList, wRevL, wIxO, wEqE, gN, gsNil, gsCons, gT, iL, iT, iR1, iR2, iZp, iEn, wYes, wipeV, endV, startV, e_fII, e_addI, e_addT, e_addL, e_intI, e_intB, e_mulT, e_mulL, e_lenL, e_lenT, e_tupL, e_tupT, e_eqI, e_neI, e_eqB, e_neB, e_eqS, e_neS, e_ix0T, e_ix1T, e_ix2T, e_ix3T, e_ix4T, e_ix0L, e_ix1L, e_ix2L, List.length_cons, List.length_nil, List.replicate, List.cons_append, List.nil_append, List.getElem?_cons_zero, List.getElem?_cons_succ, List.set_cons_zero, List.set_cons_succ, Nat.reduceAdd, Nat.reduceSub, List.replicate_succ, List.replicate_zero, true_and, if_true, if_false, Bool.false_eq_true, reduceIte, Int.toNat_natCast, fGt, fLtI, fLe, fGe, wFn, startV_one, isIntStr, isTupList, Bool.not_true, Bool.not_false, k_isInt_none, k_isInt_bool, k_isInt_int, k_isInt_str, k_isInt_list, k_isInt_tuple, k_isInt_dict, k_isBool_none, k_isBool_bool, k_isBool_int, k_isBool_str, k_isBool_list, k_isBool_tuple, k_isBool_dict, k_isTuple_none, k_isTuple_bool, k_isTuple_int, k_isTuple_str, k_isTuple_list, k_isTuple_tuple, k_isTuple_dict, k_isList_none, k_isList_bool, k_isList_int, k_isList_str, k_isList_list, k_isList_tuple, k_isList_dict, k_isStr_none, k_isStr_bool, k_isStr_int, k_isStr_str, k_isStr_list, k_isStr_tuple, k_isStr_dict, lRg1, lRg2, lLc2, iEm, lSeq, lOf, lRet, lRetO, lDis, lIf, lFn, sApp, lLc]
          refine ⟨n, v, k, ps, j, xs, c, rfl, ho, so, by decide, _, rfl, hshow, ?_⟩
          simp only [sFor_eq, sSeq, sIf, sSet, sOwn, sRet, sRetN, sNext, sDis, sSetIx, sApp, sAsg, sPar, sPar2O, sPar3, wB, wOp, wVar, wC, wNil, wCons, pNil, pCons, pPen, wTup, lLst, wL, wCall, wChain, Vl.wAnd, Vl.wOr, Vl.wNot, wAndV, wOrV, wNotV, wIf, wNeg, wIsN, wIsa, wFn, wSl, oNo, oPt, lList, wRevL, wIxO, wEqE, gN, gsNil, gsCons, gT, iL, iT, iR1, iR2, iZp, iEn, wYes, wipeV, endV, startV, e_fII, e_addI, e_addT, e_addL, e_intI, e_intB, e_mulT, e_mulL, e_lenL, e_lenT, e_tupL, e_tupT, e_eqI, e_neI, e_eqB, e_neB, e_eqS, e_neS, e_ix0T, e_ix1T, e_ix2T, e_ix3T, e_ix4T, e_ix0L, e_ix1L, e_ix2L, List.length_cons, List.length_nil, List.replicate, List.cons_append, List.nil_append, List.getElem?_cons_zero, List.getElem?_cons_succ, List.set_cons_zero, List.set_cons_succ, Nat.reduceAdd, Nat.reduceSub, List.replicate_succ, List.replicate_zero, true_and, if_true, if_false, Bool.false_eq_true, reduceIte, Int.toNat_natCast, fGt, fLtI, fLe, fGe, wFn, startV_one, isIntStr, isTupList, Bool.not_true, Bool.not_false, k_isInt_none, k_isInt_bool, k_isInt_int, k_isInt_str, k_isInt_list, k_isInt_tuple, k_isInt_dict, k_isBool_none, k_isBool_bool, k_isBool_int, k_isBool_str, k_isBool_list, k_isBool_tuple, k_isBool_dict, k_isTuple_none, k_isTuple_bool, k_isTuple_int, k_isTuple_str, k_isTuple_list, k_isTuple_tuple, k_isTuple_dict, k_isList_none, k_isList_bool, k_isList_int, k_isList_str, k_isList_list, k_isList_tuple, k_isList_dict, k_isStr_none, k_isStr_bool, k_isStr_int, k_isStr_str, k_isStr_list, k_isStr_tuple, k_isStr_dict, lRg1, lRg2, lLc2, iEm, lSeq, lOf, lRet, lRetO, lDis, lIf, lFn, sApp, lLc]
          refine ⟨⟨by decide, by decide⟩, by decide, ?_⟩
          refine lc_inv (P := fun _ => True) (fun m acc g2 => (∃ fs : List (List Chg), acc = fs.map comD ∧ ∀ f ∈ fs, f ∈ comsOf n v k j xs c) ∧ acc.length + m ≤ 4 ∧ g2 + m ≤ g' + 4) ?_ ?_ _ _ _ (fun _ _ => trivial) ⟨⟨[], rfl, fun _ h => (nomatch h)⟩, by decide, by show g' + 4 ≤ _; omega⟩
          · rintro acc g2 ⟨⟨fs, rfl, hfs⟩, _, hg2⟩
            refine lp_mem (P := fun e => ∃ f ∈ comsOf n v k j xs c, e = comD f) (fun _ ρ g3 => g3 = g2 ∧ ∃ s9 s10 : Sl, ρ = [.un, .pen, s2, .val (caseD n v k ps j), .val (plD pl), .val (srcD xs c), .val d', .val (.list ((comsOf n v k j xs c).map comD)), .val (.str (PyData.tuple [caseD n v k ps j, plD pl, srcD xs c]).shown), s9, s10]) ?_ ?_ _ _ _ (fun e he => ?_) ⟨rfl, _, _, rfl⟩
            · rintro ρ g3 ⟨rfl, s9, s10, rfl⟩
              simp only [sSeq, sIf, sSet, sOwn, sRet, sRetN, sNext, sDis, sSetIx, sApp, sAsg, sPar, sPar2O, sPar3, wB, wOp, wVar, wC, wNil, wCons, pNil, pCons, pPen, wTup, lLst, wL, wCall, wChain, Vl.wAnd, Vl.wOr, Vl.wNot, wAndV, wOrV, wNotV, wIf, wNeg, wIsN, wIsa, wFn, wSl, oNo, oPt, lList, wRevL, wIxO, wEqE, gN, gsNil, gsCons, gT, iL, iT, iR1, iR2, iZp, iEn, wYes, wipeV, endV, startV, e_fII, e_addI, e_addT, e_addL, e_intI, e_intB, e_mulT, e_mulL, e_lenL, e_lenT, e_tupL, e_tupT, e_eqI, e_neI, e_eqB, e_neB, e_eqS, e_neS, e_ix0T, e_ix1T, e_ix2T, e_ix3T, e_ix4T, e_ix0L, e_ix1L, e_ix2L, List.length_cons, List.length_nil, List.replicate, List.cons_append, List.nil_append, List.getElem?_cons_zero, List.getElem?_cons_succ, List.set_cons_zero, List.set_cons_succ, Nat.reduceAdd, Nat.reduceSub, List.replicate_succ, List.replicate_zero, true_and, if_true, if_false, Bool.false_eq_true, reduceIte, Int.toNat_natCast, fGt, fLtI, fLe, fGe, wFn, startV_one, isIntStr, isTupList, Bool.not_true, Bool.not_false, k_isInt_none, k_isInt_bool, k_isInt_int, k_isInt_str, k_isInt_list, k_isInt_tuple, k_isInt_dict, k_isBool_none, k_isBool_bool, k_isBool_int, k_isBool_str, k_isBool_list, k_isBool_tuple, k_isBool_dict, k_isTuple_none, k_isTuple_bool, k_isTuple_int, k_isTuple_str, k_isTuple_list, k_isTuple_tuple, k_isTuple_dict, k_isList_none, k_isList_bool, k_isList_int, k_isList_str, k_isList_list, k_isList_tuple, k_isList_dict, k_isStr_none, k_isStr_bool, k_isStr_int, k_isStr_str, k_isStr_list, k_isStr_tuple, k_isStr_dict, lRg1, lRg2, lLc2, iEm, lSeq, lOf, lRet, lRetO, lDis, lIf, lFn, sApp, lLc]
              refine ⟨by decide, _, rfl, hshow, ne_self ?_⟩
              simp only [sSeq, sIf, sSet, sOwn, sRet, sRetN, sNext, sDis, sSetIx, sApp, sAsg, sPar, sPar2O, sPar3, wB, wOp, wVar, wC, wNil, wCons, pNil, pCons, pPen, wTup, lLst, wL, wCall, wChain, Vl.wAnd, Vl.wOr, Vl.wNot, wAndV, wOrV, wNotV, wIf, wNeg, wIsN, wIsa, wFn, wSl, oNo, oPt, lList, wRevL, wIxO, wEqE, gN, gsNil, gsCons, gT, iL, iT, iR1, iR2, iZp, iEn, wYes, wipeV, endV, startV, e_fII, e_addI, e_addT, e_addL, e_intI, e_intB, e_mulT, e_mulL, e_lenL, e_lenT, e_tupL, e_tupT, e_eqI, e_neI, e_eqB, e_neB, e_eqS, e_neS, e_ix0T, e_ix1T, e_ix2T, e_ix3T, e_ix4T, e_ix0L, e_ix1L, e_ix2L, List.length_cons, List.length_nil, List.replicate, List.cons_append, List.nil_append, List.getElem?_cons_zero, List.getElem?_cons_succ, List.set_cons_zero, List.set_cons_succ, Nat.reduceAdd, Nat.reduceSub, List.replicate_succ, List.replicate_zero, true_and, if_true, if_false, Bool.false_eq_true, reduceIte, Int.toNat_natCast, fGt, fLtI, fLe, fGe, wFn, startV_one, isIntStr, isTupList, Bool.not_true, Bool.not_false, k_isInt_none, k_isInt_bool, k_isInt_int, k_isInt_str, k_isInt_list, k_isInt_tuple, k_isInt_dict, k_isBool_none, k_isBool_bool, k_isBool_int, k_isBool_str, k_isBool_list, k_isBool_tuple, k_isBool_dict, k_isTuple_none, k_isTuple_bool, k_isTuple_int, k_isTuple_str, k_isTuple_list, k_isTuple_tuple, k_isTuple_dict, k_isList_none, k_isList_bool, k_isList_int, k_isList_str, k_isList_list, k_isList_tuple, k_isList_dict, k_isStr_none, k_isStr_bool, k_isStr_int, k_isStr_str, k_isStr_list, k_isStr_tuple, k_isStr_dict, lRg1, lRg2, lLc2, iEm, lSeq, lOf, lRet, lRetO, lDis, lIf, lFn, sApp, lLc]
              refine ⟨_, rfl, ⟨by rw [List.length_map]; exact hpos, by rw [List.length_map]; omega⟩, by show g3 < 4000000000; omega, fun e he => ?_⟩
              obtain ⟨f, hf, rfl⟩ := List.mem_map.mp he
              have hm := (hok f hf).mem
              have hz := fold_ok (z := (xs, c)) so hm
              have hpp : ∀ p s, Chg.par p s ∈ f → p < xs.length := fun p s hp => by
                have := (hm _ hp).1
                have := so.len
                omega
              exact ⟨xs, c, f, rfl, hl3, hpp, hN' _ _ ⟨_, _, _, _, _, _, _, _, rfl, hz, by omega⟩⟩
            · rintro e _ ρ g3 N3 ⟨f, hf, rfl⟩ ⟨rfl, s9, s10, rfl⟩ hN3
              have hm := (hok f hf).mem
              simp only [sSeq, sIf, sSet, sOwn, sRet, sRetN, sNext, sDis, sSetIx, sApp, sAsg, sPar, sPar2O, sPar3, wB, wOp, wVar, wC, wNil, wCons, pNil, pCons, pPen, wTup, lLst, wL, wCall, wChain, Vl.wAnd, Vl.wOr, Vl.wNot, wAndV, wOrV, wNotV, wIf, wNeg, wIsN, wIsa, wFn, wSl, oNo, oPt, lList, wRevL, wIxO, wEqE, gN, gsNil, gsCons, gT, iL, iT, iR1, iR2, iZp, iEn, wYes, wipeV, endV, startV, e_fII, e_addI, e_addT, e_addL, e_intI, e_intB, e_mulT, e_mulL, e_lenL, e_lenT, e_tupL, e_tupT, e_eqI, e_neI, e_eqB, e_neB, e_eqS, e_neS, e_ix0T, e_ix1T, e_ix2T, e_ix3T, e_ix4T, e_ix0L, e_ix1L, e_ix2L, List.length_cons, List.length_nil, List.replicate, List.cons_append, List.nil_append, List.getElem?_cons_zero, List.getElem?_cons_succ, List.set_cons_zero, List.set_cons_succ, Nat.reduceAdd, Nat.reduceSub, List.replicate_succ, List.replicate_zero, true_and, if_true, if_false, Bool.false_eq_true, reduceIte, Int.toNat_natCast, fGt, fLtI, fLe, fGe, wFn, startV_one, isIntStr, isTupList, Bool.not_true, Bool.not_false, k_isInt_none, k_isInt_bool, k_isInt_int, k_isInt_str, k_isInt_list, k_isInt_tuple, k_isInt_dict, k_isBool_none, k_isBool_bool, k_isBool_int, k_isBool_str, k_isBool_list, k_isBool_tuple, k_isBool_dict, k_isTuple_none, k_isTuple_bool, k_isTuple_int, k_isTuple_str, k_isTuple_list, k_isTuple_tuple, k_isTuple_dict, k_isList_none, k_isList_bool, k_isList_int, k_isList_str, k_isList_list, k_isList_tuple, k_isList_dict, k_isStr_none, k_isStr_bool, k_isStr_int, k_isStr_str, k_isStr_list, k_isStr_tuple, k_isStr_dict, lRg1, lRg2, lLc2, iEm, lSeq, lOf, lRet, lRetO, lDis, lIf, lFn, sApp, lLc]
              refine ⟨n, v, k, ps, j, pl, (xs, c), f, rfl, ho, po, so, hsh f hf, hm, ⟨n, v, k, ps, j, pl, (xs, c), f, rfl, ho, po, so, hsh f hf, hm, ⟨_, rfl, sm_msgs (hsh f hf), ?_⟩⟩⟩
              simp only [sSeq, sIf, sSet, sOwn, sRet, sRetN, sNext, sDis, sSetIx, sApp, sAsg, sPar, sPar2O, sPar3, wB, wOp, wVar, wC, wNil, wCons, pNil, pCons, pPen, wTup, lLst, wL, wCall, wChain, Vl.wAnd, Vl.wOr, Vl.wNot, wAndV, wOrV, wNotV, wIf, wNeg, wIsN, wIsa, wFn, wSl, oNo, oPt, lList, wRevL, wIxO, wEqE, gN, gsNil, gsCons, gT, iL, iT, iR1, iR2, iZp, iEn, wYes, wipeV, endV, startV, e_fII, e_addI, e_addT, e_addL, e_intI, e_intB, e_mulT, e_mulL, e_lenL, e_lenT, e_tupL, e_tupT, e_eqI, e_neI, e_eqB, e_neB, e_eqS, e_neS, e_ix0T, e_ix1T, e_ix2T, e_ix3T, e_ix4T, e_ix0L, e_ix1L, e_ix2L, List.length_cons, List.length_nil, List.replicate, List.cons_append, List.nil_append, List.getElem?_cons_zero, List.getElem?_cons_succ, List.set_cons_zero, List.set_cons_succ, Nat.reduceAdd, Nat.reduceSub, List.replicate_succ, List.replicate_zero, true_and, if_true, if_false, Bool.false_eq_true, reduceIte, Int.toNat_natCast, fGt, fLtI, fLe, fGe, wFn, startV_one, isIntStr, isTupList, Bool.not_true, Bool.not_false, k_isInt_none, k_isInt_bool, k_isInt_int, k_isInt_str, k_isInt_list, k_isInt_tuple, k_isInt_dict, k_isBool_none, k_isBool_bool, k_isBool_int, k_isBool_str, k_isBool_list, k_isBool_tuple, k_isBool_dict, k_isTuple_none, k_isTuple_bool, k_isTuple_int, k_isTuple_str, k_isTuple_list, k_isTuple_tuple, k_isTuple_dict, k_isList_none, k_isList_bool, k_isList_int, k_isList_str, k_isList_list, k_isList_tuple, k_isList_dict, k_isStr_none, k_isStr_bool, k_isStr_int, k_isStr_str, k_isStr_list, k_isStr_tuple, k_isStr_dict, lRg1, lRg2, lLc2, iEm, lSeq, lOf, lRet, lRetO, lDis, lIf, lFn, sApp, lLc]
              exact hN3 _ _ ⟨rfl, _, _, rfl⟩
            · obtain ⟨f, hf, rfl⟩ := List.mem_map.mp he
              exact ⟨f, hfs f hf, rfl⟩
          · rintro e m acc g2 N2 _ ⟨⟨fs, rfl, hfs⟩, hal, hg2⟩ hN2
            simp only [sSeq, sIf, sSet, sOwn, sRet, sRetN, sNext, sDis, sSetIx, sApp, sAsg, sPar, sPar2O, sPar3, wB, wOp, wVar, wC, wNil, wCons, pNil, pCons, pPen, wTup, lLst, wL, wCall, wChain, Vl.wAnd, Vl.wOr, Vl.wNot, wAndV, wOrV, wNotV, wIf, wNeg, wIsN, wIsa, wFn, wSl, oNo, oPt, lList, wRevL, wIxO, wEqE, gN, gsNil, gsCons, gT, iL, iT, iR1, iR2, iZp, iEn, wYes, wipeV, endV, startV, e_fII, e_addI, e_addT, e_addL, e_intI, e_intB, e_mulT, e_mulL, e_lenL, e_lenT, e_tupL, e_tupT, e_eqI, e_neI, e_eqB, e_neB, e_eqS, e_neS, e_ix0T, e_ix1T, e_ix2T, e_ix3T, e_ix4T, e_ix0L, e_ix1L, e_ix2L, List.length_cons, List.length_nil, List.replicate, List.cons_append, List.nil_append, List.getElem?_cons_zero, List.getElem?_cons_succ, List.set_cons_zero, List.set_cons_succ, Nat.reduceAdd, Nat.reduceSub, List.replicate_succ, List.replicate_zero, true_and, if_true, if_false, Bool.false_eq_true, reduceIte, Int.toNat_natCast, fGt, fLtI, fLe, fGe, wFn, startV_one, isIntStr, isTupList, Bool.not_true, Bool.not_false, k_isInt_none, k_isInt_bool, k_isInt_int, k_isInt_str, k_isInt_list, k_isInt_tuple, k_isInt_dict, k_isBool_none, k_isBool_bool, k_isBool_int, k_isBool_str, k_isBool_list, k_isBool_tuple, k_isBool_dict, k_isTuple_none, k_isTuple_bool, k_isTuple_int, k_isTuple_str, k_isTuple_list, k_isTuple_tuple, k_isTuple_dict, k_isList_none, k_isList_bool, k_isList_int, k_isList_str, k_isList_list, k_isList_tuple, k_isList_dict, k_isStr_none, k_isStr_bool, k_isStr_int, k_isStr_str, k_isStr_list, k_isStr_tuple, k_isStr_dict, lRg1, lRg2, lLc2, iEm, lSeq, lOf, lRet, lRetO, lDis, lIf, lFn, sApp, lLc, List.map_cons, List.map_nil]
            refine ⟨_, rfl, ⟨by rw [List.length_map]; exact hpos, by rw [List.length_map]; omega⟩, by show g2 < 4000000000; omega, fun e he => ?_⟩
            obtain ⟨f, hf, rfl⟩ := List.mem_map.mp he
            exact hN2 _ _ ⟨⟨fs ++ [f], by rw [List.map_append]; rfl, fun x hx => by
              rcases List.mem_append.mp hx with hx | hx
              · exact hfs x hx
              · rw [List.mem_singleton.mp hx]; exact hf⟩, by rw [List.length_append, List.length_singleton]; omega, by omega⟩

    · exact ⟨fun _ _ _ _ _ _ _ h => h.elim, fun _ _ _ _ _ _ _ h => h.elim, fun _ _ _ _ _ _ _ h => h.elim, fun d g' v H' _ _ hd e => by
        have e' : d = .bool true := e
        subst e'
        cases hd
        exact q H'⟩

end
end Law
namespace Law
open PySem PySem.Spec PyProof.Rows L2 Vl
theorem all_mk {w : World} {K : PySem.W.Frag} {h : Heap} {mg : Str → Option Value} {fa : Addr} (X : K.In h) (G : h.Ns mainGlobals mg) (hfa : mg "law" = some (.ref fa))
    {fa_dvalue_passes : Addr} {od_dvalue_passes an_dvalue_passes : Option Addr} {sl_dvalue_passes : Array (Option Value)} {oc_dvalue_passes kV_dvalue_passes dc_dvalue_passes pm_dvalue_passes cd_dvalue_passes ct_dvalue_passes : Value}
    {fa_dpair_passes : Addr} {od_dpair_passes an_dpair_passes : Option Addr} {sl_dpair_passes : Array (Option Value)} {oc_dpair_passes kV_dpair_passes dc_dpair_passes pm_dpair_passes cd_dpair_passes ct_dpair_passes : Value}
    {fa_dchild_passes : Addr} {od_dchild_passes an_dchild_passes : Option Addr} {sl_dchild_passes : Array (Option Value)} {oc_dchild_passes kV_dchild_passes dc_dchild_passes pm_dchild_passes cd_dchild_passes ct_dchild_passes : Value}
    {fa_dafter_commit : Addr} {od_dafter_commit an_dafter_commit : Option Addr} {sl_dafter_commit : Array (Option Value)} {oc_dafter_commit kV_dafter_commit dc_dafter_commit pm_dafter_commit cd_dafter_commit ct_dafter_commit : Value}
    {fa_dis_sent : Addr} {od_dis_sent an_dis_sent : Option Addr} {sl_dis_sent : Array (Option Value)} {oc_dis_sent kV_dis_sent dc_dis_sent pm_dis_sent cd_dis_sent ct_dis_sent : Value}
    {fa_dtold_kinds : Addr} {od_dtold_kinds an_dtold_kinds : Option Addr} {sl_dtold_kinds : Array (Option Value)} {oc_dtold_kinds kV_dtold_kinds dc_dtold_kinds pm_dtold_kinds cd_dtold_kinds ct_dtold_kinds : Value}
    {fa_dtold_value : Addr} {od_dtold_value an_dtold_value : Option Addr} {sl_dtold_value : Array (Option Value)} {oc_dtold_value kV_dtold_value dc_dtold_value pm_dtold_value cd_dtold_value ct_dtold_value : Value}
    {fa_dentries_of : Addr} {od_dentries_of an_dentries_of : Option Addr} {sl_dentries_of : Array (Option Value)} {oc_dentries_of kV_dentries_of dc_dentries_of pm_dentries_of cd_dentries_of ct_dentries_of : Value}
    {fa_dmessage_of : Addr} {od_dmessage_of an_dmessage_of : Option Addr} {sl_dmessage_of : Array (Option Value)} {oc_dmessage_of kV_dmessage_of dc_dmessage_of pm_dmessage_of cd_dmessage_of ct_dmessage_of : Value}
    {fa_din_lanes : Addr} {od_din_lanes an_din_lanes : Option Addr} {sl_din_lanes : Array (Option Value)} {oc_din_lanes kV_din_lanes dc_din_lanes pm_din_lanes cd_din_lanes ct_din_lanes : Value}
    {fa_dmessages_of : Addr} {od_dmessages_of an_dmessages_of : Option Addr} {sl_dmessages_of : Array (Option Value)} {oc_dmessages_of kV_dmessages_of dc_dmessages_of pm_dmessages_of cd_dmessages_of ct_dmessages_of : Value}
    {fa_d_law_open : Addr} {od_d_law_open an_d_law_open : Option Addr} {sl_d_law_open : Array (Option Value)} {oc_d_law_open kV_d_law_open dc_d_law_open pm_d_law_open cd_d_law_open ct_d_law_open : Value}
    {fa_d_law_spread : Addr} {od_d_law_spread an_d_law_spread : Option Addr} {sl_d_law_spread : Array (Option Value)} {oc_d_law_spread kV_d_law_spread dc_d_law_spread pm_d_law_spread cd_d_law_spread ct_d_law_spread : Value}
    {fa_d_law_take : Addr} {od_d_law_take an_d_law_take : Option Addr} {sl_d_law_take : Array (Option Value)} {oc_d_law_take kV_d_law_take dc_d_law_take pm_d_law_take cd_d_law_take ct_d_law_take : Value}
    {fa_d_law_same : Addr} {od_d_law_same an_d_law_same : Option Addr} {sl_d_law_same : Array (Option Value)} {oc_d_law_same kV_d_law_same dc_d_law_same pm_d_law_same cd_d_law_same ct_d_law_same : Value}
    {fa_d_law_one_of : Addr} {od_d_law_one_of an_d_law_one_of : Option Addr} {sl_d_law_one_of : Array (Option Value)} {oc_d_law_one_of kV_d_law_one_of dc_d_law_one_of pm_d_law_one_of cd_d_law_one_of ct_d_law_one_of : Value}
    {fa_d_law_draw_test : Addr} {od_d_law_draw_test an_d_law_draw_test : Option Addr} {sl_d_law_draw_test : Array (Option Value)} {oc_d_law_draw_test kV_d_law_draw_test dc_d_law_draw_test pm_d_law_draw_test cd_d_law_draw_test ct_d_law_draw_test : Value}
    {fa_d_law_draw_case : Addr} {od_d_law_draw_case an_d_law_draw_case : Option Addr} {sl_d_law_draw_case : Array (Option Value)} {oc_d_law_draw_case kV_d_law_draw_case dc_d_law_draw_case pm_d_law_draw_case cd_d_law_draw_case ct_d_law_draw_case : Value}
    {fa_d_law_draw_plan : Addr} {od_d_law_draw_plan an_d_law_draw_plan : Option Addr} {sl_d_law_draw_plan : Array (Option Value)} {oc_d_law_draw_plan kV_d_law_draw_plan dc_d_law_draw_plan pm_d_law_draw_plan cd_d_law_draw_plan ct_d_law_draw_plan : Value}
    {fa_d_law_value_ok : Addr} {od_d_law_value_ok an_d_law_value_ok : Option Addr} {sl_d_law_value_ok : Array (Option Value)} {oc_d_law_value_ok kV_d_law_value_ok dc_d_law_value_ok pm_d_law_value_ok cd_d_law_value_ok ct_d_law_value_ok : Value}
    {fa_d_law_child_ok : Addr} {od_d_law_child_ok an_d_law_child_ok : Option Addr} {sl_d_law_child_ok : Array (Option Value)} {oc_d_law_child_ok kV_d_law_child_ok dc_d_law_child_ok pm_d_law_child_ok cd_d_law_child_ok ct_d_law_child_ok : Value}
    {fa_d_law_is_even : Addr} {od_d_law_is_even an_d_law_is_even : Option Addr} {sl_d_law_is_even : Array (Option Value)} {oc_d_law_is_even kV_d_law_is_even dc_d_law_is_even pm_d_law_is_even cd_d_law_is_even ct_d_law_is_even : Value}
    {fa_d_law_done : Addr} {od_d_law_done an_d_law_done : Option Addr} {sl_d_law_done : Array (Option Value)} {oc_d_law_done kV_d_law_done dc_d_law_done pm_d_law_done cd_d_law_done ct_d_law_done : Value}
    {fa_d_law_commits : Addr} {od_d_law_commits an_d_law_commits : Option Addr} {sl_d_law_commits : Array (Option Value)} {oc_d_law_commits kV_d_law_commits dc_d_law_commits pm_d_law_commits cd_d_law_commits ct_d_law_commits : Value}
    {fa_d_law_entries : Addr} {od_d_law_entries an_d_law_entries : Option Addr} {sl_d_law_entries : Array (Option Value)} {oc_d_law_entries kV_d_law_entries dc_d_law_entries pm_d_law_entries cd_d_law_entries ct_d_law_entries : Value}
    {fa_d_law_messages : Addr} {od_d_law_messages an_d_law_messages : Option Addr} {sl_d_law_messages : Array (Option Value)} {oc_d_law_messages kV_d_law_messages dc_d_law_messages pm_d_law_messages cd_d_law_messages ct_d_law_messages : Value}
    {fa_dlaw : Addr} {od_dlaw an_dlaw : Option Addr} {sl_dlaw : Array (Option Value)} {oc_dlaw kV_dlaw dc_dlaw pm_dlaw cd_dlaw ct_dlaw : Value}
    {tk_LANES : Tok}
    {tk_CHILDREN : Tok}
    {tk_PARENTS : Tok}
    {tk_TELLS_VALUE : Tok}
    {tk_TELLS_CHILDREN : Tok}
    {ca_LANE_WORDS : Addr} {co_LANE_WORDS : Option Addr} {cs_LANE_WORDS : Array (Option Value)} {ci_LANE_WORDS : Array Value} {cn_LANE_WORDS : Nat}
    (a_dvalue_passes : PySem.W.nsIn K mainGlobals "value_passes" = some (some (.ref fa_dvalue_passes)))
    (l_dvalue_passes : K.lookup fa_dvalue_passes = some ⟨oc_dvalue_passes, od_dvalue_passes, .func (PySem.W.fnOf "value_passes" "value_passes" (defArgs s_value_passes) (defBody s_value_passes) (defScope s_value_passes) .none kV_dvalue_passes dc_dvalue_passes pm_dvalue_passes an_dvalue_passes cd_dvalue_passes ct_dvalue_passes), sl_dvalue_passes⟩)
    (c_dvalue_passes : PySem.W.codeIn K cd_dvalue_passes "value_passes" = true)
    (p_dvalue_passes : PySem.W.keepIn K (.ref fa_dvalue_passes) = true)
    (a_dpair_passes : PySem.W.nsIn K mainGlobals "pair_passes" = some (some (.ref fa_dpair_passes)))
    (l_dpair_passes : K.lookup fa_dpair_passes = some ⟨oc_dpair_passes, od_dpair_passes, .func (PySem.W.fnOf "pair_passes" "pair_passes" (defArgs s_pair_passes) (defBody s_pair_passes) (defScope s_pair_passes) .none kV_dpair_passes dc_dpair_passes pm_dpair_passes an_dpair_passes cd_dpair_passes ct_dpair_passes), sl_dpair_passes⟩)
    (c_dpair_passes : PySem.W.codeIn K cd_dpair_passes "pair_passes" = true)
    (p_dpair_passes : PySem.W.keepIn K (.ref fa_dpair_passes) = true)
    (a_dchild_passes : PySem.W.nsIn K mainGlobals "child_passes" = some (some (.ref fa_dchild_passes)))
    (l_dchild_passes : K.lookup fa_dchild_passes = some ⟨oc_dchild_passes, od_dchild_passes, .func (PySem.W.fnOf "child_passes" "child_passes" (defArgs s_child_passes) (defBody s_child_passes) (defScope s_child_passes) .none kV_dchild_passes dc_dchild_passes pm_dchild_passes an_dchild_passes cd_dchild_passes ct_dchild_passes), sl_dchild_passes⟩)
    (c_dchild_passes : PySem.W.codeIn K cd_dchild_passes "child_passes" = true)
    (p_dchild_passes : PySem.W.keepIn K (.ref fa_dchild_passes) = true)
    (a_dafter_commit : PySem.W.nsIn K mainGlobals "after_commit" = some (some (.ref fa_dafter_commit)))
    (l_dafter_commit : K.lookup fa_dafter_commit = some ⟨oc_dafter_commit, od_dafter_commit, .func (PySem.W.fnOf "after_commit" "after_commit" (defArgs s_after_commit) (defBody s_after_commit) (defScope s_after_commit) .none kV_dafter_commit dc_dafter_commit pm_dafter_commit an_dafter_commit cd_dafter_commit ct_dafter_commit), sl_dafter_commit⟩)
    (c_dafter_commit : PySem.W.codeIn K cd_dafter_commit "after_commit" = true)
    (p_dafter_commit : PySem.W.keepIn K (.ref fa_dafter_commit) = true)
    (a_dis_sent : PySem.W.nsIn K mainGlobals "is_sent" = some (some (.ref fa_dis_sent)))
    (l_dis_sent : K.lookup fa_dis_sent = some ⟨oc_dis_sent, od_dis_sent, .func (PySem.W.fnOf "is_sent" "is_sent" (defArgs s_is_sent) (defBody s_is_sent) (defScope s_is_sent) .none kV_dis_sent dc_dis_sent pm_dis_sent an_dis_sent cd_dis_sent ct_dis_sent), sl_dis_sent⟩)
    (c_dis_sent : PySem.W.codeIn K cd_dis_sent "is_sent" = true)
    (p_dis_sent : PySem.W.keepIn K (.ref fa_dis_sent) = true)
    (a_dtold_kinds : PySem.W.nsIn K mainGlobals "told_kinds" = some (some (.ref fa_dtold_kinds)))
    (l_dtold_kinds : K.lookup fa_dtold_kinds = some ⟨oc_dtold_kinds, od_dtold_kinds, .func (PySem.W.fnOf "told_kinds" "told_kinds" (defArgs s_told_kinds) (defBody s_told_kinds) (defScope s_told_kinds) .none kV_dtold_kinds dc_dtold_kinds pm_dtold_kinds an_dtold_kinds cd_dtold_kinds ct_dtold_kinds), sl_dtold_kinds⟩)
    (c_dtold_kinds : PySem.W.codeIn K cd_dtold_kinds "told_kinds" = true)
    (p_dtold_kinds : PySem.W.keepIn K (.ref fa_dtold_kinds) = true)
    (a_dtold_value : PySem.W.nsIn K mainGlobals "told_value" = some (some (.ref fa_dtold_value)))
    (l_dtold_value : K.lookup fa_dtold_value = some ⟨oc_dtold_value, od_dtold_value, .func (PySem.W.fnOf "told_value" "told_value" (defArgs s_told_value) (defBody s_told_value) (defScope s_told_value) .none kV_dtold_value dc_dtold_value pm_dtold_value an_dtold_value cd_dtold_value ct_dtold_value), sl_dtold_value⟩)
    (c_dtold_value : PySem.W.codeIn K cd_dtold_value "told_value" = true)
    (p_dtold_value : PySem.W.keepIn K (.ref fa_dtold_value) = true)
    (a_dentries_of : PySem.W.nsIn K mainGlobals "entries_of" = some (some (.ref fa_dentries_of)))
    (l_dentries_of : K.lookup fa_dentries_of = some ⟨oc_dentries_of, od_dentries_of, .func (PySem.W.fnOf "entries_of" "entries_of" (defArgs s_entries_of) (defBody s_entries_of) (defScope s_entries_of) .none kV_dentries_of dc_dentries_of pm_dentries_of an_dentries_of cd_dentries_of ct_dentries_of), sl_dentries_of⟩)
    (c_dentries_of : PySem.W.codeIn K cd_dentries_of "entries_of" = true)
    (p_dentries_of : PySem.W.keepIn K (.ref fa_dentries_of) = true)
    (a_dmessage_of : PySem.W.nsIn K mainGlobals "message_of" = some (some (.ref fa_dmessage_of)))
    (l_dmessage_of : K.lookup fa_dmessage_of = some ⟨oc_dmessage_of, od_dmessage_of, .func (PySem.W.fnOf "message_of" "message_of" (defArgs s_message_of) (defBody s_message_of) (defScope s_message_of) .none kV_dmessage_of dc_dmessage_of pm_dmessage_of an_dmessage_of cd_dmessage_of ct_dmessage_of), sl_dmessage_of⟩)
    (c_dmessage_of : PySem.W.codeIn K cd_dmessage_of "message_of" = true)
    (p_dmessage_of : PySem.W.keepIn K (.ref fa_dmessage_of) = true)
    (a_din_lanes : PySem.W.nsIn K mainGlobals "in_lanes" = some (some (.ref fa_din_lanes)))
    (l_din_lanes : K.lookup fa_din_lanes = some ⟨oc_din_lanes, od_din_lanes, .func (PySem.W.fnOf "in_lanes" "in_lanes" (defArgs s_in_lanes) (defBody s_in_lanes) (defScope s_in_lanes) .none kV_din_lanes dc_din_lanes pm_din_lanes an_din_lanes cd_din_lanes ct_din_lanes), sl_din_lanes⟩)
    (c_din_lanes : PySem.W.codeIn K cd_din_lanes "in_lanes" = true)
    (p_din_lanes : PySem.W.keepIn K (.ref fa_din_lanes) = true)
    (a_dmessages_of : PySem.W.nsIn K mainGlobals "messages_of" = some (some (.ref fa_dmessages_of)))
    (l_dmessages_of : K.lookup fa_dmessages_of = some ⟨oc_dmessages_of, od_dmessages_of, .func (PySem.W.fnOf "messages_of" "messages_of" (defArgs s_messages_of) (defBody s_messages_of) (defScope s_messages_of) .none kV_dmessages_of dc_dmessages_of pm_dmessages_of an_dmessages_of cd_dmessages_of ct_dmessages_of), sl_dmessages_of⟩)
    (c_dmessages_of : PySem.W.codeIn K cd_dmessages_of "messages_of" = true)
    (p_dmessages_of : PySem.W.keepIn K (.ref fa_dmessages_of) = true)
    (a_d_law_open : PySem.W.nsIn K mainGlobals "_law_open" = some (some (.ref fa_d_law_open)))
    (l_d_law_open : K.lookup fa_d_law_open = some ⟨oc_d_law_open, od_d_law_open, .func (PySem.W.fnOf "_law_open" "_law_open" (defArgs s__law_open) (defBody s__law_open) (defScope s__law_open) .none kV_d_law_open dc_d_law_open pm_d_law_open an_d_law_open cd_d_law_open ct_d_law_open), sl_d_law_open⟩)
    (c_d_law_open : PySem.W.codeIn K cd_d_law_open "_law_open" = true)
    (p_d_law_open : PySem.W.keepIn K (.ref fa_d_law_open) = true)
    (a_d_law_spread : PySem.W.nsIn K mainGlobals "_law_spread" = some (some (.ref fa_d_law_spread)))
    (l_d_law_spread : K.lookup fa_d_law_spread = some ⟨oc_d_law_spread, od_d_law_spread, .func (PySem.W.fnOf "_law_spread" "_law_spread" (defArgs s__law_spread) (defBody s__law_spread) (defScope s__law_spread) .none kV_d_law_spread dc_d_law_spread pm_d_law_spread an_d_law_spread cd_d_law_spread ct_d_law_spread), sl_d_law_spread⟩)
    (c_d_law_spread : PySem.W.codeIn K cd_d_law_spread "_law_spread" = true)
    (p_d_law_spread : PySem.W.keepIn K (.ref fa_d_law_spread) = true)
    (a_d_law_take : PySem.W.nsIn K mainGlobals "_law_take" = some (some (.ref fa_d_law_take)))
    (l_d_law_take : K.lookup fa_d_law_take = some ⟨oc_d_law_take, od_d_law_take, .func (PySem.W.fnOf "_law_take" "_law_take" (defArgs s__law_take) (defBody s__law_take) (defScope s__law_take) .none kV_d_law_take dc_d_law_take pm_d_law_take an_d_law_take cd_d_law_take ct_d_law_take), sl_d_law_take⟩)
    (c_d_law_take : PySem.W.codeIn K cd_d_law_take "_law_take" = true)
    (p_d_law_take : PySem.W.keepIn K (.ref fa_d_law_take) = true)
    (a_d_law_same : PySem.W.nsIn K mainGlobals "_law_same" = some (some (.ref fa_d_law_same)))
    (l_d_law_same : K.lookup fa_d_law_same = some ⟨oc_d_law_same, od_d_law_same, .func (PySem.W.fnOf "_law_same" "_law_same" (defArgs s__law_same) (defBody s__law_same) (defScope s__law_same) .none kV_d_law_same dc_d_law_same pm_d_law_same an_d_law_same cd_d_law_same ct_d_law_same), sl_d_law_same⟩)
    (c_d_law_same : PySem.W.codeIn K cd_d_law_same "_law_same" = true)
    (p_d_law_same : PySem.W.keepIn K (.ref fa_d_law_same) = true)
    (a_d_law_one_of : PySem.W.nsIn K mainGlobals "_law_one_of" = some (some (.ref fa_d_law_one_of)))
    (l_d_law_one_of : K.lookup fa_d_law_one_of = some ⟨oc_d_law_one_of, od_d_law_one_of, .func (PySem.W.fnOf "_law_one_of" "_law_one_of" (defArgs s__law_one_of) (defBody s__law_one_of) (defScope s__law_one_of) .none kV_d_law_one_of dc_d_law_one_of pm_d_law_one_of an_d_law_one_of cd_d_law_one_of ct_d_law_one_of), sl_d_law_one_of⟩)
    (c_d_law_one_of : PySem.W.codeIn K cd_d_law_one_of "_law_one_of" = true)
    (p_d_law_one_of : PySem.W.keepIn K (.ref fa_d_law_one_of) = true)
    (a_d_law_draw_test : PySem.W.nsIn K mainGlobals "_law_draw_test" = some (some (.ref fa_d_law_draw_test)))
    (l_d_law_draw_test : K.lookup fa_d_law_draw_test = some ⟨oc_d_law_draw_test, od_d_law_draw_test, .func (PySem.W.fnOf "_law_draw_test" "_law_draw_test" (defArgs s__law_draw_test) (defBody s__law_draw_test) (defScope s__law_draw_test) .none kV_d_law_draw_test dc_d_law_draw_test pm_d_law_draw_test an_d_law_draw_test cd_d_law_draw_test ct_d_law_draw_test), sl_d_law_draw_test⟩)
    (c_d_law_draw_test : PySem.W.codeIn K cd_d_law_draw_test "_law_draw_test" = true)
    (p_d_law_draw_test : PySem.W.keepIn K (.ref fa_d_law_draw_test) = true)
    (a_d_law_draw_case : PySem.W.nsIn K mainGlobals "_law_draw_case" = some (some (.ref fa_d_law_draw_case)))
    (l_d_law_draw_case : K.lookup fa_d_law_draw_case = some ⟨oc_d_law_draw_case, od_d_law_draw_case, .func (PySem.W.fnOf "_law_draw_case" "_law_draw_case" (defArgs s__law_draw_case) (defBody s__law_draw_case) (defScope s__law_draw_case) .none kV_d_law_draw_case dc_d_law_draw_case pm_d_law_draw_case an_d_law_draw_case cd_d_law_draw_case ct_d_law_draw_case), sl_d_law_draw_case⟩)
    (c_d_law_draw_case : PySem.W.codeIn K cd_d_law_draw_case "_law_draw_case" = true)
    (p_d_law_draw_case : PySem.W.keepIn K (.ref fa_d_law_draw_case) = true)
    (a_d_law_draw_plan : PySem.W.nsIn K mainGlobals "_law_draw_plan" = some (some (.ref fa_d_law_draw_plan)))
    (l_d_law_draw_plan : K.lookup fa_d_law_draw_plan = some ⟨oc_d_law_draw_plan, od_d_law_draw_plan, .func (PySem.W.fnOf "_law_draw_plan" "_law_draw_plan" (defArgs s__law_draw_plan) (defBody s__law_draw_plan) (defScope s__law_draw_plan) .none kV_d_law_draw_plan dc_d_law_draw_plan pm_d_law_draw_plan an_d_law_draw_plan cd_d_law_draw_plan ct_d_law_draw_plan), sl_d_law_draw_plan⟩)
    (c_d_law_draw_plan : PySem.W.codeIn K cd_d_law_draw_plan "_law_draw_plan" = true)
    (p_d_law_draw_plan : PySem.W.keepIn K (.ref fa_d_law_draw_plan) = true)
    (a_d_law_value_ok : PySem.W.nsIn K mainGlobals "_law_value_ok" = some (some (.ref fa_d_law_value_ok)))
    (l_d_law_value_ok : K.lookup fa_d_law_value_ok = some ⟨oc_d_law_value_ok, od_d_law_value_ok, .func (PySem.W.fnOf "_law_value_ok" "_law_value_ok" (defArgs s__law_value_ok) (defBody s__law_value_ok) (defScope s__law_value_ok) .none kV_d_law_value_ok dc_d_law_value_ok pm_d_law_value_ok an_d_law_value_ok cd_d_law_value_ok ct_d_law_value_ok), sl_d_law_value_ok⟩)
    (c_d_law_value_ok : PySem.W.codeIn K cd_d_law_value_ok "_law_value_ok" = true)
    (p_d_law_value_ok : PySem.W.keepIn K (.ref fa_d_law_value_ok) = true)
    (a_d_law_child_ok : PySem.W.nsIn K mainGlobals "_law_child_ok" = some (some (.ref fa_d_law_child_ok)))
    (l_d_law_child_ok : K.lookup fa_d_law_child_ok = some ⟨oc_d_law_child_ok, od_d_law_child_ok, .func (PySem.W.fnOf "_law_child_ok" "_law_child_ok" (defArgs s__law_child_ok) (defBody s__law_child_ok) (defScope s__law_child_ok) .none kV_d_law_child_ok dc_d_law_child_ok pm_d_law_child_ok an_d_law_child_ok cd_d_law_child_ok ct_d_law_child_ok), sl_d_law_child_ok⟩)
    (c_d_law_child_ok : PySem.W.codeIn K cd_d_law_child_ok "_law_child_ok" = true)
    (p_d_law_child_ok : PySem.W.keepIn K (.ref fa_d_law_child_ok) = true)
    (a_d_law_is_even : PySem.W.nsIn K mainGlobals "_law_is_even" = some (some (.ref fa_d_law_is_even)))
    (l_d_law_is_even : K.lookup fa_d_law_is_even = some ⟨oc_d_law_is_even, od_d_law_is_even, .func (PySem.W.fnOf "_law_is_even" "_law_is_even" (defArgs s__law_is_even) (defBody s__law_is_even) (defScope s__law_is_even) .none kV_d_law_is_even dc_d_law_is_even pm_d_law_is_even an_d_law_is_even cd_d_law_is_even ct_d_law_is_even), sl_d_law_is_even⟩)
    (c_d_law_is_even : PySem.W.codeIn K cd_d_law_is_even "_law_is_even" = true)
    (p_d_law_is_even : PySem.W.keepIn K (.ref fa_d_law_is_even) = true)
    (a_d_law_done : PySem.W.nsIn K mainGlobals "_law_done" = some (some (.ref fa_d_law_done)))
    (l_d_law_done : K.lookup fa_d_law_done = some ⟨oc_d_law_done, od_d_law_done, .func (PySem.W.fnOf "_law_done" "_law_done" (defArgs s__law_done) (defBody s__law_done) (defScope s__law_done) .none kV_d_law_done dc_d_law_done pm_d_law_done an_d_law_done cd_d_law_done ct_d_law_done), sl_d_law_done⟩)
    (c_d_law_done : PySem.W.codeIn K cd_d_law_done "_law_done" = true)
    (p_d_law_done : PySem.W.keepIn K (.ref fa_d_law_done) = true)
    (a_d_law_commits : PySem.W.nsIn K mainGlobals "_law_commits" = some (some (.ref fa_d_law_commits)))
    (l_d_law_commits : K.lookup fa_d_law_commits = some ⟨oc_d_law_commits, od_d_law_commits, .func (PySem.W.fnOf "_law_commits" "_law_commits" (defArgs s__law_commits) (defBody s__law_commits) (defScope s__law_commits) .none kV_d_law_commits dc_d_law_commits pm_d_law_commits an_d_law_commits cd_d_law_commits ct_d_law_commits), sl_d_law_commits⟩)
    (c_d_law_commits : PySem.W.codeIn K cd_d_law_commits "_law_commits" = true)
    (p_d_law_commits : PySem.W.keepIn K (.ref fa_d_law_commits) = true)
    (a_d_law_entries : PySem.W.nsIn K mainGlobals "_law_entries" = some (some (.ref fa_d_law_entries)))
    (l_d_law_entries : K.lookup fa_d_law_entries = some ⟨oc_d_law_entries, od_d_law_entries, .func (PySem.W.fnOf "_law_entries" "_law_entries" (defArgs s__law_entries) (defBody s__law_entries) (defScope s__law_entries) .none kV_d_law_entries dc_d_law_entries pm_d_law_entries an_d_law_entries cd_d_law_entries ct_d_law_entries), sl_d_law_entries⟩)
    (c_d_law_entries : PySem.W.codeIn K cd_d_law_entries "_law_entries" = true)
    (p_d_law_entries : PySem.W.keepIn K (.ref fa_d_law_entries) = true)
    (a_d_law_messages : PySem.W.nsIn K mainGlobals "_law_messages" = some (some (.ref fa_d_law_messages)))
    (l_d_law_messages : K.lookup fa_d_law_messages = some ⟨oc_d_law_messages, od_d_law_messages, .func (PySem.W.fnOf "_law_messages" "_law_messages" (defArgs s__law_messages) (defBody s__law_messages) (defScope s__law_messages) .none kV_d_law_messages dc_d_law_messages pm_d_law_messages an_d_law_messages cd_d_law_messages ct_d_law_messages), sl_d_law_messages⟩)
    (c_d_law_messages : PySem.W.codeIn K cd_d_law_messages "_law_messages" = true)
    (p_d_law_messages : PySem.W.keepIn K (.ref fa_d_law_messages) = true)
    (a_dlaw : PySem.W.nsIn K mainGlobals "law" = some (some (.ref fa_dlaw)))
    (l_dlaw : K.lookup fa_dlaw = some ⟨oc_dlaw, od_dlaw, .func (PySem.W.fnOf "law" "law" (defArgs s_law) (defBody s_law) (defScope s_law) .none kV_dlaw dc_dlaw pm_dlaw an_dlaw cd_dlaw ct_dlaw), sl_dlaw⟩)
    (c_dlaw : PySem.W.codeIn K cd_dlaw "law" = true)
    (p_dlaw : PySem.W.keepIn K (.ref fa_dlaw) = true)
    (b_len : PySem.W.nsIn K mainGlobals "len" = some none)
    (b_int : PySem.W.nsIn K mainGlobals "int" = some none)
    (b_tuple : PySem.W.nsIn K mainGlobals "tuple" = some none)
    (b_list : PySem.W.nsIn K mainGlobals "list" = some none)
    (b_repr : PySem.W.nsIn K mainGlobals "repr" = some none)
    (b_isinstance : PySem.W.nsIn K mainGlobals "isinstance" = some none)
    (b_range : PySem.W.nsIn K mainGlobals "range" = some none)
    (b_zip : PySem.W.nsIn K mainGlobals "zip" = some none)
    (b_enumerate : PySem.W.nsIn K mainGlobals "enumerate" = some none)
    (b_any : PySem.W.nsIn K mainGlobals "any" = some none)
    (b_all : PySem.W.nsIn K mainGlobals "all" = some none)
    (b_sorted : PySem.W.nsIn K mainGlobals "sorted" = some none)
    (b_set : PySem.W.nsIn K mainGlobals "set" = some none)
    (b_bool : PySem.W.nsIn K mainGlobals "bool" = some none)
    (b_str : PySem.W.nsIn K mainGlobals "str" = some none)
    (g_LANES : PySem.W.nsIn K mainGlobals "LANES" = some (some (.int (0) tk_LANES)))
    (g_CHILDREN : PySem.W.nsIn K mainGlobals "CHILDREN" = some (some (.int (2) tk_CHILDREN)))
    (g_PARENTS : PySem.W.nsIn K mainGlobals "PARENTS" = some (some (.int (3) tk_PARENTS)))
    (g_TELLS_VALUE : PySem.W.nsIn K mainGlobals "TELLS_VALUE" = some (some (.int (4) tk_TELLS_VALUE)))
    (g_TELLS_CHILDREN : PySem.W.nsIn K mainGlobals "TELLS_CHILDREN" = some (some (.int (5) tk_TELLS_CHILDREN)))
    (g_LANE_WORDS : PySem.W.nsIn K mainGlobals "LANE_WORDS" = some (some (.ref ca_LANE_WORDS)))
    (h_LANE_WORDS : K.lookup ca_LANE_WORDS = some ⟨.type "tuple", co_LANE_WORDS, .seq ci_LANE_WORDS cn_LANE_WORDS, cs_LANE_WORDS⟩)
    (s_LANE_WORDS : Cs ci_LANE_WORDS.toList [.str "parent", .str "child"])
    (z_LANE_WORDS : ci_LANE_WORDS.size ≤ sizeLine)
    : ∃ fd : FuncData, (∀ (s : Shared) (v : Value), BindsTo s fd ⟨[v], []⟩ [("script", v)]) ∧ ∀ base : Heap, K.In base → base.Ns mainGlobals mg → SysD base → FnG PySem.Challenge.pw_somerows_k05_messages_told w K mg base 9 fa fd ["script"] (spLaw K) := by
  have e := hfa.symm.trans (PySem.W.mg_of X G a_dlaw)
  cases e
  have F_value_passes := fun_mk (st := s_value_passes) l_dvalue_passes c_dvalue_passes p_dvalue_passes
  have D_value_passes : Df K mg "value_passes" s_value_passes ["case", "value"] := ⟨fa_dvalue_passes, _, F_value_passes, F_value_passes.binds (ps := ["case", "value"]) fun _ _ _ _ _ _ us hl => match us, hl with | [_, _], _ => rfl, PySem.W.mg_of X G a_dvalue_passes⟩
  have F_pair_passes := fun_mk (st := s_pair_passes) l_dpair_passes c_dpair_passes p_dpair_passes
  have D_pair_passes : Df K mg "pair_passes" s_pair_passes ["case", "kind", "value"] := ⟨fa_dpair_passes, _, F_pair_passes, F_pair_passes.binds (ps := ["case", "kind", "value"]) fun _ _ _ _ _ _ us hl => match us, hl with | [_, _, _], _ => rfl, PySem.W.mg_of X G a_dpair_passes⟩
  have F_child_passes := fun_mk (st := s_child_passes) l_dchild_passes c_dchild_passes p_dchild_passes
  have D_child_passes : Df K mg "child_passes" s_child_passes ["case", "source"] := ⟨fa_dchild_passes, _, F_child_passes, F_child_passes.binds (ps := ["case", "source"]) fun _ _ _ _ _ _ us hl => match us, hl with | [_, _], _ => rfl, PySem.W.mg_of X G a_dchild_passes⟩
  have F_after_commit := fun_mk (st := s_after_commit) l_dafter_commit c_dafter_commit p_dafter_commit
  have D_after_commit : Df K mg "after_commit" s_after_commit ["source", "commit"] := ⟨fa_dafter_commit, _, F_after_commit, F_after_commit.binds (ps := ["source", "commit"]) fun _ _ _ _ _ _ us hl => match us, hl with | [_, _], _ => rfl, PySem.W.mg_of X G a_dafter_commit⟩
  have F_is_sent := fun_mk (st := s_is_sent) l_dis_sent c_dis_sent p_dis_sent
  have D_is_sent : Df K mg "is_sent" s_is_sent ["sending", "passed", "passes"] := ⟨fa_dis_sent, _, F_is_sent, F_is_sent.binds (ps := ["sending", "passed", "passes"]) fun _ _ _ _ _ _ us hl => match us, hl with | [_, _, _], _ => rfl, PySem.W.mg_of X G a_dis_sent⟩
  have F_told_kinds := fun_mk (st := s_told_kinds) l_dtold_kinds c_dtold_kinds p_dtold_kinds
  have D_told_kinds : Df K mg "told_kinds" s_told_kinds ["plan", "later", "p"] := ⟨fa_dtold_kinds, _, F_told_kinds, F_told_kinds.binds (ps := ["plan", "later", "p"]) fun _ _ _ _ _ _ us hl => match us, hl with | [_, _, _], _ => rfl, PySem.W.mg_of X G a_dtold_kinds⟩
  have F_told_value := fun_mk (st := s_told_value) l_dtold_value c_dtold_value p_dtold_value
  have D_told_value : Df K mg "told_value" s_told_value ["plan", "later", "state"] := ⟨fa_dtold_value, _, F_told_value, F_told_value.binds (ps := ["plan", "later", "state"]) fun _ _ _ _ _ _ us hl => match us, hl with | [_, _, _], _ => rfl, PySem.W.mg_of X G a_dtold_value⟩
  have F_entries_of := fun_mk (st := s_entries_of) l_dentries_of c_dentries_of p_dentries_of
  have D_entries_of : Df K mg "entries_of" s_entries_of ["case", "plan", "source", "later", "change"] := ⟨fa_dentries_of, _, F_entries_of, F_entries_of.binds (ps := ["case", "plan", "source", "later", "change"]) fun _ _ _ _ _ _ us hl => match us, hl with | [_, _, _, _, _], _ => rfl, PySem.W.mg_of X G a_dentries_of⟩
  have F_message_of := fun_mk (st := s_message_of) l_dmessage_of c_dmessage_of p_dmessage_of
  have D_message_of : Df K mg "message_of" s_message_of ["changed", "word"] := ⟨fa_dmessage_of, _, F_message_of, F_message_of.binds (ps := ["changed", "word"]) fun _ _ _ _ _ _ us hl => match us, hl with | [_, _], _ => rfl, PySem.W.mg_of X G a_dmessage_of⟩
  have F_in_lanes := fun_mk (st := s_in_lanes) l_din_lanes c_din_lanes p_din_lanes
  have D_in_lanes : Df K mg "in_lanes" s_in_lanes ["plan", "changed"] := ⟨fa_din_lanes, _, F_in_lanes, F_in_lanes.binds (ps := ["plan", "changed"]) fun _ _ _ _ _ _ us hl => match us, hl with | [_, _], _ => rfl, PySem.W.mg_of X G a_din_lanes⟩
  have F_messages_of := fun_mk (st := s_messages_of) l_dmessages_of c_dmessages_of p_dmessages_of
  have D_messages_of : Df K mg "messages_of" s_messages_of ["case", "plan", "source", "commit"] := ⟨fa_dmessages_of, _, F_messages_of, F_messages_of.binds (ps := ["case", "plan", "source", "commit"]) fun _ _ _ _ _ _ us hl => match us, hl with | [_, _, _, _], _ => rfl, PySem.W.mg_of X G a_dmessages_of⟩
  have F__law_open := fun_mk (st := s__law_open) l_d_law_open c_d_law_open p_d_law_open
  have D__law_open : Df K mg "_law_open" s__law_open ["script"] := ⟨fa_d_law_open, _, F__law_open, F__law_open.binds (ps := ["script"]) fun _ _ _ _ _ _ us hl => match us, hl with | [_], _ => rfl, PySem.W.mg_of X G a_d_law_open⟩
  have F__law_spread := fun_mk (st := s__law_spread) l_d_law_spread c_d_law_spread p_d_law_spread
  have D__law_spread : Df K mg "_law_spread" s__law_spread ["cell", "at"] := ⟨fa_d_law_spread, _, F__law_spread, F__law_spread.binds (ps := ["cell", "at"]) fun _ _ _ _ _ _ us hl => match us, hl with | [_, _], _ => rfl, PySem.W.mg_of X G a_d_law_spread⟩
  have F__law_take := fun_mk (st := s__law_take) l_d_law_take c_d_law_take p_d_law_take
  have D__law_take : Df K mg "_law_take" s__law_take ["pen", "amount"] := ⟨fa_d_law_take, _, F__law_take, F__law_take.binds (ps := ["pen", "amount"]) fun _ _ _ _ _ _ us hl => match us, hl with | [_, _], _ => rfl, PySem.W.mg_of X G a_d_law_take⟩
  have F__law_same := fun_mk (st := s__law_same) l_d_law_same c_d_law_same p_d_law_same
  have D__law_same : Df K mg "_law_same" s__law_same ["found", "due"] := ⟨fa_d_law_same, _, F__law_same, F__law_same.binds (ps := ["found", "due"]) fun _ _ _ _ _ _ us hl => match us, hl with | [_, _], _ => rfl, PySem.W.mg_of X G a_d_law_same⟩
  have F__law_one_of := fun_mk (st := s__law_one_of) l_d_law_one_of c_d_law_one_of p_d_law_one_of
  have D__law_one_of : Df K mg "_law_one_of" s__law_one_of ["pen", "some"] := ⟨fa_d_law_one_of, _, F__law_one_of, F__law_one_of.binds (ps := ["pen", "some"]) fun _ _ _ _ _ _ us hl => match us, hl with | [_, _], _ => rfl, PySem.W.mg_of X G a_d_law_one_of⟩
  have F__law_draw_test := fun_mk (st := s__law_draw_test) l_d_law_draw_test c_d_law_draw_test p_d_law_draw_test
  have D__law_draw_test : Df K mg "_law_draw_test" s__law_draw_test ["pen", "values", "kinds"] := ⟨fa_d_law_draw_test, _, F__law_draw_test, F__law_draw_test.binds (ps := ["pen", "values", "kinds"]) fun _ _ _ _ _ _ us hl => match us, hl with | [_, _, _], _ => rfl, PySem.W.mg_of X G a_d_law_draw_test⟩
  have F__law_draw_case := fun_mk (st := s__law_draw_case) l_d_law_draw_case c_d_law_draw_case p_d_law_draw_case
  have D__law_draw_case : Df K mg "_law_draw_case" s__law_draw_case ["pen", "shapes"] := ⟨fa_d_law_draw_case, _, F__law_draw_case, F__law_draw_case.binds (ps := ["pen", "shapes"]) fun _ _ _ _ _ _ us hl => match us, hl with | [_, _], _ => rfl, PySem.W.mg_of X G a_d_law_draw_case⟩
  have F__law_draw_plan := fun_mk (st := s__law_draw_plan) l_d_law_draw_plan c_d_law_draw_plan p_d_law_draw_plan
  have D__law_draw_plan : Df K mg "_law_draw_plan" s__law_draw_plan ["pen", "late"] := ⟨fa_d_law_draw_plan, _, F__law_draw_plan, F__law_draw_plan.binds (ps := ["pen", "late"]) fun _ _ _ _ _ _ us hl => match us, hl with | [_, _], _ => rfl, PySem.W.mg_of X G a_d_law_draw_plan⟩
  have F__law_value_ok := fun_mk (st := s__law_value_ok) l_d_law_value_ok c_d_law_value_ok p_d_law_value_ok
  have D__law_value_ok : Df K mg "_law_value_ok" s__law_value_ok ["case", "value"] := ⟨fa_d_law_value_ok, _, F__law_value_ok, F__law_value_ok.binds (ps := ["case", "value"]) fun _ _ _ _ _ _ us hl => match us, hl with | [_, _], _ => rfl, PySem.W.mg_of X G a_d_law_value_ok⟩
  have F__law_child_ok := fun_mk (st := s__law_child_ok) l_d_law_child_ok c_d_law_child_ok p_d_law_child_ok
  have D__law_child_ok : Df K mg "_law_child_ok" s__law_child_ok ["case", "parents", "child"] := ⟨fa_d_law_child_ok, _, F__law_child_ok, F__law_child_ok.binds (ps := ["case", "parents", "child"]) fun _ _ _ _ _ _ us hl => match us, hl with | [_, _, _], _ => rfl, PySem.W.mg_of X G a_d_law_child_ok⟩
  have F__law_is_even := fun_mk (st := s__law_is_even) l_d_law_is_even c_d_law_is_even p_d_law_is_even
  have D__law_is_even : Df K mg "_law_is_even" s__law_is_even ["source"] := ⟨fa_d_law_is_even, _, F__law_is_even, F__law_is_even.binds (ps := ["source"]) fun _ _ _ _ _ _ us hl => match us, hl with | [_], _ => rfl, PySem.W.mg_of X G a_d_law_is_even⟩
  have F__law_done := fun_mk (st := s__law_done) l_d_law_done c_d_law_done p_d_law_done
  have D__law_done : Df K mg "_law_done" s__law_done ["source", "commit"] := ⟨fa_d_law_done, _, F__law_done, F__law_done.binds (ps := ["source", "commit"]) fun _ _ _ _ _ _ us hl => match us, hl with | [_, _], _ => rfl, PySem.W.mg_of X G a_d_law_done⟩
  have F__law_commits := fun_mk (st := s__law_commits) l_d_law_commits c_d_law_commits p_d_law_commits
  have D__law_commits : Df K mg "_law_commits" s__law_commits ["case", "source"] := ⟨fa_d_law_commits, _, F__law_commits, F__law_commits.binds (ps := ["case", "source"]) fun _ _ _ _ _ _ us hl => match us, hl with | [_, _], _ => rfl, PySem.W.mg_of X G a_d_law_commits⟩
  have F__law_entries := fun_mk (st := s__law_entries) l_d_law_entries c_d_law_entries p_d_law_entries
  have D__law_entries : Df K mg "_law_entries" s__law_entries ["case", "plan", "source", "commit"] := ⟨fa_d_law_entries, _, F__law_entries, F__law_entries.binds (ps := ["case", "plan", "source", "commit"]) fun _ _ _ _ _ _ us hl => match us, hl with | [_, _, _, _], _ => rfl, PySem.W.mg_of X G a_d_law_entries⟩
  have F__law_messages := fun_mk (st := s__law_messages) l_d_law_messages c_d_law_messages p_d_law_messages
  have D__law_messages : Df K mg "_law_messages" s__law_messages ["case", "plan", "source", "commit"] := ⟨fa_d_law_messages, _, F__law_messages, F__law_messages.binds (ps := ["case", "plan", "source", "commit"]) fun _ _ _ _ _ _ us hl => match us, hl with | [_, _, _, _], _ => rfl, PySem.W.mg_of X G a_d_law_messages⟩
  have F_law := fun_mk (st := s_law) l_dlaw c_dlaw p_dlaw
  have B : Bi mg := ⟨PySem.W.mg_none_of X G b_len, PySem.W.mg_none_of X G b_int, PySem.W.mg_none_of X G b_tuple, PySem.W.mg_none_of X G b_list, PySem.W.mg_none_of X G b_repr, PySem.W.mg_none_of X G b_isinstance, PySem.W.mg_none_of X G b_range, PySem.W.mg_none_of X G b_zip, PySem.W.mg_none_of X G b_enumerate, PySem.W.mg_none_of X G b_any, PySem.W.mg_none_of X G b_all, PySem.W.mg_none_of X G b_sorted, PySem.W.mg_none_of X G b_set, PySem.W.mg_none_of X G b_bool, PySem.W.mg_none_of X G b_str⟩
  refine ⟨PySem.W.fnOf "law" "law" (defArgs s_law) (defBody s_law) (defScope s_law) .none kV_dlaw dc_dlaw pm_dlaw an_dlaw cd_dlaw ct_dlaw, fun s v => .of_eq rfl, fun base KB GB SB => ?_⟩
  have GC : Gs K mg := ⟨gc_int X G g_LANES, gc_int X G g_CHILDREN, gc_int X G g_PARENTS, gc_int X G g_TELLS_VALUE, gc_int X G g_TELLS_CHILDREN, gc_tup X G g_LANE_WORDS h_LANE_WORDS s_LANE_WORDS z_LANE_WORDS⟩
  have C__law_spread := ok_spread (P := PySem.Challenge.pw_somerows_k05_messages_told) (w := w) (base := base) B D__law_spread
  have C__law_take := ok_take B C__law_spread D__law_take
  have C__law_one_of := ok_one_of B C__law_take D__law_one_of
  have C__law_draw_test := ok__law_draw_test (P := PySem.Challenge.pw_somerows_k05_messages_told) (w := w) (base := base) B C__law_take D__law_draw_test
  have C__law_draw_case := ok__law_draw_case (P := PySem.Challenge.pw_somerows_k05_messages_told) (w := w) (base := base) B C__law_take C__law_one_of C__law_draw_test D__law_draw_case
  have C__law_draw_plan := ok__law_draw_plan (P := PySem.Challenge.pw_somerows_k05_messages_told) (w := w) (base := base) B C__law_take C__law_one_of D__law_draw_plan
  have C__law_same := ok_same (P := PySem.Challenge.pw_somerows_k05_messages_told) (w := w) (base := base) B D__law_same 4
  have C_after_commit := ok_after_commit (P := PySem.Challenge.pw_somerows_k05_messages_told) (w := w) (base := base) B  D_after_commit
  have C_value_passes := ok_value_passes (P := PySem.Challenge.pw_somerows_k05_messages_told) (w := w) (base := base) B  D_value_passes
  have C_pair_passes := ok_pair_passes (P := PySem.Challenge.pw_somerows_k05_messages_told) (w := w) (base := base) B  D_pair_passes
  have C_child_passes := ok_child_passes (P := PySem.Challenge.pw_somerows_k05_messages_told) (w := w) (base := base) B C_pair_passes D_child_passes
  have C__law_value_ok := ok__law_value_ok (P := PySem.Challenge.pw_somerows_k05_messages_told) (w := w) (base := base) B  D__law_value_ok
  have C__law_child_ok := ok__law_child_ok (P := PySem.Challenge.pw_somerows_k05_messages_told) (w := w) (base := base) B  D__law_child_ok
  have C_is_sent := ok_is_sent (P := PySem.Challenge.pw_somerows_k05_messages_told) (w := w) (base := base) B  D_is_sent
  have C_told_kinds := ok_told_kinds (P := PySem.Challenge.pw_somerows_k05_messages_told) (w := w) (base := base) B GC  D_told_kinds
  have C_told_value := ok_told_value (P := PySem.Challenge.pw_somerows_k05_messages_told) (w := w) (base := base) B GC  D_told_value
  have C_entries_of := ok_entries_of (P := PySem.Challenge.pw_somerows_k05_messages_told) (w := w) (base := base) B GC C_is_sent C_told_kinds C_told_value C_value_passes C_child_passes D_entries_of
  have C_message_of := ok_message_of (P := PySem.Challenge.pw_somerows_k05_messages_told) (w := w) (base := base) B  D_message_of
  have C_in_lanes := ok_in_lanes (P := PySem.Challenge.pw_somerows_k05_messages_told) (w := w) (base := base) B GC C_message_of D_in_lanes
  have C_messages_of := ok_messages_of (P := PySem.Challenge.pw_somerows_k05_messages_told) (w := w) (base := base) B C_after_commit C_entries_of C_in_lanes D_messages_of
  have C__law_is_even := ok__law_is_even (P := PySem.Challenge.pw_somerows_k05_messages_told) (w := w) (base := base) B  D__law_is_even
  have C__law_done := ok__law_done (P := PySem.Challenge.pw_somerows_k05_messages_told) (w := w) (base := base) B  D__law_done
  have C__law_commits := ok__law_commits (P := PySem.Challenge.pw_somerows_k05_messages_told) (w := w) (base := base) B C__law_is_even C__law_done D__law_commits
  have C__law_entries := ok__law_entries (P := PySem.Challenge.pw_somerows_k05_messages_told) (w := w) (base := base) B C__law_done C__law_child_ok C__law_value_ok D__law_entries
  have C__law_messages := ok__law_messages (P := PySem.Challenge.pw_somerows_k05_messages_told) (w := w) (base := base) B C__law_entries D__law_messages
  exact ok_law B SB F_law (ok_open B D__law_open) C__law_draw_case C__law_draw_plan C__law_commits C__law_one_of C_messages_of C__law_messages C__law_same C__law_done
end Law
open PySem PySem.W PyProof.Rows in
set_option maxHeartbeats 0 in
local macro_rules | `(tactic| o_head (kHook $a $b $c)) => `(tactic| o_head (Vl.hookS (kHook $a $b $c)))
open PySem PySem.W PyProof.Rows in
set_option maxRecDepth 100000 in
set_option maxHeartbeats 0 in
theorem PySem.Challenge.cw_somerows_k05_messages_told_holds : PySem.Challenge.rw_somerows_k05_messages_told.Holds := by
  w_on; o_law; k_head; (case hw => w_witness2)
  k_fill
  refine Vl.walk_g (l := PySem.Challenge.rw_somerows_k05_messages_told) (n := 63) (k := 9) (x := "script") (sp := Law.spLaw) rfl (by decide) rfl ⟨rfl, by decide, by decide⟩ (fun w h Y => ⟨PySem.W.kIn_of Y.1, Y.2⟩) ?F (fun K H a ns h1 h2 h3 => ⟨a, ns, rfl, h3, h1, fun _ => rfl⟩)
  case F =>
    intro w mg fa h KX G hmg
    refine' Law.all_mk KX G hmg ?a_dvalue_passes ?l_dvalue_passes ?c_dvalue_passes ?p_dvalue_passes ?a_dpair_passes ?l_dpair_passes ?c_dpair_passes ?p_dpair_passes ?a_dchild_passes ?l_dchild_passes ?c_dchild_passes ?p_dchild_passes ?a_dafter_commit ?l_dafter_commit ?c_dafter_commit ?p_dafter_commit ?a_dis_sent ?l_dis_sent ?c_dis_sent ?p_dis_sent ?a_dtold_kinds ?l_dtold_kinds ?c_dtold_kinds ?p_dtold_kinds ?a_dtold_value ?l_dtold_value ?c_dtold_value ?p_dtold_value ?a_dentries_of ?l_dentries_of ?c_dentries_of ?p_dentries_of ?a_dmessage_of ?l_dmessage_of ?c_dmessage_of ?p_dmessage_of ?a_din_lanes ?l_din_lanes ?c_din_lanes ?p_din_lanes ?a_dmessages_of ?l_dmessages_of ?c_dmessages_of ?p_dmessages_of ?a_d_law_open ?l_d_law_open ?c_d_law_open ?p_d_law_open ?a_d_law_spread ?l_d_law_spread ?c_d_law_spread ?p_d_law_spread ?a_d_law_take ?l_d_law_take ?c_d_law_take ?p_d_law_take ?a_d_law_same ?l_d_law_same ?c_d_law_same ?p_d_law_same ?a_d_law_one_of ?l_d_law_one_of ?c_d_law_one_of ?p_d_law_one_of ?a_d_law_draw_test ?l_d_law_draw_test ?c_d_law_draw_test ?p_d_law_draw_test ?a_d_law_draw_case ?l_d_law_draw_case ?c_d_law_draw_case ?p_d_law_draw_case ?a_d_law_draw_plan ?l_d_law_draw_plan ?c_d_law_draw_plan ?p_d_law_draw_plan ?a_d_law_value_ok ?l_d_law_value_ok ?c_d_law_value_ok ?p_d_law_value_ok ?a_d_law_child_ok ?l_d_law_child_ok ?c_d_law_child_ok ?p_d_law_child_ok ?a_d_law_is_even ?l_d_law_is_even ?c_d_law_is_even ?p_d_law_is_even ?a_d_law_done ?l_d_law_done ?c_d_law_done ?p_d_law_done ?a_d_law_commits ?l_d_law_commits ?c_d_law_commits ?p_d_law_commits ?a_d_law_entries ?l_d_law_entries ?c_d_law_entries ?p_d_law_entries ?a_d_law_messages ?l_d_law_messages ?c_d_law_messages ?p_d_law_messages ?a_dlaw ?l_dlaw ?c_dlaw ?p_dlaw ?b_len ?b_int ?b_tuple ?b_list ?b_repr ?b_isinstance ?b_range ?b_zip ?b_enumerate ?b_any ?b_all ?b_sorted ?b_set ?b_bool ?b_str ?g_LANES ?g_CHILDREN ?g_PARENTS ?g_TELLS_VALUE ?g_TELLS_CHILDREN ?g_LANE_WORDS ?h_LANE_WORDS ?s_LANE_WORDS ?z_LANE_WORDS

    (case a_dvalue_passes => k_is)
    (case l_dvalue_passes => k_is)
    (case c_dvalue_passes => k_is)
    (case p_dvalue_passes => k_is)
    (case a_dpair_passes => k_is)
    (case l_dpair_passes => k_is)
    (case c_dpair_passes => k_is)
    (case p_dpair_passes => k_is)
    (case a_dchild_passes => k_is)
    (case l_dchild_passes => k_is)
    (case c_dchild_passes => k_is)
    (case p_dchild_passes => k_is)
    (case a_dafter_commit => k_is)
    (case l_dafter_commit => k_is)
    (case c_dafter_commit => k_is)
    (case p_dafter_commit => k_is)
    (case a_dis_sent => k_is)
    (case l_dis_sent => k_is)
    (case c_dis_sent => k_is)
    (case p_dis_sent => k_is)
    (case a_dtold_kinds => k_is)
    (case l_dtold_kinds => k_is)
    (case c_dtold_kinds => k_is)
    (case p_dtold_kinds => k_is)
    (case a_dtold_value => k_is)
    (case l_dtold_value => k_is)
    (case c_dtold_value => k_is)
    (case p_dtold_value => k_is)
    (case a_dentries_of => k_is)
    (case l_dentries_of => k_is)
    (case c_dentries_of => k_is)
    (case p_dentries_of => k_is)
    (case a_dmessage_of => k_is)
    (case l_dmessage_of => k_is)
    (case c_dmessage_of => k_is)
    (case p_dmessage_of => k_is)
    (case a_din_lanes => k_is)
    (case l_din_lanes => k_is)
    (case c_din_lanes => k_is)
    (case p_din_lanes => k_is)
    (case a_dmessages_of => k_is)
    (case l_dmessages_of => k_is)
    (case c_dmessages_of => k_is)
    (case p_dmessages_of => k_is)
    (case a_d_law_open => k_is)
    (case l_d_law_open => k_is)
    (case c_d_law_open => k_is)
    (case p_d_law_open => k_is)
    (case a_d_law_spread => k_is)
    (case l_d_law_spread => k_is)
    (case c_d_law_spread => k_is)
    (case p_d_law_spread => k_is)
    (case a_d_law_take => k_is)
    (case l_d_law_take => k_is)
    (case c_d_law_take => k_is)
    (case p_d_law_take => k_is)
    (case a_d_law_same => k_is)
    (case l_d_law_same => k_is)
    (case c_d_law_same => k_is)
    (case p_d_law_same => k_is)
    (case a_d_law_one_of => k_is)
    (case l_d_law_one_of => k_is)
    (case c_d_law_one_of => k_is)
    (case p_d_law_one_of => k_is)
    (case a_d_law_draw_test => k_is)
    (case l_d_law_draw_test => k_is)
    (case c_d_law_draw_test => k_is)
    (case p_d_law_draw_test => k_is)
    (case a_d_law_draw_case => k_is)
    (case l_d_law_draw_case => k_is)
    (case c_d_law_draw_case => k_is)
    (case p_d_law_draw_case => k_is)
    (case a_d_law_draw_plan => k_is)
    (case l_d_law_draw_plan => k_is)
    (case c_d_law_draw_plan => k_is)
    (case p_d_law_draw_plan => k_is)
    (case a_d_law_value_ok => k_is)
    (case l_d_law_value_ok => k_is)
    (case c_d_law_value_ok => k_is)
    (case p_d_law_value_ok => k_is)
    (case a_d_law_child_ok => k_is)
    (case l_d_law_child_ok => k_is)
    (case c_d_law_child_ok => k_is)
    (case p_d_law_child_ok => k_is)
    (case a_d_law_is_even => k_is)
    (case l_d_law_is_even => k_is)
    (case c_d_law_is_even => k_is)
    (case p_d_law_is_even => k_is)
    (case a_d_law_done => k_is)
    (case l_d_law_done => k_is)
    (case c_d_law_done => k_is)
    (case p_d_law_done => k_is)
    (case a_d_law_commits => k_is)
    (case l_d_law_commits => k_is)
    (case c_d_law_commits => k_is)
    (case p_d_law_commits => k_is)
    (case a_d_law_entries => k_is)
    (case l_d_law_entries => k_is)
    (case c_d_law_entries => k_is)
    (case p_d_law_entries => k_is)
    (case a_d_law_messages => k_is)
    (case l_d_law_messages => k_is)
    (case c_d_law_messages => k_is)
    (case p_d_law_messages => k_is)
    (case a_dlaw => k_is)
    (case l_dlaw => k_is)
    (case c_dlaw => k_is)
    (case p_dlaw => k_is)
    (case b_len => k_is)
    (case b_int => k_is)
    (case b_tuple => k_is)
    (case b_list => k_is)
    (case b_repr => k_is)
    (case b_isinstance => k_is)
    (case b_range => k_is)
    (case b_zip => k_is)
    (case b_enumerate => k_is)
    (case b_any => k_is)
    (case b_all => k_is)
    (case b_sorted => k_is)
    (case b_set => k_is)
    (case b_bool => k_is)
    (case b_str => k_is)
    (case g_LANES => k_is)
    (case g_CHILDREN => k_is)
    (case g_PARENTS => k_is)
    (case g_TELLS_VALUE => k_is)
    (case g_TELLS_CHILDREN => k_is)
    (case g_LANE_WORDS => k_is)
    (case h_LANE_WORDS => k_is)
    (case s_LANE_WORDS => exact (.str (.str .nil)))
    (case z_LANE_WORDS => decide)
