import PyProof.Rows.All
import Wide.All
import OpenK.AllK
import Wide.FinOn
import PySem.Challenge.RW_tosstrees_k03_whole_figures_of_numbers
import HandS.ForMost
import HandS.ForExc
import HandS.IsInst
import HandS.AnyAll
import HandS.Wide
import HandS.TupAny
import HandS.Flow
import HandS.Deep
import HandS.Gcd
import HandS.More
import HandS.Words
import HandS.Defaults
import HandS.Style
import HandS.Dict
import HandS.WideBits
import HandS.Conv
import HandS.TupMul
import HandS.GenList
import PyProof.TupleOfGen
import HandS.EndTab
import KE.KNest
import PyProof.SumWalkG
import PyProof.ReprRoads
import KE.KTupSum
import KE.KRevSl
import HandS.Zip
import HandS.Star
import KE.GoesEnum
import KE.KMathGC
set_option Elab.async false
set_option linter.all false
/-! #### VA -/
section
set_option maxRecDepth 100000
set_option maxHeartbeats 2000000
/-! values instead of heaps: data, frames of data, what is laid -/
namespace VL
open PySem PySem.Spec PyProof.Rows L2

abbrev D := PyData
abbrev Fg := PySem.W.Frag
/-- a slot of a frame, by values: nothing known, data that stays, a list of the frame's own (io: the caller's), a dict of the frame's own -/
inductive Cell where
  | un | dat (d : D) | lst (io : Bool) (ds : List D) | dic (kvs : List (Key × D))
abbrev En := List Cell
/-- the arguments, and where the tables of code stand -/
abbrev As := List (Option V) × List Addr
def own : Cell → Bool
  | .lst _ _ => true
  | .dic _ => true
  | _ => false
def isTbl : HO → Bool
  | .tbl _ => true
  | _ => false
abbrev TabG := GxR.TabG

/-- a key as data -/
def keyD : Key → D
  | .inl i => .int i
  | .inr x => .str x
mutual
/-- v is the data d, by what stands in H -/
inductive Dq (K : Fg) (H : Hp) : V → D → Prop
  | non : Dq K H .non .none
  | bl (b : Bool) : Dq K H (.bl b) (.bool b)
  | int (i : Int) : Dq K H (.int i) (.int i)
  | str (x : Str) : Dq K H (.str x) (.str x)
  | lst {a : Addr} {xs : List V} {ds : List D} : SqL K H a xs → DqAll K H xs ds → Dq K H (.ref a) (.list ds)
  | tup {a : Addr} {xs : List V} {ds : List D} : SqT K H a xs → DqAll K H xs ds → Dq K H (.ref a) (.tuple ds)
  | dct {a : Addr} {vs : List (Key × V)} {ds : List (D × D)} : Rd H a (.dK vs) → DqPs K H vs ds → Dq K H (.ref a) (.dict ds)
inductive DqPs (K : Fg) (H : Hp) : List (Key × V) → List (D × D) → Prop
  | nil : DqPs K H [] []
  | cons {k : Key} {v : V} {d : D} {r : List (Key × V)} {s : List (D × D)} : Dq K H v d → DqPs K H r s → DqPs K H ((k, v) :: r) ((keyD k, d) :: s)
inductive DqAll (K : Fg) (H : Hp) : List V → List D → Prop
  | nil : DqAll K H [] []
  | cons {v : V} {vs : List V} {d : D} {ds : List D} : Dq K H v d → DqAll K H vs ds → DqAll K H (v :: vs) (d :: ds)
end
mutual
theorem Dq.dp {K : Fg} {H : Hp} : ∀ {v : V} {d : D}, Dq K H v d → d.canLay0 = true → L2.Dp K H v d
  | _, _, .non, _ => .non
  | _, _, .bl b, _ => .bl b
  | _, _, .int i, _ => .int i
  | _, _, .str x, _ => .str x
  | _, _, .lst h r, c => .lst h (DqAll.dp r (by simpa [PyData.canLay0] using c))
  | _, _, .tup h r, c => .tup h (DqAll.dp r (by simpa [PyData.canLay0] using c))
  | _, _, .dct _ _, c => by simp [PyData.canLay0] at c
theorem DqAll.dp {K : Fg} {H : Hp} : ∀ {xs : List V} {ds : List D}, DqAll K H xs ds → PyData.canLayAll0 ds = true → L2.DpAll K H xs ds
  | _, _, .nil, _ => .nil
  | _, _, .cons h r, c => by
    rw [PyData.canLayAll0, Bool.and_eq_true] at c
    exact .cons (Dq.dp h c.1) (DqAll.dp r c.2)
end

/-! ### extensions -/
structure ExT (B B' : Hp) : Prop where
  keep : ∀ a o, B a = some o → isTbl o = false → B' a = some o
  tabs : ∀ P, TabG B P → TabG B' P
theorem ExT.refl (B : Hp) : ExT B B := ⟨fun _ _ h _ => h, fun _ h => h⟩
theorem ExT.trans {B B1 B2 : Hp} (a : ExT B B1) (b : ExT B1 B2) : ExT B B2 := ⟨fun x o h t => b.keep x o (a.keep x o h t) t, fun P h => b.tabs P (a.tabs P h)⟩
theorem ExT.of {B B' : Hp} (h : ∀ a o, B a = some o → B' a = some o) : ExT B B' := ⟨fun a o e _ => h a o e, fun P ⟨ps, e, t⟩ => ⟨ps, h P _ e, t⟩⟩
theorem ExT.new {B : Hp} {p : Addr} {o : HO} (h : B p = none) : ExT B (upd B p o) := .of fun a u e => by rw [upd_ne (ne_of_none e h)]; exact e

section
variable {K : Fg} {B B' H H' : Hp}
theorem rd_ext (e : ExT B B') {a : Addr} {o : HO} (t : isTbl o = false) (h : Rd B a o) : Rd B' a o := by
  rcases h with h | ⟨u, h⟩
  · exact .inl (e.keep _ _ h t)
  · exact .inr ⟨u, e.keep _ _ h rfl⟩
theorem sqL_ext (e : ExT B B') {a : Addr} {xs : List V} (h : SqL K B a xs) : SqL K B' a xs := h.imp (rd_ext e rfl) id
theorem sqT_ext (e : ExT B B') {a : Addr} {xs : List V} (h : SqT K B a xs) : SqT K B' a xs := by
  rcases h with (h | ⟨o, h⟩) | h
  · exact .inl (.inl (e.keep _ _ h rfl))
  · exact .inl (.inr ⟨o, e.keep _ _ h rfl⟩)
  · exact .inr h
mutual
theorem Dq.ext (e : ExT B B') : ∀ {v : V} {d : D}, Dq K B v d → Dq K B' v d
  | _, _, .non => .non
  | _, _, .bl b => .bl b
  | _, _, .int i => .int i
  | _, _, .str x => .str x
  | _, _, .lst h r => .lst (sqL_ext e h) (DqAll.ext e r)
  | _, _, .tup h r => .tup (sqT_ext e h) (DqAll.ext e r)
  | _, _, .dct h r => .dct (rd_ext e rfl h) (DqPs.ext e r)
theorem DqPs.ext (e : ExT B B') : ∀ {xs : List (Key × V)} {ds : List (D × D)}, DqPs K B xs ds → DqPs K B' xs ds
  | _, _, .nil => .nil
  | _, _, .cons h r => .cons (Dq.ext e h) (DqPs.ext e r)
theorem DqAll.ext (e : ExT B B') : ∀ {xs : List V} {ds : List D}, DqAll K B xs ds → DqAll K B' xs ds
  | _, _, .nil => .nil
  | _, _, .cons h r => .cons (Dq.ext e h) (DqAll.ext e r)
end
theorem DqAll.len : ∀ {xs : List V} {ds : List D}, DqAll K B xs ds → xs.length = ds.length
  | _, _, .nil => rfl
  | _, _, .cons _ r => congrArg (· + 1) (DqAll.len r)
theorem DqAll.get : ∀ {xs : List V} {ds : List D} {i : Nat} {d : D}, DqAll K B xs ds → ds[i]? = some d → ∃ x, xs[i]? = some x ∧ Dq K B x d
  | _, _, _, _, .nil, h => by simp at h
  | _, _, 0, _, .cons h _, e => by
    simp at e
    subst e
    exact ⟨_, rfl, h⟩
  | _, _, i + 1, _, .cons _ r, e => by
    obtain ⟨x, h1, h2⟩ := DqAll.get (i := i) r (by simpa using e)
    exact ⟨x, by simpa using h1, h2⟩
theorem DqAll.getV : ∀ {xs : List V} {ds : List D} {i : Nat} {x : V}, DqAll K B xs ds → xs[i]? = some x → ∃ d, ds[i]? = some d ∧ Dq K B x d
  | _, _, _, _, .nil, h => by simp at h
  | _, _, 0, _, .cons h _, e => by
    simp at e
    subst e
    exact ⟨_, rfl, h⟩
  | _, _, i + 1, _, .cons _ r, e => by
    obtain ⟨x, h1, h2⟩ := DqAll.getV (i := i) r (by simpa using e)
    exact ⟨x, by simpa using h1, h2⟩
theorem DqAll.app : ∀ {xs ys : List V} {ds es : List D}, DqAll K B xs ds → DqAll K B ys es → DqAll K B (xs ++ ys) (ds ++ es)
  | _, _, _, _, .nil, s => s
  | _, _, _, _, .cons h r, s => .cons h (DqAll.app r s)
theorem DqAll.take : ∀ {xs : List V} {ds : List D} (n : Nat), DqAll K B xs ds → DqAll K B (xs.take n) (ds.take n)
  | _, _, 0, _ => by simp; exact .nil
  | _, _, _ + 1, .nil => .nil
  | _, _, n + 1, .cons h r => .cons h (DqAll.take n r)
theorem DqAll.drop : ∀ {xs : List V} {ds : List D} (n : Nat), DqAll K B xs ds → DqAll K B (xs.drop n) (ds.drop n)
  | _, _, 0, r => r
  | _, _, _ + 1, .nil => .nil
  | _, _, n + 1, .cons _ r => DqAll.drop n r
theorem DqAll.set : ∀ {xs : List V} {ds : List D} {x : V} {d : D} (n : Nat), DqAll K B xs ds → Dq K B x d → DqAll K B (xs.set n x) (ds.set n d)
  | _, _, _, _, _, .nil, _ => .nil
  | _, _, _, _, 0, .cons _ r, h => .cons h r
  | _, _, _, _, n + 1, .cons h r, q => .cons h (DqAll.set n r q)
theorem DqAll.rev : ∀ {xs : List V} {ds : List D}, DqAll K B xs ds → DqAll K B xs.reverse ds.reverse
  | _, _, .nil => .nil
  | _, _, .cons h r => by
    rw [List.reverse_cons, List.reverse_cons]
    exact DqAll.app (DqAll.rev r) (.cons h .nil)
theorem dqAll_ints : ∀ (ns : List Int), DqAll K B (ns.map V.int) (ns.map PyData.int)
  | [] => .nil
  | n :: r => .cons (.int n) (dqAll_ints r)
theorem DqAll.ints : ∀ {xs : List V} {ns : List Int}, DqAll K B xs (ns.map PyData.int) → xs = ns.map V.int
  | _, [], .nil => rfl
  | _, n :: r, .cons h t => by
    cases h
    rw [DqAll.ints t]
    rfl
end
end VL

end

/-! #### VB -/
section
set_option autoImplicit false
set_option maxRecDepth 100000
set_option maxHeartbeats 2000000
/-! frames by values -/
namespace VL
open PySem PySem.Spec PyProof.Rows L2

inductive DqKV (K : Fg) (B : Hp) : List (Key × V) → List (Key × D) → Prop
  | nil : DqKV K B [] []
  | cons {k : Key} {v : V} {d : D} {r : List (Key × V)} {s : List (Key × D)} : Dq K B v d → DqKV K B r s → DqKV K B ((k, v) :: r) ((k, d) :: s)
theorem DqKV.ext {K : Fg} {B B' : Hp} (e : ExT B B') : ∀ {vs : List (Key × V)} {ds : List (Key × D)}, DqKV K B vs ds → DqKV K B' vs ds
  | _, _, .nil => .nil
  | _, _, .cons h r => .cons (Dq.ext e h) (DqKV.ext e r)
/-- what an own cell's object holds -/
def OwnAt (K : Fg) (B H : Hp) (p : Addr) : Cell → Prop
  | .lst _ ds => ∃ xs, H p = some (.lst xs) ∧ DqAll K B xs ds
  | .dic kvs => ∃ vs, H p = some (.dK vs) ∧ DqKV K B vs kvs
  | _ => False
theorem OwnAt.some {K : Fg} {B H : Hp} {p : Addr} : ∀ {c : Cell}, OwnAt K B H p c → ∃ o, H p = some o ∧ isTbl o = false ∧ Mut (some o)
  | .lst _ _, ⟨_, h, _⟩ => ⟨_, h, rfl, True.intro⟩
  | .dic _, ⟨_, h, _⟩ => ⟨_, h, rfl, True.intro⟩
theorem OwnAt.ext {K : Fg} {B B' H H' : Hp} {p : Addr} (e : ExT B B') (h : H' p = H p) : ∀ {c : Cell}, OwnAt K B H p c → OwnAt K B' H' p c
  | .lst _ _, ⟨xs, q, r⟩ => ⟨xs, h.trans q, DqAll.ext e r⟩
  | .dic _, ⟨vs, q, r⟩ => ⟨vs, h.trans q, DqKV.ext e r⟩
/-- a is the object of an own cell -/
def Ow (ρ : En) (σ : L2.St) (a : Addr) : Prop := ∃ (i : Nat) (c : Cell), ρ[i]? = some c ∧ own c = true ∧ σ[i]? = some (some (V.ref a))
structure Sv (K : Fg) (as : As) (Z : Hp) (ρ : En) (σ : L2.St) (B H : Hp) : Prop where
  len : ρ.length = σ.length
  dat : ∀ (i : Nat) (d : D), ρ[i]? = some (Cell.dat d) → ∃ v, σ[i]? = some (some v) ∧ Dq K B v d
  own : ∀ (i : Nat) (c : Cell), ρ[i]? = some c → own c = true → ∃ p, σ[i]? = some (some (V.ref p)) ∧ B p = none ∧ OwnAt K B H p c
  one : ∀ (i j : Nat) (ci cj : Cell) (p : Addr), ρ[i]? = some ci → ρ[j]? = some cj → VL.own ci = true → VL.own cj = true → σ[i]? = some (some (V.ref p)) → σ[j]? = some (some (V.ref p)) → i = j
  off : ∀ a, ¬ Ow ρ σ a → Z a = none → H a = B a
  hid : ∀ a o, Z a = some o → H a = some o ∧ B a = none ∧ ¬ Ow ρ σ a ∧ ((∃ xs, o = .lst xs) ∨ ∃ kvs, o = .dK kvs)
  io : ∀ (i : Nat) (ds : List D), ρ[i]? = some (Cell.lst true ds) → σ[i]? = as.1[i]?
  tab : ∀ P ∈ as.2, TabG B P
section
variable {K : Fg} {as : As} {Z : Hp} {ρ : En} {σ : L2.St} {B H : Hp}
theorem Sv.ow (S : Sv K as Z ρ σ B H) {a : Addr} (h : Ow ρ σ a) : B a = none ∧ ∃ o, H a = some o ∧ isTbl o = false ∧ Mut (some o) := by
  obtain ⟨i, c, h1, h2, h3⟩ := h
  obtain ⟨p, q1, q2, q3⟩ := S.own i c h1 h2
  rw [h3] at q1
  cases q1
  exact ⟨q2, q3.some⟩
theorem Sv.sub (S : Sv K as Z ρ σ B H) {a : Addr} {o : HO} (h : B a = some o) : H a = some o := by
  by_cases w : Ow ρ σ a
  · rw [(S.ow w).1] at h
    cases h
  · cases z : Z a with
    | none => rw [S.off a w z, h]
    | some u =>
      rw [(S.hid a u z).2.1] at h
      cases h
theorem Sv.ext (S : Sv K as Z ρ σ B H) : ExT B H := .of fun _ _ h => S.sub h
theorem Sv.free (S : Sv K as Z ρ σ B H) {p : Addr} (h : H p = none) : B p = none := by
  cases e : B p with
  | none => rfl
  | some o =>
    rw [S.sub e] at h
    cases h
theorem Sv.nOw (S : Sv K as Z ρ σ B H) {p : Addr} (h : H p = none) : ¬ Ow ρ σ p := fun w => by
  obtain ⟨_, o, e, _⟩ := S.ow w
  rw [h] at e
  cases e
theorem Sv.nZ (S : Sv K as Z ρ σ B H) {p : Addr} (h : H p = none) : Z p = none := by
  cases e : Z p with
  | none => rfl
  | some o =>
    rw [(S.hid p o e).1] at h
    cases h
/-- the stable part grows, the own objects stand -/
theorem Sv.grow {B' H' : Hp} (S : Sv K as Z ρ σ B H) (e : ExT B B') (hn : ∀ a, Ow ρ σ a ∨ Z a ≠ none → B' a = none ∧ H' a = H a) (ho : ∀ a, ¬ Ow ρ σ a → Z a = none → H' a = B' a) : Sv K as Z ρ σ B' H' where
  len := S.len
  dat := fun i d h => by
    obtain ⟨v, h1, h2⟩ := S.dat i d h
    exact ⟨v, h1, Dq.ext e h2⟩
  own := fun i c h hc => by
    obtain ⟨p, h1, h2, h3⟩ := S.own i c h hc
    obtain ⟨w1, w2⟩ := hn p (.inl ⟨i, c, h, hc, h1⟩)
    exact ⟨p, h1, w1, h3.ext e w2⟩
  one := S.one
  off := ho
  hid := fun a o h => by
    obtain ⟨h1, h2, h3, h4⟩ := S.hid a o h
    obtain ⟨w1, w2⟩ := hn a (.inr (by rw [h]; exact fun z => by cases z))
    exact ⟨w2.trans h1, w1, h3, h4⟩
  io := S.io
  tab := fun P h => e.tabs P (S.tab P h)
/-- a new object that stays -/
theorem Sv.al (S : Sv K as Z ρ σ B H) {p : Addr} {o : HO} (h : H p = none) : Sv K as Z ρ σ (upd B p o) (upd H p o) :=
  S.grow (.new (S.free h)) (fun a w => by
    have ne : a ≠ p := fun z => w.elim (fun w => S.nOw h (z ▸ w)) fun w => w (z ▸ S.nZ h)
    rw [upd_ne ne, upd_ne ne]
    refine ⟨?_, rfl⟩
    rcases w with w | w
    · exact (S.ow w).1
    · cases e : Z a with
      | none => exact (w e).elim
      | some o => exact (S.hid a o e).2.1) fun a w wz => by
    by_cases z : a = p
    · rw [z, upd_same, upd_same]
    · rw [upd_ne z, upd_ne z]
      exact S.off a w wz
theorem env_set {ρ : En} {i j : Nat} {c c' : Cell} (h : (ρ.set i c)[j]? = some c') : (i = j ∧ c' = c ∧ i < ρ.length) ∨ (i ≠ j ∧ ρ[j]? = some c') := by
  by_cases e : i = j
  · subst e
    rw [List.getElem?_set] at h
    simp at h
    exact .inl ⟨rfl, h.2.symm, h.1⟩
  · rw [List.getElem?_set_ne e] at h
    exact .inr ⟨e, h⟩
theorem st_set {σ : L2.St} {i j : Nat} {v : Option V} (e : i ≠ j) : (σ.set i v)[j]? = σ[j]? := List.getElem?_set_ne e
theorem st_set_same {σ : L2.St} {i : Nat} {v : Option V} (h : i < σ.length) : (σ.set i v)[i]? = some v := by simp [h]
theorem cell_of {ρ : En} {i : Nat} (h : i < ρ.length) : ∃ c, ρ[i]? = some c := ⟨_, List.getElem?_eq_getElem h⟩
/-- slot i's own object (if any) is let stay, the slot forgotten -/
theorem Sv.drop (S : Sv K as Z ρ σ B H) (i : Nat) : ∃ B', ExT B B' ∧ Sv K as Z (ρ.set i .un) σ B' H ∧ ∀ c, ρ[i]? = some c → VL.own c = true → ∀ p, σ[i]? = some (some (V.ref p)) → B' = fun a => if a = p then H a else B a := by
  by_cases hw : ∃ c, ρ[i]? = some c ∧ VL.own c = true
  · obtain ⟨c, h1, h2⟩ := hw
    obtain ⟨p, q1, q2, q3⟩ := S.own i c h1 h2
    obtain ⟨o, e1, e2, e3⟩ := q3.some
    have ex : ExT B (fun a => if a = p then H a else B a) := .of fun a u h => by
      show (if a = p then H a else B a) = some u
      by_cases z : a = p
      · rw [z, q2] at h
        cases h
      · rw [if_neg z, h]
    have key : ∀ (j : Nat) (c' : Cell), (ρ.set i .un)[j]? = some c' → VL.own c' = true → i ≠ j ∧ ρ[j]? = some c' := fun j c' h hc => by
      rcases env_set h with ⟨_, z, _⟩ | z
      · rw [z] at hc
        cases hc
      · exact z
    refine ⟨_, ex, ⟨by rw [List.length_set]; exact S.len, fun j d h => ?_, fun j c' h hc => ?_, fun j k cj ck r hj hk oj ok ej ek => ?_, fun a w wz => ?_, fun a o hz => ?_, fun j ds h => ?_, fun P h => ex.tabs P (S.tab P h)⟩, fun c' h hc p' hp => ?_⟩
    · rcases env_set h with ⟨_, z, _⟩ | ⟨_, z⟩
      · cases z
      · obtain ⟨v, a1, a2⟩ := S.dat j d z
        exact ⟨v, a1, Dq.ext ex a2⟩
    · obtain ⟨ne, z⟩ := key j c' h hc
      obtain ⟨r, a1, a2, a3⟩ := S.own j c' z hc
      have rp : r ≠ p := fun y => ne (S.one i j c c' p h1 z h2 hc q1 (by rw [← y]; exact a1))
      refine ⟨r, a1, ?_, a3.ext ex rfl⟩
      show (if r = p then H r else B r) = none
      rw [if_neg rp]
      exact a2
    · obtain ⟨_, z1⟩ := key j cj hj oj
      obtain ⟨_, z2⟩ := key k ck hk ok
      exact S.one j k cj ck r z1 z2 oj ok ej ek
    · show H a = if a = p then H a else B a
      by_cases z : a = p
      · rw [if_pos z]
      · rw [if_neg z]
        refine S.off a (fun ⟨j, c', y1, y2, y3⟩ => w ⟨j, c', ?_, y2, y3⟩) wz
        have ne : i ≠ j := fun y => by
          rw [← y, q1] at y3
          cases y3
          exact z rfl
        rw [List.getElem?_set_ne ne]
        exact y1
    · obtain ⟨h3, h4, h5, h6⟩ := S.hid a o hz
      refine ⟨h3, ?_, fun ⟨j, c', y1, y2, y3⟩ => h5 ⟨j, c', (key j c' y1 y2).2, y2, y3⟩, h6⟩
      have na : a ≠ p := fun z => h5 ⟨i, c, h1, h2, by rw [z]; exact q1⟩
      show (if a = p then H a else B a) = none
      rw [if_neg na]
      exact h4
    · rcases env_set h with ⟨_, z, _⟩ | ⟨_, z⟩
      · cases z
      · exact S.io j ds z
    · rw [q1] at hp
      cases hp
      rfl
  · refine ⟨B, .refl B, ⟨by rw [List.length_set]; exact S.len, fun j d h => ?_, fun j c' h hc => ?_, fun j k cj ck r hj hk oj ok ej ek => ?_, fun a w wz => ?_, fun a o hz => ?_, fun j ds h => ?_, S.tab⟩, fun c' h hc p' hp => (hw ⟨c', h, hc⟩).elim⟩
    · rcases env_set h with ⟨_, z, _⟩ | ⟨_, z⟩
      · cases z
      · exact S.dat j d z
    · rcases env_set h with ⟨_, z, _⟩ | ⟨_, z⟩
      · rw [z] at hc
        cases hc
      · exact S.own j c' z hc
    · rcases env_set hj with ⟨_, z, _⟩ | ⟨_, z1⟩
      · rw [z] at oj
        cases oj
      · rcases env_set hk with ⟨_, z, _⟩ | ⟨_, z2⟩
        · rw [z] at ok
          cases ok
        · exact S.one j k cj ck r z1 z2 oj ok ej ek
    · refine S.off a (fun ⟨j, c', y1, y2, y3⟩ => w ⟨j, c', ?_, y2, y3⟩) wz
      have ne : i ≠ j := fun y => hw ⟨c', by rw [y]; exact y1, y2⟩
      rw [List.getElem?_set_ne ne]
      exact y1
    · obtain ⟨h3, h4, h5, h6⟩ := S.hid a o hz
      refine ⟨h3, h4, fun ⟨j, c', y1, y2, y3⟩ => h5 ⟨j, c', ?_, y2, y3⟩, h6⟩
      rcases env_set y1 with ⟨_, z, _⟩ | ⟨_, z⟩
      · rw [z] at y2
        cases y2
      · exact z
    · rcases env_set h with ⟨_, z, _⟩ | ⟨_, z⟩
      · cases z
      · exact S.io j ds z
/-- data is put into a forgotten slot -/
theorem Sv.put {i : Nat} (S : Sv K as Z (ρ.set i .un) σ B H) {v : V} {d : D} (hd : Dq K B v d) : Sv K as Z (ρ.set i (.dat d)) (σ.set i (some v)) B H := by
  have hl : ρ.length = σ.length := by
    have := S.len
    rwa [List.length_set] at this
  have up : ∀ (j : Nat) (c : Cell), i ≠ j → ρ[j]? = some c → (ρ.set i .un)[j]? = some c := fun j c ne h => by rw [List.getElem?_set_ne ne]; exact h
  have key : ∀ (j : Nat) (c' : Cell), (ρ.set i (.dat d))[j]? = some c' → VL.own c' = true → i ≠ j ∧ (ρ.set i .un)[j]? = some c' := fun j c' h hc => by
    rcases env_set h with ⟨_, z, _⟩ | ⟨ne, z⟩
    · rw [z] at hc
      cases hc
    · exact ⟨ne, up j c' ne z⟩
  refine ⟨by rw [List.length_set, List.length_set]; exact hl, fun j e h => ?_, fun j c' h hc => ?_, fun j k cj ck r hj hk oj ok ej ek => ?_, fun a w wz => ?_, fun a o hz => ?_, fun j ds h => ?_, S.tab⟩
  · rcases env_set h with ⟨y, z, l⟩ | ⟨ne, z⟩
    · cases z
      subst y
      exact ⟨v, st_set_same (by omega), hd⟩
    · rw [st_set ne]
      exact S.dat j e (up j _ ne z)
  · obtain ⟨ne, z⟩ := key j c' h hc
    rw [st_set ne]
    exact S.own j c' z hc
  · obtain ⟨n1, z1⟩ := key j cj hj oj
    obtain ⟨n2, z2⟩ := key k ck hk ok
    rw [st_set n1] at ej
    rw [st_set n2] at ek
    exact S.one j k cj ck r z1 z2 oj ok ej ek
  · refine S.off a (fun ⟨j, c', y1, y2, y3⟩ => w ⟨j, c', ?_, y2, ?_⟩) wz
    · rcases env_set y1 with ⟨_, z, _⟩ | ⟨ne, z⟩
      · rw [z] at y2
        cases y2
      · rw [List.getElem?_set_ne ne]
        exact z
    · rcases env_set y1 with ⟨_, z, _⟩ | ⟨ne, z⟩
      · rw [z] at y2
        cases y2
      · rw [st_set ne]
        exact y3
  · obtain ⟨h3, h4, h5, h6⟩ := S.hid a o hz
    refine ⟨h3, h4, fun ⟨j, c', y1, y2, y3⟩ => ?_, h6⟩
    obtain ⟨n, z⟩ := key j c' y1 y2
    rw [st_set n] at y3
    exact h5 ⟨j, c', z, y2, y3⟩
  · rcases env_set h with ⟨_, z, _⟩ | ⟨ne, z⟩
    · cases z
    · rw [st_set ne]
      exact S.io j ds (up j _ ne z)
/-- a new own object is put into a forgotten slot -/
theorem Sv.putOwn {i : Nat} (S : Sv K as Z (ρ.set i .un) σ B H) {p : Addr} {o : HO} {c : Cell} (hp : H p = none) (hc : VL.own c = true) (hio : ∀ ds, c ≠ .lst true ds) (hi : i < ρ.length) (hd : OwnAt K B (upd H p o) p c) : Sv K as Z (ρ.set i c) (σ.set i (some (V.ref p))) B (upd H p o) := by
  have hl : ρ.length = σ.length := by
    have := S.len
    rwa [List.length_set] at this
  have up : ∀ (j : Nat) (c : Cell), i ≠ j → ρ[j]? = some c → (ρ.set i .un)[j]? = some c := fun j c ne h => by rw [List.getElem?_set_ne ne]; exact h
  have old : ∀ (j : Nat) (c' : Cell) (r : Addr), i ≠ j → ρ[j]? = some c' → VL.own c' = true → σ[j]? = some (some (V.ref r)) → r ≠ p := fun j c' r ne h h2 h3 z => S.nOw hp ⟨j, c', up j c' ne h, h2, by rw [← z]; exact h3⟩
  refine ⟨by rw [List.length_set, List.length_set]; exact hl, fun j e h => ?_, fun j c' h h2 => ?_, fun j k cj ck r hj hk oj ok ej ek => ?_, fun a w wz => ?_, fun a o' hz => ?_, fun j ds h => ?_, S.tab⟩
  · rcases env_set h with ⟨y, z, l⟩ | ⟨ne, z⟩
    · rw [← z] at hc
      cases hc
    · rw [st_set ne]
      exact S.dat j e (up j _ ne z)
  · rcases env_set h with ⟨y, z, l⟩ | ⟨ne, z⟩
    · subst y
      subst z
      exact ⟨p, st_set_same (by omega), S.free hp, hd⟩
    · rw [st_set ne]
      obtain ⟨r, a1, a2, a3⟩ := S.own j c' (up j c' ne z) h2
      exact ⟨r, a1, a2, a3.ext (.refl B) (upd_ne (old j c' r ne z h2 a1))⟩
  · rcases env_set hj with ⟨y1, z1, l1⟩ | ⟨n1, z1⟩
    · rcases env_set hk with ⟨y2, z2, l2⟩ | ⟨n2, z2⟩
      · exact y1.symm.trans y2
      · rw [← y1, st_set_same (by omega)] at ej
        cases ej
        rw [st_set n2] at ek
        exact (old k ck p n2 z2 ok ek rfl).elim
    · rcases env_set hk with ⟨y2, z2, l2⟩ | ⟨n2, z2⟩
      · rw [← y2, st_set_same (by omega)] at ek
        cases ek
        rw [st_set n1] at ej
        exact (old j cj p n1 z1 oj ej rfl).elim
      · rw [st_set n1] at ej
        rw [st_set n2] at ek
        exact S.one j k cj ck r (up j _ n1 z1) (up k _ n2 z2) oj ok ej ek
  · have na : a ≠ p := fun z => w ⟨i, c, by simp [hi], hc, by rw [st_set_same (by omega), z]⟩
    rw [upd_ne na]
    refine S.off a (fun ⟨j, c', y1, y2, y3⟩ => w ⟨j, c', ?_, y2, ?_⟩) wz
    · rcases env_set y1 with ⟨_, z, _⟩ | ⟨ne, z⟩
      · rw [z] at y2
        cases y2
      · rw [List.getElem?_set_ne ne]
        exact z
    · rcases env_set y1 with ⟨_, z, _⟩ | ⟨ne, z⟩
      · rw [z] at y2
        cases y2
      · rw [st_set ne]
        exact y3
  · obtain ⟨h3, h4, h5, h6⟩ := S.hid a o' hz
    have na : a ≠ p := fun z => by
      rw [z, hp] at h3
      cases h3
    refine ⟨by rw [upd_ne na]; exact h3, h4, fun ⟨j, c', y1, y2, y3⟩ => ?_, h6⟩
    rcases env_set y1 with ⟨y, z, _⟩ | ⟨ne, z⟩
    · rw [← y, st_set_same (by omega)] at y3
      cases y3
      exact na rfl
    · rw [st_set ne] at y3
      exact h5 ⟨j, c', up j c' ne z, y2, y3⟩
  · rcases env_set h with ⟨_, z, _⟩ | ⟨ne, z⟩
    · exact (hio ds z.symm).elim
    · rw [st_set ne]
      exact S.io j ds (up j _ ne z)
/-- an own object is changed -/
theorem Sv.mut (S : Sv K as Z ρ σ B H) {i : Nat} {p : Addr} {o : HO} {c c' : Cell} (hi : ρ[i]? = some c) (hc : VL.own c = true) (hp : σ[i]? = some (some (V.ref p))) (hc' : VL.own c' = true) (hio : ∀ ds, c' = .lst true ds → ∃ ds', c = .lst true ds') (hd : OwnAt K B (upd H p o) p c') :
    Sv K as Z (ρ.set i c') σ B (upd H p o) := by
  have hil : i < ρ.length := (List.getElem?_eq_some_iff.mp hi).1
  obtain ⟨p', q1, q2, q3⟩ := S.own i c hi hc
  rw [hp] at q1
  cases q1
  have ot : ∀ (j : Nat) (cj : Cell) (r : Addr), i ≠ j → ρ[j]? = some cj → VL.own cj = true → σ[j]? = some (some (V.ref r)) → r ≠ p := fun j cj r ne h h2 h3 z => ne (S.one i j c cj p hi h hc h2 hp (by rw [← z]; exact h3))
  refine ⟨by rw [List.length_set]; exact S.len, fun j e h => ?_, fun j cj h h2 => ?_, fun j k cj ck r hj hk oj ok ej ek => ?_, fun a w wz => ?_, fun a o' hz => ?_, fun j ds h => ?_, S.tab⟩
  · rcases env_set h with ⟨_, z, _⟩ | ⟨_, z⟩
    · rw [← z] at hc'
      cases hc'
    · exact S.dat j e z
  · rcases env_set h with ⟨y, z, _⟩ | ⟨ne, z⟩
    · subst y
      subst z
      exact ⟨p, hp, q2, hd⟩
    · obtain ⟨r, a1, a2, a3⟩ := S.own j cj z h2
      exact ⟨r, a1, a2, a3.ext (.refl B) (upd_ne (ot j cj r ne z h2 a1))⟩
  · rcases env_set hj with ⟨y1, z1, l1⟩ | ⟨n1, z1⟩
    · rcases env_set hk with ⟨y2, z2, l2⟩ | ⟨n2, z2⟩
      · exact y1.symm.trans y2
      · rw [← y1, hp] at ej
        cases ej
        exact (ot k ck p n2 z2 ok ek rfl).elim
    · rcases env_set hk with ⟨y2, z2, l2⟩ | ⟨n2, z2⟩
      · rw [← y2, hp] at ek
        cases ek
        exact (ot j cj p n1 z1 oj ej rfl).elim
      · exact S.one j k cj ck r z1 z2 oj ok ej ek
  · have na : a ≠ p := fun z => w ⟨i, c', by simp [hil], hc', by rw [z]; exact hp⟩
    rw [upd_ne na]
    refine S.off a (fun ⟨j, cj, y1, y2, y3⟩ => w ⟨j, cj, ?_, y2, y3⟩) wz
    have ne : i ≠ j := fun y => by
      rw [← y, hp] at y3
      cases y3
      exact na rfl
    rw [List.getElem?_set_ne ne]
    exact y1
  · obtain ⟨h3, h4, h5, h6⟩ := S.hid a o' hz
    have na : a ≠ p := fun z => h5 ⟨i, c, hi, hc, by rw [z]; exact hp⟩
    refine ⟨by rw [upd_ne na]; exact h3, h4, fun ⟨j, cj, y1, y2, y3⟩ => ?_, h6⟩
    rcases env_set y1 with ⟨y, z, _⟩ | ⟨ne, z⟩
    · rw [← y, hp] at y3
      cases y3
      exact na rfl
    · exact h5 ⟨j, cj, z, y2, y3⟩
  · rcases env_set h with ⟨y, z, _⟩ | ⟨_, z⟩
    · subst y
      obtain ⟨ds', e⟩ := hio ds z.symm
      rw [e] at hi
      exact S.io i ds' hi
    · exact S.io j ds z
end
end VL

end

/-! #### VC -/
section
set_option autoImplicit false
set_option maxRecDepth 100000
set_option maxHeartbeats 2000000
/-! a call that is shown a part of what is tracked -/
namespace VL
open PySem PySem.Spec PyProof.Rows L2
open Classical in
/-- what stands at W as in H, all else as in B -/
noncomputable def ovl (W : Addr → Prop) (H B : Hp) : Hp := fun a => if W a then H a else B a
theorem ovl_in {W : Addr → Prop} {H B : Hp} {a : Addr} (h : W a) : ovl W H B a = H a := if_pos h
theorem ovl_out {W : Addr → Prop} {H B : Hp} {a : Addr} (h : ¬ W a) : ovl W H B a = B a := if_neg h
/-- B is H without some lists and dicts -/
structure Part (W : Addr → Prop) (H B : Hp) : Prop where
  own : ∀ a, W a → B a = none ∧ ((∃ xs, H a = some (.lst xs)) ∨ ∃ kvs, H a = some (.dK kvs))
  off : ∀ a, ¬ W a → H a = B a
section
variable {P : Program} {w : World} {W : Addr → Prop} {H B B' : Hp} {h h' : Heap} {fs : List Addr}
theorem Part.no (p : Part W H B) {a : Addr} {o : HO} (e : H a = some o) (n1 : ∀ xs, o ≠ .lst xs) (n2 : ∀ kvs, o ≠ .dK kvs) : ¬ W a := fun z => by
  rcases (p.own a z).2 with ⟨xs, q⟩ | ⟨kvs, q⟩
  · rw [e] at q
    cases q
    exact n1 _ rfl
  · rw [e] at q
    cases q
    exact n2 _ rfl
theorem Part.sub (p : Part W H B) {a : Addr} {o : HO} (e : B a = some o) : H a = some o := by
  rw [p.off a fun z => by rw [(p.own a z).1] at e; cases e]
  exact e
theorem Part.ok (p : Part W H B) (k : HOk P w H h) : HOk P w B h := fun a o e =>
  (k a o (p.sub e)).stay (fun _ _ _ q => q) (fun b q => by rw [← p.off b (p.no q (fun _ z => by cases z) fun _ z => by cases z)]; exact q) fun b xs q => by
    rw [← p.off b (p.no q (fun _ z => by cases z) fun _ z => by cases z)]
    exact q
/-- behind the call: what was not shown stands -/
theorem Part.un (p : Part W H B) (u : Un fs [] B B' h h') (k : HOk P w H h) (k' : HOk P w B' h') (hf : ∀ b ∈ fs, H b = none) : Un fs [] H (ovl W H B') h h' ∧ HOk P w (ovl W H B') h' ∧ ∀ a, W a → B' a = none := by
  have nB : ∀ b, H b = none → B b = none := fun b n => by
    cases e : B b with
    | none => rfl
    | some o =>
      rw [p.sub e] at n
      cases n
  have gone : ∀ a, W a → B' a = none := fun a z => by
    obtain ⟨n, q⟩ := p.own a z
    have lt : a < h.objs.size := by
      rcases q with ⟨xs, q⟩ | ⟨kvs, q⟩
      · exact (k a _ q).lt
      · exact (k a _ q).lt
    obtain ⟨o, ho⟩ : ∃ o, h.get? a = some o := by
      rcases q with ⟨xs, q⟩ | ⟨kvs, q⟩
      · obtain ⟨_, its, m, _, e⟩ := k a _ q
        exact ⟨_, e⟩
      · obtain ⟨_, _, vs, _, o, _, _, e, _⟩ := k a _ q
        exact ⟨_, e⟩
    exact u.free a o ho n (by simp)
  have nW : ∀ b, H b = none → ¬ W b := fun b n z => by
    rcases (p.own b z).2 with ⟨xs, q⟩ | ⟨kvs, q⟩ <;> (rw [n] at q; cases q)
  refine ⟨⟨fun b o e n hb hx => u.keep b o e (nB b n) hb hx, fun b o e n hb hx => u.slot b o e (nB b n) hb hx, fun b o e n hx => ?_, fun b o e hx => u.there b o e hx, fun b xs e => ?_, fun b o v e => ?_, fun b ps e => ?_⟩, fun b o e => ?_, gone⟩
  · rw [ovl_out (nW b n)]
    exact u.free b o e (nB b n) hx
  · have z := p.no e (fun _ z => by cases z) fun _ z => by cases z
    rw [ovl_out z]
    rw [p.off b z] at e
    exact u.tups b xs e
  · have z := p.no e (fun _ z => by cases z) fun _ z => by cases z
    rw [ovl_out z]
    rw [p.off b z] at e
    exact u.frzs b o v e
  · have z := p.no e (fun _ z => by cases z) fun _ z => by cases z
    rw [ovl_out z]
    rw [p.off b z] at e
    exact u.tbls b ps e
  · by_cases z : W b
    · rw [ovl_in z] at e
      obtain ⟨nb, q⟩ := p.own b z
      have nf : b ∉ fs := fun y => by
        rw [hf b y] at e
        cases e
      have kp : ∀ ob, h.get? b = some ob → h'.get? b = some ob := fun ob y => u.keep b ob y nb nf (by simp)
      rcases q with ⟨xs, q⟩ | ⟨kvs, q⟩
      · rw [q] at e
        cases e
        obtain ⟨z1, its, m, r, y⟩ := k b _ q
        exact ⟨z1, its, m, r, kp _ y⟩
      · rw [q] at e
        cases e
        obtain ⟨z1, z2, vs, r, ob, es, ep, y, c⟩ := k b _ q
        exact ⟨z1, z2, vs, r, ob, es, ep, kp _ y, c⟩
    · rw [ovl_out z] at e
      exact (k' b o e).stay (fun _ _ _ q => q) (fun c q => by rw [ovl_out fun y => by rw [gone c y] at q; cases q]; exact q) fun c xs q => by
        rw [ovl_out fun y => by rw [gone c y] at q; cases q]
        exact q
end
section
variable {X : Cx} {k : Nat} {f : Addr} {fd : FuncData} {ps : List Str} {sp : Sp}
/-- a def is run over a part of the heap; no error leaves it -/
theorem run_part {W : Addr → Prop} {H B : Hp} {pins : List (Addr × Obj)} {σ : L2.St} {s : Shared} {Q : VK} {us : List Value} {vs : List V} (F : FnOk X.prog X.w X.K X.mg X.base CX0 k f fd ps sp) (hr : Room k X.A) (hb : Binds X.K fd ps []) (I : Inv X pins σ H s) (p : Part W H B) (r : Vals vs us)
    (h : sp vs B (fun v B' => (∀ a, W a → B' a = none) → Q v (ovl W H B')) E0) : wpAny (model X.prog X.w) X.A (call (.ref f) us) (EP X pins σ Q) X.xe s := by
  have hl : (us ++ []).length = ps.length := by
    rw [List.append_nil, ← r.length]
    exact F.len _ _ _ _ h
  have e0 := I.env0
  have nB : ∀ b, H b = none → B b = none := fun b n => by
    cases e : B b with
    | none => rfl
    | some o =>
      rw [p.sub e] at n
      cases n
  have e1 : Env0 X.prog X.w X.K X.mg X.base X.A X.stack s B := ⟨e0.frames, e0.mod, fun b o e => ⟨(e0.bs b o e).1, nB b (e0.bs b o e).2⟩, e0.bsz, e0.funs, fun b hb => nB b (e0.frf b hb), p.ok e0.hok, e0.bare⟩
  have b1 := hb s us I.kIn hl
  rw [List.append_nil] at b1
  refine wpAny_call (codeAny_mono (F.run X.A X.stack s B ⟨us, []⟩ us vs _ E0 hr e1 b1 r h) fun r s' hq => ?_)
  cases r with
  | error e => exact False.elim hq
  | ok fl =>
    cases fl with
    | ret u =>
      obtain ⟨v, B', os, bare, un, hok, rv, q⟩ := hq
      obtain ⟨u1, u2, u3⟩ := p.un un I.hok hok e0.frf
      exact I.after ⟨v, _, os, bare, u1, u2, rv, q u3⟩
    | next => exact False.elim hq
    | brk => exact False.elim hq
    | cont => exact False.elim hq
/-- f(e, ..), shown a part -/
def tCallP (sp : Sp) (t : TA) : TE := fun σ H Q => t σ H fun vs H1 => ∃ (W : Addr → Prop) (B : Hp), Part W H1 B ∧ sp vs B (fun v B' => (∀ a, W a → B' a = none) → Q v (ovl W H1 B')) E0
theorem pe_callP {x : Str} {p pos : Pos} {e : Expr} {es : List Expr} {t : TA} (F : FnOk X.prog X.w X.K X.mg X.base CX0 k f fd ps sp) (hr : Room k X.A) (hg : Gl X x) (hm : X.mg x = some (.ref f)) (hk : PySem.W.keepIn X.K (.ref f) = true) (hb : Binds X.K fd ps [])
    (ha : PA X (e :: es) t) (hdb : (x == ("__debug__" : Str)) = false := by decide) (he : starEach (e :: es) X.env = (false, eval e X.env) :: starEach es X.env := by rfl) (hpl : (backTo pos (starEach es X.env)).any (·.1) = false := by rfl) :
    PE X (.Call (.Name x p) (e :: es) [] pos) (tCallP sp t) := by
  refine ⟨fun pins s σ H Q I h => ?_⟩
  refine wpAny_Call_Name_kw (ld_glob I hg hm ?_ hdb)
  refine PySem.W.callWith_K (h₀ := X.base) I.ok.mod.kin hk (thn (ha.run pos pins s σ H _ I h) fun us s1 ⟨vs, H1, I1, r, W, B, p, q⟩ => ⟨I1.kIn, ?_⟩) he hpl
  exact run_part F hr hb I1 p r q
end
end VL

end

/-! #### VD -/
section
set_option autoImplicit false
set_option maxRecDepth 100000
set_option maxHeartbeats 2000000
/-! readings by values -/
namespace VL
open PySem PySem.Spec PyProof.Rows L2

/-- what an expression hands on: data, or the object of the own cell i -/
inductive CV where
  | d (x : D) | loc (i : Nat)
abbrev WE := En → (CV → En → Prop) → Prop
abbrev WT := En → (Bool → En → Prop) → Prop
abbrev WA := En → (List CV → En → Prop) → Prop
abbrev WN := En → (List D → En → Prop) → Prop
def CvOk (K : Fg) (σ : L2.St) (B : Hp) (v : V) : CV → Prop
  | .d x => Dq K B v x
  | .loc i => σ[i]? = some (some v)
def CvsOk (K : Fg) (σ : L2.St) (B : Hp) : List V → List CV → Prop
  | [], [] => True
  | v :: vs, c :: cs => CvOk K σ B v c ∧ CvsOk K σ B vs cs
  | _, _ => False
theorem CvOk.ext {K : Fg} {σ : L2.St} {B B' : Hp} {v : V} (e : ExT B B') : ∀ {c : CV}, CvOk K σ B v c → CvOk K σ B' v c
  | .d _, h => Dq.ext e h
  | .loc _, h => h
theorem CvsOk.ext {K : Fg} {σ : L2.St} {B B' : Hp} (e : ExT B B') : ∀ {vs : List V} {cs : List CV}, CvsOk K σ B vs cs → CvsOk K σ B' vs cs
  | [], [], _ => True.intro
  | _ :: _, _ :: _, h => ⟨h.1.ext e, CvsOk.ext e h.2⟩
  | [], _ :: _, h => h.elim
  | _ :: _, [], h => h.elim
/-- what stands behind it now -/
def der (ρ : En) : CV → Option D
  | .d x => some x
  | .loc i => match ρ[i]? with
    | some (.lst _ ds) => some (.list ds)
    | some (.dat d) => some d
    | _ => none
/-- a value that can be read as the data d: its parts stay -/
inductive Rv (K : Fg) (B H : Hp) : V → D → Prop where
  | dp {v : V} {d : D} (h : Dq K B v d) : Rv K B H v d
  | ls {a : Addr} {xs : List V} {ds : List D} (h : H a = some (.lst xs)) (r : DqAll K B xs ds) : Rv K B H (.ref a) (.list ds)
section
variable {K : Fg} {as : As} {ρ ρ' : En} {σ : L2.St} {Z B B' H H' : Hp} {v : V} {c : CV} {d : D}
theorem rv_of (S : Sv K as Z ρ σ B H) (h : CvOk K σ B v c) (e : der ρ c = some d) : Rv K B H v d := by
  cases c with
  | d x =>
    cases e
    exact .dp h
  | loc i =>
    unfold der at e
    cases q : ρ[i]? with
    | none =>
      simp [q] at e
    | some c =>
      cases c with
      | un => simp [q] at e
      | dic kvs => simp [q] at e
      | dat x =>
        simp [q] at e
        subst e
        obtain ⟨u, h1, h2⟩ := S.dat i x q
        have e2 : some (some u) = some (some v) := h1.symm.trans h
        cases e2
        exact .dp h2
      | lst io ds =>
        simp [q] at e
        subst e
        obtain ⟨p, h1, _, xs, h3, h4⟩ := S.own i _ q rfl
        have e2 : some (some (V.ref p)) = some (some v) := h1.symm.trans h
        cases e2
        exact .ls h3 h4
theorem Rv.dpH (e : ∀ a o, B a = some o → H a = some o) (h : Rv K B H v d) : Dq K H v d := by
  cases h with
  | dp h => exact Dq.ext (.of e) h
  | ls h r => exact .lst (.inl (.inl h)) (DqAll.ext (.of e) r)
theorem Rv.int {i : Int} (h : Rv K B H v (.int i)) : v = .int i := by
  cases h with
  | dp h => cases h; rfl
theorem Rv.bool {b : Bool} (h : Rv K B H v (.bool b)) : v = .bl b := by
  cases h with
  | dp h => cases h; rfl
theorem Rv.str {x : Str} (h : Rv K B H v (.str x)) : v = .str x := by
  cases h with
  | dp h => cases h; rfl
theorem Rv.non (h : Rv K B H v .none) : v = .non := by
  cases h with
  | dp h => cases h; rfl
theorem Rv.list {ds : List D} (e : ∀ a o, B a = some o → H a = some o) (h : Rv K B H v (.list ds)) : ∃ a xs, v = .ref a ∧ SqL K H a xs ∧ DqAll K B xs ds := by
  cases h with
  | dp h =>
    cases h with
    | lst h r => exact ⟨_, _, rfl, sqL_ext (.of e) h, r⟩
  | ls h r => exact ⟨_, _, rfl, .inl (.inl h), r⟩
theorem Rv.tup {ds : List D} (e : ∀ a o, B a = some o → H a = some o) (h : Rv K B H v (.tuple ds)) : ∃ a xs, v = .ref a ∧ SqT K H a xs ∧ DqAll K B xs ds := by
  cases h with
  | dp h =>
    cases h with
    | tup h r => exact ⟨_, _, rfl, sqT_ext (.of e) h, r⟩
end
/-- at most one new object, that stays -/
inductive Al (B H : Hp) : Hp → Hp → Prop where
  | no : Al B H B H
  | new {p : Addr} {o : HO} (h : H p = none) : Al B H (upd B p o) (upd H p o)
section
variable {K : Fg} {as : As} {ρ ρ' : En} {σ : L2.St} {Z B B' H H' : Hp}
theorem Sv.alc (S : Sv K as Z ρ σ B H) (a : Al B H B' H') : Sv K as Z ρ σ B' H' ∧ ExT B B' := by
  cases a with
  | no => exact ⟨S, .refl B⟩
  | new h => exact ⟨S.al h, .new (S.free h)⟩
theorem Sv.subE (S : Sv K as Z ρ σ B H) : ∀ a o, B a = some o → H a = some o := fun _ _ h => S.sub h
end

/-! ### the lifts -/
section
variable (K : Fg) (as : As)
def up (t : WE) : TE := fun σ H Q => ∃ Z ρ B P, Sv K as Z ρ σ B H ∧ t ρ P ∧ ∀ c ρ' v B' H', P c ρ' → ExT B B' → Sv K as Z ρ' σ B' H' → CvOk K σ B' v c → Q v H'
def upT (t : WT) : TT := fun σ H Q => ∃ Z ρ B P, Sv K as Z ρ σ B H ∧ t ρ P ∧ ∀ b ρ' B' H', P b ρ' → ExT B B' → Sv K as Z ρ' σ B' H' → Q b H'
def upA (t : WA) : TA := fun σ H Q => ∃ Z ρ B P, Sv K as Z ρ σ B H ∧ t ρ P ∧ ∀ cs ρ' vs B' H', P cs ρ' → ExT B B' → Sv K as Z ρ' σ B' H' → CvsOk K σ B' vs cs → Q vs H'
/-- a new list, nobody's yet -/
def upN (t : WN) : TE := fun σ H Q => ∃ Z ρ B P, Sv K as Z ρ σ B H ∧ t ρ P ∧ ∀ ds ρ' p xs B' H', P ds ρ' → ExT B B' → Sv K as Z ρ' σ B' H' → H' p = none → DqAll K B' xs ds → Q (.ref p) (upd H' p (.lst xs))
structure WEn where
  nx : En → Prop
  rt : CV → En → Prop
  rn : List D → En → Prop := fun _ _ => False
  bk : En → Prop := fun _ => False
  ct : En → Prop := fun _ => False
abbrev WS := WEn → En → Prop
structure Meets (Z B : Hp) (w : WEn) (E : Ends) : Prop where
  nx : ∀ ρ σ B' H', w.nx ρ → ExT B B' → Sv K as Z ρ σ B' H' → E.nx σ H'
  rt : ∀ c ρ σ v B' H', w.rt c ρ → ExT B B' → Sv K as Z ρ σ B' H' → CvOk K σ B' v c → E.rt v H'
  rn : ∀ ds ρ σ p xs B' H', w.rn ds ρ → ExT B B' → Sv K as Z ρ σ B' H' → H' p = none → DqAll K B' xs ds → E.rt (.ref p) (upd H' p (.lst xs))
  bk : ∀ ρ σ B' H', w.bk ρ → ExT B B' → Sv K as Z ρ σ B' H' → E.bk σ H'
  ct : ∀ ρ σ B' H', w.ct ρ → ExT B B' → Sv K as Z ρ σ B' H' → E.ct σ H'
def upS (t : WS) : TS := fun E σ H => ∃ Z ρ B w, Sv K as Z ρ σ B H ∧ t w ρ ∧ Meets K as Z B w E
end
theorem Meets.ext {K : Fg} {as : As} {Z B B' : Hp} {w : WEn} {E : Ends} (m : Meets K as Z B w E) (e : ExT B B') : Meets K as Z B' w E where
  nx := fun ρ σ B2 H h x => m.nx ρ σ B2 H h (e.trans x)
  rt := fun c ρ σ v B2 H h x => m.rt c ρ σ v B2 H h (e.trans x)
  rn := fun ds ρ σ p xs B2 H h x => m.rn ds ρ σ p xs B2 H h (e.trans x)
  bk := fun ρ σ B2 H h x => m.bk ρ σ B2 H h (e.trans x)
  ct := fun ρ σ B2 H h x => m.ct ρ σ B2 H h (e.trans x)

section
variable {X : Cx} {e : Expr} {st : Stmt} {sts : List Stmt}
theorem pe_imp {t u : TE} (h : PE X e t) (i : ∀ σ H Q, u σ H Q → t σ H Q) : PE X e u := ⟨fun pins s σ H Q I q => h.run pins s σ H Q I (i σ H Q q)⟩
theorem pt_imp {t u : TT} (h : PT X e t) (i : ∀ σ H Q, u σ H Q → t σ H Q) : PT X e u := ⟨fun pins s σ H Q I q => h.run pins s σ H Q I (i σ H Q q)⟩
theorem pw_imp {t u : TT} (h : L2.PW X e t) (i : ∀ σ H Q, u σ H Q → t σ H Q) : L2.PW X e u := ⟨fun wh pins s σ H Q I q => h.run wh pins s σ H Q I (i σ H Q q)⟩
theorem pa_imp {es : List Expr} {t u : TA} (h : PA X es t) (i : ∀ σ H Q, u σ H Q → t σ H Q) : PA X es u := ⟨fun pos pins s σ H Q I q => h.run pos pins s σ H Q I (i σ H Q q)⟩
theorem ps_imp {t u : TS} (h : PS X st t) (i : ∀ D σ H, u D σ H → t D σ H) : PS X st u := ⟨fun pins s σ H D I q => h.run pins s σ H D I (i D σ H q)⟩
theorem pss_imp {t u : TS} (h : PSs X sts t) (i : ∀ D σ H, u D σ H → t D σ H) : PSs X sts u := ⟨fun pins s σ H D I q => h.run pins s σ H D I (i D σ H q)⟩
end
end VL

end

/-! #### VE -/
section
set_option autoImplicit false
set_option maxRecDepth 100000
set_option maxHeartbeats 2000000
/-! operations by values -/
namespace VL
open PySem PySem.Spec PyProof.Rows L2
def ror (r q : R2) : R2 := fun x y H Q => r x y H Q ∨ q x y H Q
theorem op_or {X : Cx} {f : Value → Value → Sem Value} {r q : R2} (a : OpR X f r) (b : OpR X f q) : OpR X f (ror r q) := fun pins s σ H x y v u Q I rx ry h =>
  h.elim (a pins s σ H x y v u Q I rx ry) (b pins s σ H x y v u Q I rx ry)
abbrev DO := D → D → (D → Prop) → Prop
abbrev DU := D → (D → Prop) → Prop
abbrev DC := List D → (D → Prop) → Prop
def OpV (K : Fg) (r : R2) (o : DO) : Prop := ∀ (B H : Hp) (x y : V) (dx dy : D) (P : D → Prop) (Q : VK), (∀ a u, B a = some u → H a = some u) → Rv K B H x dx → Rv K B H y dy → o dx dy P →
  (∀ d v B' H', P d → Al B H B' H' → Dq K B' v d → Q v H') → r x y H Q
theorem opv_or1 {K : Fg} {r q : R2} {o : DO} (h : OpV K r o) : OpV K (ror r q) o := fun B H x y dx dy P Q e a b c k => .inl (h B H x y dx dy P Q e a b c k)
theorem opv_or2 {K : Fg} {r q : R2} {o : DO} (h : OpV K q o) : OpV K (ror r q) o := fun B H x y dx dy P Q e a b c k => .inr (h B H x y dx dy P Q e a b c k)

section
variable {X : Cx}
open PySem.AutoSeq1 PySem.MeetsSeq in
theorem list_add_any (l : Addr) (items : Array Value) (n : Nat) (sl : Array (Option Value)) (b : Addr) (items2 : Array Value) (n2 : Nat) (sl2 : Array (Option Value)) (hc0 : items.size + items2.size ≤ sizeLine) :
    PySem.Meets (Builtin.«list.__add__» ⟨[.ref l, .ref b], []⟩) (fun _ R s => s.heap.get? l = some { cls := .type "list", dict := none, data := .seq items n, slots := sl } ∧ s.heap.get? b = some { cls := .type "list", dict := none, data := .seq items2 n2, slots := sl2 } ∧ R (.ok (.ret (Value.ref s.heap.objs.size))) { s with heap := s.heap.push { cls := Value.type "list", data := Data.seq (items ++ items2) }, toks := s.toks }) :=
  .of_wp fun prog w A R s h => by obtain ⟨hp, g, d, tk, os⟩ := s; obtain ⟨hl, hb, h⟩ := h; have f1 := idx_int; have f2 := PySem.AutoSeq1.sub_tuple_tuple; have f3 := PySem.AutoSeq1.sub_list_list; have f4 := PySem.AutoSeq1.sub_tuple_list; have f5 := PySem.AutoSeq1.sub_list_tuple; wp_walk using wpAny_loadPart' hl, wpAny_loadPart' hb; exact ⟨_, rfl, h⟩
theorem rd_obj {H : Hp} {pins : List (Addr × Obj)} {σ : L2.St} {s : Shared} {l : Addr} {xs : List V} (I : Inv X pins σ H s) (h : SqL X.K H l xs) : ∃ (its : List Value) (n : Nat) (sl : Array (Option Value)), Vals xs its ∧ xs.length = its.length ∧ s.heap.get? l = some { cls := .type "list", dict := none, data := .seq its.toArray n, slots := sl } ∧ xs.length ≤ sizeLine := by
  obtain ⟨its, r, ⟨⟨c, d, da, sl⟩, n, e, h1, h2, h3⟩, z⟩ := I.list h
  simp only at h1 h2 h3
  subst h1 h2 h3
  exact ⟨its, n, sl, r, r.length, e, z⟩
/-- list + list -/
def rCatR (K : Fg) : R2 := fun x y H Q => ∃ l b xs zs, x = .ref l ∧ y = .ref b ∧ SqL K H l xs ∧ SqL K H b zs ∧ xs.length + zs.length ≤ sizeLine ∧ ∀ p, H p = none → Q (.ref p) (upd H p (.lst (xs ++ zs)))
theorem op_catR : OpR X (binaryOp .Add) (rCatR X.K) := by
  intro pins s σ H x y v u Q I rx ry h
  obtain ⟨l, b, xs, zs, rfl, rfl, hH, hB, hz, q⟩ := h
  cases rx
  cases ry
  obtain ⟨its, n, sl, r, hl, e, _⟩ := rd_obj I hH
  obtain ⟨its2, n2, sl2, r2, hl2, e2, _⟩ := rd_obj I hB
  have z : its.toArray.size + its2.toArray.size ≤ sizeLine := by
    rw [List.size_toArray, List.size_toArray, ← hl, ← hl2]
    exact hz
  refine concat_meets ⟨_, e, rfl⟩ ⟨_, e2, rfl⟩ noFill_list_add seq_list_add PySem.F.slot_list_add PySem.F.entry_list_add (PySem.F.args_list_add_2 _ _) (list_add_any l its.toArray n sl b its2.toArray n2 sl2 z) ⟨e, e2, ?_⟩
  have ea : its.toArray ++ its2.toArray = (its ++ its2).toArray := by simp
  rw [ea]
  exact ⟨.ref _, _, I.lnew (t' := s.toks) (r.append r2) (by rw [List.length_append]; exact hz), rfl, q _ I.fresh⟩
end

/-! ### + -/
def oAdd : DO := fun x y P => match x, y with
  | .int i, .int j => P (.int (i + j))
  | .str a, .str b => a.length + b.length ≤ sizeLine ∧ P (.str (a ++ b))
  | .list a, .list b => a.length + b.length ≤ sizeLine ∧ P (.list (a ++ b))
  | .tuple a, .tuple b => a.length + b.length ≤ sizeLine ∧ P (.tuple (a ++ b))
  | _, _ => False
def rStrA : R2 := fun x y H Q => ∃ i j, x = .str i ∧ y = .str j ∧ i.length + j.length ≤ sizeLine ∧ Q (.str (i ++ j)) H
def rAdd (K : Fg) : R2 := ror (rI0 fun i j => .int (i + j)) (ror rStrA (ror (rCatR K) (rCatA K)))
theorem op_add' {X : Cx} : OpR X (binaryOp .Add) (rAdd X.K) := op_or op_add (op_or op_add_str (op_or op_catR op_catA))
theorem fin0 {K : Fg} {B H : Hp} {P : D → Prop} {Q : VK} (k : ∀ d v B' H', P d → Al B H B' H' → Dq K B' v d → Q v H') {v : V} {d : D} (p : P d) (h : Dq K B v d) : Q v H := k d v B H p .no h
theorem opv_add {K : Fg} : OpV K (rAdd K) oAdd := by
  intro B H x y dx dy P Q e a b c k
  cases dx <;> cases dy <;> (try (exact (show False from c).elim))
  · rename_i i j
    cases a.int
    cases b.int
    exact .inl ⟨i, j, rfl, rfl, k _ _ _ _ c .no (.int _)⟩
  · rename_i i j
    cases a.str
    cases b.str
    exact .inr (.inl ⟨i, j, rfl, rfl, c.1, k _ _ _ _ c.2 .no (.str _)⟩)
  · rename_i ds es
    obtain ⟨l, xs, rfl, h1, r1⟩ := a.list e
    obtain ⟨m, ys, rfl, h2, r2⟩ := b.list e
    have l1 := r1.len
    have l2 := r2.len
    have z := c.1
    exact .inr (.inr (.inl ⟨l, m, xs, ys, rfl, rfl, h1, h2, by omega, fun p hp => k _ _ _ _ c.2 (.new hp) (.lst (.inl (.inl upd_same)) (DqAll.ext (.of fun u w q => by
      by_cases n : B p = none
      · rw [upd_ne (ne_of_none q n)]
        exact q
      · cases z : B p with
        | none => exact (n z).elim
        | some o =>
          have := e p o z
          rw [hp] at this
          cases this) (DqAll.app r1 r2)))⟩))
  · rename_i ds es
    obtain ⟨l, xs, rfl, h1, r1⟩ := a.tup e
    obtain ⟨m, ys, rfl, h2, r2⟩ := b.tup e
    have l1 := r1.len
    have l2 := r2.len
    have z := c.1
    have ext : ∀ p o, H p = none → ExT B (upd B p o) := fun p o hp => .new (by
      cases z : B p with
      | none => rfl
      | some o =>
        have := e p o z
        rw [hp] at this
        cases this)
    refine .inr (.inr (.inr ⟨l, m, xs, ys, rfl, rfl, h1, h2, by omega, fun z => ?_, fun _ z => ?_, fun _ _ p hp => ?_⟩))
    · subst z
      cases r1
      cases b with
      | dp h => exact k _ _ _ _ c.2 .no h
    · subst z
      cases r2
      cases a with
      | dp h => exact k _ _ _ _ (by rw [← List.append_nil ds]; exact c.2) .no h
    · exact k _ _ _ _ c.2 (.new hp) (.tup (.inl (.inl upd_same)) (DqAll.ext (ext p _ hp) (DqAll.app r1 r2)))
/-! ### ints -/
def oI (C : Int → Int → Prop) (g : Int → Int → D) : DO := fun x y P => match x, y with
  | .int i, .int j => C i j ∧ P (g i j)
  | _, _ => False
def oI0 (g : Int → Int → D) : DO := fun x y P => match x, y with
  | .int i, .int j => P (g i j)
  | _, _ => False
theorem opv_I0 {K : Fg} {g : Int → Int → V} {gd : Int → Int → D} (hg : ∀ B i j, Dq K B (g i j) (gd i j)) : OpV K (rI0 g) (oI0 gd) := by
  intro B H x y dx dy P Q e a b c k
  cases dx <;> cases dy <;> (try (exact (show False from c).elim))
  rename_i i j
  cases a.int
  cases b.int
  exact ⟨i, j, rfl, rfl, k _ _ _ _ c .no (hg B i j)⟩
theorem opv_I {K : Fg} {C : Int → Int → Prop} {g : Int → Int → V} {gd : Int → Int → D} (hg : ∀ B i j, Dq K B (g i j) (gd i j)) : OpV K (rI C g) (oI C gd) := by
  intro B H x y dx dy P Q e a b c k
  cases dx <;> cases dy <;> (try (exact (show False from c).elim))
  rename_i i j
  cases a.int
  cases b.int
  exact ⟨i, j, rfl, rfl, c.1, k _ _ _ _ c.2 .no (hg B i j)⟩
abbrev oSub : DO := oI0 fun i j => .int (i - j)
def COk (i j : Int) : Prop := CMul i j ∨ CMulW i j
abbrev oMul : DO := oI COk fun i j => .int (i * j)
def CDv (i j : Int) : Prop := CDivN i j ∨ CDivW i j
abbrev oFdiv : DO := oI CDv fun i j => .int (i.fdiv j)
abbrev oMod : DO := oI (fun _ j => j ≠ 0) fun i j => .int (i.fmod j)
abbrev oPow : DO := oI CPow fun i j => .int (i ^ j.toNat)
abbrev oShl : DO := oI CPow fun i j => .int (i * 2 ^ j.toNat)
section
variable {X : Cx}
theorem op_mul' : OpR X (binaryOp .Mult) (rI COk fun i j => .int (i * j)) := fun pins s σ H x y v u Q I rx ry ⟨i, j, h1, h2, c, q⟩ =>
  c.elim (fun c => op_mul pins s σ H x y v u Q I rx ry ⟨i, j, h1, h2, c, q⟩) fun c => op_mulW pins s σ H x y v u Q I rx ry ⟨i, j, h1, h2, c, q⟩
theorem op_fdiv' : OpR X (binaryOp .FloorDiv) (rI CDv fun i j => .int (i.fdiv j)) := fun pins s σ H x y v u Q I rx ry ⟨i, j, h1, h2, c, q⟩ =>
  c.elim (fun c => op_fdivN pins s σ H x y v u Q I rx ry ⟨i, j, h1, h2, c, q⟩) fun c => op_fdivW pins s σ H x y v u Q I rx ry ⟨i, j, h1, h2, c, by
    show Q (.int (i / j)) H
    rw [← Int.fdiv_eq_ediv_of_nonneg i (Int.le_of_lt c.1)]
    exact q⟩
end
/-! ### comparisons -/
def shp (d : D) : Bool := SeqAt.shaped d
def oEq : DO := fun x y P => shp x = true ∧ shp y = true ∧ P (.bool (PyData.eqv x y))
def oNe : DO := fun x y P => shp x = true ∧ shp y = true ∧ P (.bool (!PyData.eqv x y))
theorem opv_eq {K : Fg} : OpV K (rEqD K) oEq := fun B H x y dx dy P Q e a b c k => ⟨dx, dy, (a.dpH e).dp (SeqAt.canLay_of_shaped c.1), (b.dpH e).dp (SeqAt.canLay_of_shaped c.2.1), c.1, c.2.1, k _ _ _ _ c.2.2 .no (.bl _)⟩
theorem opv_ne {K : Fg} : OpV K (rNeD K) oNe := fun B H x y dx dy P Q e a b c k => ⟨dx, dy, (a.dpH e).dp (SeqAt.canLay_of_shaped c.1), (b.dpH e).dp (SeqAt.canLay_of_shaped c.2.1), c.1, c.2.1, k _ _ _ _ c.2.2 .no (.bl _)⟩
abbrev oLt : DO := oI0 fun i j => .bool (decide (i < j))
abbrev oLe : DO := oI0 fun i j => .bool (decide (i ≤ j))
abbrev oGt : DO := oI0 fun i j => .bool (decide (j < i))
abbrev oGe : DO := oI0 fun i j => .bool (decide (j ≤ i))
/-- x is None -/
def isN : D → Bool
  | .none => true
  | _ => false
def oIsN (neg : Bool) : DO := fun x y P => match y with
  | .none => P (.bool (if neg then !isN x else isN x))
  | _ => False
theorem isN_dec {K : Fg} {B H : Hp} {v : V} {d : D} (h : Rv K B H v d) : decide (v = .non) = isN d := by
  cases h with
  | dp h => cases h <;> rfl
  | ls h r => rfl
theorem opv_isN {K : Fg} : OpV K (fun x y H Q => y = .non ∧ Q (.bl (decide (x = .non))) H) (oIsN false) := by
  intro B H x y dx dy P Q e a b c k
  cases dy <;> (try (exact (show False from c).elim))
  exact ⟨b.non, by rw [isN_dec a]; exact k _ _ _ _ c .no (.bl _)⟩
theorem opv_notN {K : Fg} : OpV K (fun x y H Q => y = .non ∧ Q (.bl (!decide (x = .non))) H) (oIsN true) := by
  intro B H x y dx dy P Q e a b c k
  cases dy <;> (try (exact (show False from c).elim))
  exact ⟨b.non, by rw [isN_dec a]; exact k _ _ _ _ c .no (.bl _)⟩
/-! ### an item -/
def itemD : DO := fun x y P => match x, y with
  | .list ds, .int i => ∃ d, atI ds i = some d ∧ P d
  | .tuple ds, .int i => ∃ d, atI ds i = some d ∧ P d
  | .str z, .int i => ∃ c, z.length ≤ sizeLine ∧ atI z.cps.toList i = some c ∧ P (.str ⟨#[c]⟩)
  | _, _ => False
theorem atI_all {K : Fg} {B : Hp} {xs : List V} {ds : List D} (r : DqAll K B xs ds) {i : Int} {d : D} (h : atI ds i = some d) : ∃ v, atI xs i = some v ∧ Dq K B v d := by
  unfold atI at h ⊢
  rw [r.len]
  cases e : ixN ds.length i with
  | none =>
    rw [e] at h
    cases h
  | some j =>
    rw [e] at h
    exact r.get (show ds[j]? = some d from h)
theorem opv_ix {K : Fg} : OpV K (rIx K) itemD := by
  intro B H x y dx dy P Q e a b c k
  cases dx <;> cases dy <;> (try (exact (show False from c).elim))
  · rename_i z i
    cases a.str
    cases b.int
    obtain ⟨q, h1, h2, h3⟩ := c
    exact .inr (.inr ⟨z, i, q, rfl, rfl, h1, h2, k _ _ _ _ h3 .no (.str _)⟩)
  · rename_i ds i
    cases b.int
    obtain ⟨l, xs, rfl, h1, r1⟩ := a.list e
    obtain ⟨d, h2, h3⟩ := c
    obtain ⟨v, h4, h5⟩ := atI_all r1 h2
    exact .inl ⟨l, xs, i, v, rfl, rfl, h1, h4, k _ _ _ _ h3 .no h5⟩
  · rename_i ds i
    cases b.int
    obtain ⟨l, xs, rfl, h1, r1⟩ := a.tup e
    obtain ⟨d, h2, h3⟩ := c
    obtain ⟨v, h4, h5⟩ := atI_all r1 h2
    exact .inr (.inl ⟨l, xs, i, v, rfl, rfl, h1, h4, k _ _ _ _ h3 .no h5⟩)
end VL

end

/-! #### VF -/
section
set_option autoImplicit false
set_option maxRecDepth 100000
set_option maxHeartbeats 2000000
/-! expressions by values -/
namespace VL
open PySem PySem.Spec PyProof.Rows L2
section
variable {X : Cx} {as : As} {a b c e : Expr} {es : List Expr} {t u : WE} {pos : Pos}
theorem cvs_one {K : Fg} {σ : L2.St} {B : Hp} {vs : List V} {c : CV} (h : CvsOk K σ B vs [c]) : ∃ v, vs = [v] ∧ CvOk K σ B v c := by
  cases vs with
  | nil => exact h.elim
  | cons v r =>
    cases r with
    | nil => exact ⟨v, rfl, h.1⟩
    | cons v2 r2 => exact h.2.elim
/-! ### names, constants -/
def wVar (i : Nat) : WE := fun ρ P => match ρ[i]? with
  | some (.dat d) => P (.d d) ρ
  | some (.lst _ _) => P (.loc i) ρ
  | some (.dic _) => P (.loc i) ρ
  | _ => False
theorem vv (i : Nat) {x : Str} (hN : X.N[i]? = some x := by rfl) (hv : Vis X.env.scope x := by first | exact Or.inl rfl | exact Or.inr (Or.inl rfl) | exact Or.inr (Or.inr rfl)) (hd : (x == ("__debug__" : Str)) = false := by decide)
    (hcd : (x == ("__classdict__" : Str)) = false := by decide) : PE X (.Name x pos) (up X.K as (wVar i)) := by
  refine pe_imp (pe_var hN hv hd hcd) fun σ H Q ⟨Z, ρ, B, P, S, h, k⟩ => ?_
  unfold wVar at h
  cases q : ρ[i]? with
  | none => simp [q] at h
  | some c =>
    cases c with
    | un => simp [q] at h
    | dat d =>
      simp [q] at h
      obtain ⟨v, h1, h2⟩ := S.dat i d q
      exact ⟨v, h1, k _ _ v B H h (.refl B) S h2⟩
    | lst io ds =>
      simp [q] at h
      obtain ⟨p, h1, _⟩ := S.own i _ q rfl
      exact ⟨_, h1, k _ _ _ B H h (.refl B) S h1⟩
    | dic kvs =>
      simp [q] at h
      obtain ⟨p, h1, _⟩ := S.own i _ q rfl
      exact ⟨_, h1, k _ _ _ B H h (.refl B) S h1⟩
def wC (d : D) : WE := fun ρ P => P (.d d) ρ
theorem vC {v : V} {d : D} (h : PE X e (tC v)) (hd : ∀ B, Dq X.K B v d) : PE X e (up X.K as (wC d)) :=
  pe_imp h fun σ H Q ⟨Z, ρ, B, P, S, h, k⟩ => k _ _ v B H h (.refl B) S (hd B)
theorem vint {i : Int} {j : Nat} : PE X (.Constant (.int i) j pos) (up X.K as (wC (.int i))) := vC pe_int fun _ => .int i
theorem vbl {i : Bool} {j : Nat} : PE X (.Constant (.bool i) j pos) (up X.K as (wC (.bool i))) := vC pe_bl fun _ => .bl i
theorem vnon {j : Nat} : PE X (.Constant .none j pos) (up X.K as (wC .none)) := vC pe_non fun _ => .non
theorem vstr {x : Str} {j : Nat} : PE X (.Constant (.str x) j pos) (up X.K as (wC (.str x))) := vC pe_str fun _ => .str x
/-! ### operations -/
def wOp (o : DO) (t u : WE) : WE := fun ρ P => t ρ fun c1 ρ1 => u ρ1 fun c2 ρ2 => ∃ x y, der ρ2 c1 = some x ∧ der ρ2 c2 = some y ∧ o x y fun d => P (.d d) ρ2
theorem CvOk.same {K : Fg} {σ : L2.St} {B B' : Hp} {v : V} {c : CV} (e : ExT B B') (h : CvOk K σ B v c) : CvOk K σ B' v c := h.ext e
theorem up_op {K : Fg} {r : R2} {o : DO} (hv : OpV K r o) {σ : L2.St} {H : Hp} {Q : VK} (h : up K as (wOp o t u) σ H Q) : tOp r (up K as t) (up K as u) σ H Q := by
  obtain ⟨Z, ρ, B, P, S, h, k⟩ := h
  refine ⟨Z, ρ, B, _, S, h, fun c1 ρ1 v1 B1 H1 h1 x1 S1 o1 => ?_⟩
  refine ⟨Z, ρ1, B1, _, S1, h1, fun c2 ρ2 v2 B2 H2 h2 x2 S2 o2 => ?_⟩
  obtain ⟨x, y, e1, e2, h3⟩ := h2
  refine hv B2 H2 v1 v2 x y _ Q S2.subE (rv_of S2 (o1.ext x2) e1) (rv_of S2 o2 e2) h3 fun d v B' H' p al hd => ?_
  obtain ⟨S3, x3⟩ := S2.alc al
  exact k _ _ v B' H' p ((x1.trans x2).trans x3) S3 hd
theorem vop {op : Operator} {r : R2} {o : DO} (ho : OpR X (binaryOp op) r) (hv : OpV X.K r o) (ha : PE X a (up X.K as t)) (hb : PE X b (up X.K as u)) : PE X (.BinOp a op b pos) (up X.K as (wOp o t u)) :=
  pe_imp (pe_op ho ha hb) fun _ _ _ h => up_op hv h
theorem vcmp {op : CmpOp} {r : R2} {o : DO} (ho : OpR X (compareOp op) r) (hv : OpV X.K r o) (ha : PE X a (up X.K as t)) (hb : PE X b (up X.K as u)) (hm : behindInMarks op b = false := by first | exact nomark _ | with_unfolding_all rfl) : PE X (.Compare a [op] [b] pos) (up X.K as (wOp o t u)) :=
  pe_imp (pe_cmpR ho ha hb hm) fun _ _ _ h => up_op hv h
/-! ### tests -/
def wTest (t : WE) : WT := fun ρ P => t ρ fun c ρ' => match c with
  | .d (.bool k) => P k ρ'
  | _ => False
theorem tcmp {op : CmpOp} {r : R2} {o : DO} (ho : OpR X (compareOp op) r) (hv : OpV X.K r o) (ha : PE X a (up X.K as t)) (hb : PE X b (up X.K as u)) (hm : behindInMarks op b = false := by first | exact nomark _ | with_unfolding_all rfl) : PT X (.Compare a [op] [b] pos) (upT X.K as (wTest (wOp o t u))) := by
  refine pt_imp (pt_cmpR ho ha hb hm) fun σ H Q ⟨Z, ρ, B, P, S, h, k⟩ => up_op hv ⟨Z, ρ, B, _, S, h, fun c ρ' v B' H' h1 x S' o1 => ?_⟩
  cases c with
  | loc i => exact h1.elim
  | d y =>
    cases y <;> (try (exact (show False from h1).elim))
    rename_i k2
    cases o1
    exact ⟨k2, rfl, k _ _ B' H' h1 x S'⟩
theorem tval (h : PE X e (up X.K as t)) (he : ∀ whole, PySem.isTrue e X.env whole = (do
    let v ← whole
    standAt e.pos
    holding [v] (truthy v)) := by intro _; rfl) : PT X e (upT X.K as (wTest t)) := by
  refine pt_imp (pt_val h he) fun σ H Q ⟨Z, ρ, B, P, S, h, k⟩ => ⟨Z, ρ, B, _, S, h, fun c ρ' v B' H' h1 x S' o1 => ?_⟩
  cases c with
  | loc i => exact h1.elim
  | d y =>
    cases y <;> (try (exact (show False from h1).elim))
    rename_i k2
    cases o1
    exact ⟨k2, rfl, k _ _ B' H' h1 x S'⟩
def wNotT (t : WT) : WT := fun ρ P => t ρ fun b ρ' => P (!b) ρ'
def wAndT (t u : WT) : WT := fun ρ P => t ρ fun b ρ' => if b = true then u ρ' P else P false ρ'
def wOrT (t u : WT) : WT := fun ρ P => t ρ fun b ρ' => if b = true then P true ρ' else u ρ' P
theorem tnot {t : WT} (h : PT X e (upT X.K as t)) : PT X (.UnaryOp .Not e pos) (upT X.K as (wNotT t)) :=
  pt_imp (pt_not h) fun σ H Q ⟨Z, ρ, B, P, S, h, k⟩ => ⟨Z, ρ, B, _, S, h, fun b ρ' B' H' h1 x S' => k _ _ B' H' h1 x S'⟩
theorem up_and {K : Fg} {t u : WT} {σ : L2.St} {H : Hp} {Q : Bool → Hp → Prop} (h : upT K as (wAndT t u) σ H Q) : tAnd (upT K as t) (upT K as u) σ H Q := by
  obtain ⟨Z, ρ, B, P, S, h, k⟩ := h
  refine ⟨Z, ρ, B, _, S, h, fun b ρ' B' H' h1 x S' => ?_⟩
  cases b with
  | true =>
    rw [if_pos rfl] at h1 ⊢
    exact ⟨Z, ρ', B', P, S', h1, fun b ρ2 B2 H2 p x2 S2 => k b ρ2 B2 H2 p (x.trans x2) S2⟩
  | false =>
    rw [if_neg Bool.false_ne_true] at h1 ⊢
    exact k _ _ B' H' h1 x S'
theorem up_or {K : Fg} {t u : WT} {σ : L2.St} {H : Hp} {Q : Bool → Hp → Prop} (h : upT K as (wOrT t u) σ H Q) : tOr (upT K as t) (upT K as u) σ H Q := by
  obtain ⟨Z, ρ, B, P, S, h, k⟩ := h
  refine ⟨Z, ρ, B, _, S, h, fun b ρ' B' H' h1 x S' => ?_⟩
  cases b with
  | false =>
    rw [if_neg Bool.false_ne_true] at h1 ⊢
    exact ⟨Z, ρ', B', P, S', h1, fun b ρ2 B2 H2 p x2 S2 => k b ρ2 B2 H2 p (x.trans x2) S2⟩
  | true =>
    rw [if_pos rfl] at h1 ⊢
    exact k _ _ B' H' h1 x S'
theorem wand1 {t : WT} (h : PT X e (upT X.K as t)) : L2.PW X (.BoolOp .And [e] pos) (upT X.K as t) := pw_and1 h
theorem wor1 {t : WT} (h : PT X e (upT X.K as t)) : L2.PW X (.BoolOp .Or [e] pos) (upT X.K as t) := pw_or1 h
theorem wand {t u : WT} (h : PT X e (upT X.K as t)) (h2 : L2.PW X (.BoolOp .And (b :: es) pos) (upT X.K as u)) : L2.PW X (.BoolOp .And (e :: b :: es) pos) (upT X.K as (wAndT t u)) := pw_imp (pw_and h h2) fun _ _ _ h => up_and h
theorem wor {t u : WT} (h : PT X e (upT X.K as t)) (h2 : L2.PW X (.BoolOp .Or (b :: es) pos) (upT X.K as u)) : L2.PW X (.BoolOp .Or (e :: b :: es) pos) (upT X.K as (wOrT t u)) := pw_imp (pw_or h h2) fun _ _ _ h => up_or h
/-! ### and, or, not, if as values -/
def wAnd (t u : WE) : WE := fun ρ P => t ρ fun c ρ' => match c with
  | .d (.bool k) => if k = true then u ρ' P else P (.d (.bool false)) ρ'
  | _ => False
def wOr (t u : WE) : WE := fun ρ P => t ρ fun c ρ' => match c with
  | .d (.bool k) => if k = true then P (.d (.bool true)) ρ' else u ρ' P
  | _ => False
def wNot (t : WE) : WE := fun ρ P => t ρ fun c ρ' => match c with
  | .d (.bool k) => P (.d (.bool (!k))) ρ'
  | _ => False
theorem up_andV {K : Fg} {σ : L2.St} {H : Hp} {Q : VK} (h : up K as (wAnd t u) σ H Q) : tAndV (up K as t) (up K as u) σ H Q := by
  obtain ⟨Z, ρ, B, P, S, h, k⟩ := h
  refine ⟨Z, ρ, B, _, S, h, fun c ρ' v B' H' h1 x S' o1 => ?_⟩
  cases c with
  | loc i => exact h1.elim
  | d y =>
    cases y <;> (try (exact (show False from h1).elim))
    rename_i k2
    cases o1
    refine ⟨k2, rfl, ?_⟩
    cases k2 with
    | true =>
      rw [if_pos rfl]
      exact ⟨Z, ρ', B', P, S', h1, fun b ρ2 v2 B2 H2 p x2 S2 => k b ρ2 v2 B2 H2 p (x.trans x2) S2⟩
    | false =>
      rw [if_neg Bool.false_ne_true]
      exact k _ _ _ B' H' h1 x S' (.bl false)
theorem up_orV {K : Fg} {σ : L2.St} {H : Hp} {Q : VK} (h : up K as (wOr t u) σ H Q) : tOrV (up K as t) (up K as u) σ H Q := by
  obtain ⟨Z, ρ, B, P, S, h, k⟩ := h
  refine ⟨Z, ρ, B, _, S, h, fun c ρ' v B' H' h1 x S' o1 => ?_⟩
  cases c with
  | loc i => exact h1.elim
  | d y =>
    cases y <;> (try (exact (show False from h1).elim))
    rename_i k2
    cases o1
    refine ⟨k2, rfl, ?_⟩
    cases k2 with
    | false =>
      rw [if_neg Bool.false_ne_true]
      exact ⟨Z, ρ', B', P, S', h1, fun b ρ2 v2 B2 H2 p x2 S2 => k b ρ2 v2 B2 H2 p (x.trans x2) S2⟩
    | true =>
      rw [if_pos rfl]
      exact k _ _ _ B' H' h1 x S' (.bl true)
theorem vnot (h : PE X e (up X.K as t)) : PE X (.UnaryOp .Not e pos) (up X.K as (wNot t)) := by
  refine pe_imp (pe_not h) fun σ H Q ⟨Z, ρ, B, P, S, h, k⟩ => ⟨Z, ρ, B, _, S, h, fun c ρ' v B' H' h1 x S' o1 => ?_⟩
  cases c with
  | loc i => exact h1.elim
  | d y =>
    cases y <;> (try (exact (show False from h1).elim))
    rename_i k2
    cases o1
    exact ⟨k2, rfl, k _ _ _ B' H' h1 x S' (.bl _)⟩
def wIf (c : WT) (t u : WE) : WE := fun ρ P => c ρ fun b ρ' => if b = true then t ρ' P else u ρ' P
theorem vif {c : WT} {ec : Expr} (hc : PT X ec (upT X.K as c)) (ha : PE X a (up X.K as t)) (hb : PE X b (up X.K as u)) : PE X (.IfExp ec a b pos) (up X.K as (wIf c t u)) := by
  refine pe_imp (pe_ifExp hc ha hb) fun σ H Q ⟨Z, ρ, B, P, S, h, k⟩ => ⟨Z, ρ, B, _, S, h, fun b ρ' B' H' h1 x S' => ?_⟩
  cases b with
  | true =>
    rw [if_pos rfl] at h1 ⊢
    exact ⟨Z, ρ', B', P, S', h1, fun b ρ2 v2 B2 H2 p x2 S2 => k b ρ2 v2 B2 H2 p (x.trans x2) S2⟩
  | false =>
    rw [if_neg Bool.false_ne_true] at h1 ⊢
    exact ⟨Z, ρ', B', P, S', h1, fun b ρ2 v2 B2 H2 p x2 S2 => k b ρ2 v2 B2 H2 p (x.trans x2) S2⟩
/-! ### arguments, displays -/
def wNil : WA := fun ρ P => P [] ρ
def wCons (t : WE) (r : WA) : WA := fun ρ P => t ρ fun c ρ1 => r ρ1 fun cs ρ2 => P (c :: cs) ρ2
theorem anil : PA X [] (upA X.K as wNil) := pa_imp pa_nil fun σ H Q ⟨Z, ρ, B, P, S, h, k⟩ => k _ _ [] B H h (.refl B) S True.intro
theorem acons {r : WA} (ha : PE X e (up X.K as t)) (hr : PA X es (upA X.K as r)) (he : starEach (e :: es) X.env = (false, eval e X.env) :: starEach es X.env := by rfl) : PA X (e :: es) (upA X.K as (wCons t r)) := by
  refine pa_imp (pa_cons ha hr he) fun σ H Q ⟨Z, ρ, B, P, S, h, k⟩ => ⟨Z, ρ, B, _, S, h, fun c ρ1 v B1 H1 h1 x1 S1 o1 => ⟨Z, ρ1, B1, _, S1, h1, fun cs ρ2 vs B2 H2 h2 x2 S2 o2 => ?_⟩⟩
  exact k _ _ (v :: vs) B2 H2 h2 (x1.trans x2) S2 ⟨o1.ext x2, o2⟩
/-- all are data -/
def dats : List CV → Option (List D)
  | [] => some []
  | .d x :: r => (dats r).map (x :: ·)
  | .loc _ :: _ => none
theorem dats_ok {K : Fg} {σ : L2.St} {B : Hp} : ∀ {vs : List V} {cs : List CV} {ds : List D}, CvsOk K σ B vs cs → dats cs = some ds → DqAll K B vs ds
  | [], [], _, _, e => by
    cases e
    exact .nil
  | v :: vs, .d x :: cs, ds, h, e => by
    unfold dats at e
    cases q : dats cs with
    | none =>
      rw [q] at e
      cases e
    | some es =>
      rw [q] at e
      cases e
      exact .cons h.1 (dats_ok h.2 q)
  | _ :: _, .loc _ :: _, _, _, e => by cases e
  | [], _ :: _, _, h, _ => h.elim
  | _ :: _, [], _, h, _ => h.elim
def wTup (r : WA) : WE := fun ρ P => r ρ fun cs ρ' => ∃ ds, dats cs = some ds ∧ ds.length ≤ sizeLine ∧ P (.d (.tuple ds)) ρ'
def wLst (r : WA) : WN := fun ρ P => r ρ fun cs ρ' => ∃ ds, dats cs = some ds ∧ ds.length ≤ sizeLine ∧ P ds ρ'
theorem vtup {r : WA} {x1 : _} (h : PA X es (upA X.K as r)) : PE X (.Tuple es x1 pos) (up X.K as (wTup r)) := by
  refine pe_imp (pe_tup h) fun σ H Q ⟨Z, ρ, B, P, S, h, k⟩ => ⟨Z, ρ, B, _, S, h, fun cs ρ' vs B' H' h1 x S' o1 => ?_⟩
  obtain ⟨ds, e, z, q⟩ := h1
  have r := dats_ok o1 e
  have rl := r.len
  refine ⟨by omega, fun p hp => ?_⟩
  exact k _ _ _ _ _ q (x.trans (.new (S'.free hp))) (S'.al hp) (.tup (.inl (.inl upd_same)) (DqAll.ext (.new (S'.free hp)) r))
theorem vlst {r : WA} (h : PA X es (upA X.K as r)) : PE X (.List es pos) (upN X.K as (wLst r)) := by
  refine pe_imp (pe_lst h) fun σ H Q ⟨Z, ρ, B, P, S, h, k⟩ => ⟨Z, ρ, B, _, S, h, fun cs ρ' vs B' H' h1 x S' o1 => ?_⟩
  obtain ⟨ds, e, z, q⟩ := h1
  have r := dats_ok o1 e
  have rl := r.len
  exact ⟨by omega, fun p hp => k _ _ p vs B' H' q x S' hp r⟩
/-- a new list that nobody will change -/
def wStay (t : WN) : WE := fun ρ P => t ρ fun ds ρ' => P (.d (.list ds)) ρ'
theorem vstay {t : WN} (h : PE X e (upN X.K as t)) : PE X e (up X.K as (wStay t)) :=
  pe_imp h fun σ H Q ⟨Z, ρ, B, P, S, h, k⟩ => ⟨Z, ρ, B, _, S, h, fun ds ρ' p xs B' H' h1 x S' hp r => k _ _ _ _ _ h1 (x.trans (.new (S'.free hp))) (S'.al hp) (.lst (.inl (.inl upd_same)) (DqAll.ext (.new (S'.free hp)) r))⟩
/-! ### an item -/
theorem vix {r : R2} {o : DO} (hi : IxR X r) (hv : OpV X.K r o) (ha : PE X a (up X.K as t)) (hb : PE X b (up X.K as u)) (hs : PlainIx b := by exact fun _ _ => rfl) : PE X (.Subscript a b pos) (up X.K as (wOp o t u)) :=
  pe_imp (pe_ix hi ha hb hs) fun _ _ _ h => up_op hv h
end
end VL

end

/-! #### VG -/
section
set_option autoImplicit false
set_option maxRecDepth 100000
set_option maxHeartbeats 2000000
/-! statements by values -/
namespace VL
open PySem PySem.Spec PyProof.Rows L2
section
variable {X : Cx} {as : As} {a b c e : Expr} {es : List Expr} {t u : WE} {pos : Pos} {st : Stmt} {sts : List Stmt}
/-! ### and, or as values -/
theorem vone {op : BoolOp} (h : PE X e (up X.K as t)) : PE X (.BoolOp op [e] pos) (up X.K as t) := pe_one h
theorem vand (h : PE X e (up X.K as t)) (h2 : PE X (.BoolOp .And (b :: es) pos) (up X.K as u)) : PE X (.BoolOp .And (e :: b :: es) pos) (up X.K as (wAnd t u)) := pe_imp (pe_and h h2) fun _ _ _ h => up_andV h
theorem vor (h : PE X e (up X.K as t)) (h2 : PE X (.BoolOp .Or (b :: es) pos) (up X.K as u)) : PE X (.BoolOp .Or (e :: b :: es) pos) (up X.K as (wOr t u)) := pe_imp (pe_or h h2) fun _ _ _ h => up_orV h
/-- an own list is let stay from here on -/
def wFrz (i : Nat) : WE := fun ρ P => match ρ[i]? with
  | some (.dat d) => P (.d d) ρ
  | some (.lst _ ds) => P (.d (.list ds)) (ρ.set i (.dat (.list ds)))
  | _ => False
theorem vfrz (i : Nat) {x : Str} (hN : X.N[i]? = some x := by rfl) (hv : Vis X.env.scope x := by first | exact Or.inl rfl | exact Or.inr (Or.inl rfl) | exact Or.inr (Or.inr rfl)) (hd : (x == ("__debug__" : Str)) = false := by decide)
    (hcd : (x == ("__classdict__" : Str)) = false := by decide) : PE X (.Name x pos) (up X.K as (wFrz i)) := by
  refine pe_imp (pe_var hN hv hd hcd) fun σ H Q ⟨Z, ρ, B, P, S, h, k⟩ => ?_
  unfold wFrz at h
  cases q : ρ[i]? with
  | none => simp [q] at h
  | some c =>
    cases c with
    | un => simp [q] at h
    | dic kvs => simp [q] at h
    | dat d =>
      simp [q] at h
      obtain ⟨v, h1, h2⟩ := S.dat i d q
      exact ⟨v, h1, k _ _ v B H h (.refl B) S h2⟩
    | lst io ds =>
      simp [q] at h
      obtain ⟨p, h1, h2, xs, h3, h4⟩ := S.own i _ q rfl
      obtain ⟨B', e, S', eB⟩ := S.drop i
      have eB' := eB _ q rfl p h1
      have hd : Dq X.K B' (.ref p) (.list ds) := .lst (.inl (.inl (by rw [eB']; show (if p = p then H p else B p) = _; rw [if_pos rfl]; exact h3))) (DqAll.ext e h4)
      have S2 := S'.put hd
      have es : σ.set i (some (V.ref p)) = σ := by
        refine List.ext_getElem? fun j => ?_
        by_cases ij : i = j
        · subst ij
          have hl : i < σ.length := (List.getElem?_eq_some_iff.mp h1).1
          rw [st_set_same hl, h1]
        · rw [st_set ij]
      rw [es] at S2
      exact ⟨_, h1, k _ _ _ B' H h e S2 hd⟩
/-! ### blocks -/
def wSeq (t u : WS) : WS := fun w ρ => t { w with nx := fun ρ' => u w ρ' } ρ
def wNext : WS := fun w ρ => w.nx ρ
theorem Meets.seq {K : Fg} {Z B : Hp} {w : WEn} {E : Ends} {u : WS} (m : Meets K as Z B w E) : Meets K as Z B { w with nx := fun ρ => u w ρ } { E with nx := upS K as u E } where
  nx := fun ρ σ B' H' h x S => ⟨Z, ρ, B', w, S, h, m.ext x⟩
  rt := m.rt
  rn := m.rn
  bk := m.bk
  ct := m.ct
theorem snil : PSs X [] (upS X.K as wNext) := pss_imp pss_nil fun D σ H ⟨Z, ρ, B, w, S, h, m⟩ => m.nx ρ σ B H h (.refl B) S
theorem scons {t u : WS} (h1 : PS X st (upS X.K as t)) (h2 : PSs X sts (upS X.K as u)) : PSs X (st :: sts) (upS X.K as (wSeq t u)) :=
  pss_imp (pss_cons h1 h2) fun D σ H ⟨Z, ρ, B, w, S, h, m⟩ => ⟨Z, ρ, B, _, S, h, m.seq⟩
theorem sone {t : WS} (h1 : PS X st (upS X.K as t)) : PSs X [st] (upS X.K as t) := pss_one h1
def wNever : WS := fun _ _ => False
theorem snever : PS X st (upS X.K as wNever) := ps_imp ps_never fun D σ H ⟨Z, ρ, B, w, S, h, m⟩ => h
theorem ssnever : PSs X sts (upS X.K as wNever) := pss_imp pss_never fun D σ H ⟨Z, ρ, B, w, S, h, m⟩ => h
/-! ### targets -/
abbrev WG := D → En → (En → Prop) → Prop
/-- only the slots sl have changed -/
def Only (sl : List Nat) (σ σ' : L2.St) : Prop := σ'.length = σ.length ∧ ∀ j, j ∉ sl → σ'[j]? = σ[j]?
def GOk (K : Fg) (as : As) (t : TG) (g : WG) (sl : List Nat) : Prop := ∀ (Z : Hp) (ρ : En) (σ : L2.St) (B H : Hp) (v : V) (d : D) (P : En → Prop) (Q : L2.St → Hp → Prop), Sv K as Z ρ σ B H → Dq K B v d → g d ρ P → (∀ ρ' σ' B' H', P ρ' → ExT B B' → Sv K as Z ρ' σ' B' H' → Only sl σ σ' → Q σ' H') → t v σ H Q
structure GV (X : Cx) (as : As) (tg : Expr) (t : TG) (g : WG) (sl : List Nat) : Prop where
  pg : PG X tg t
  ok : GOk X.K as t g sl
def wSet (i : Nat) : WG := fun d ρ P => P (ρ.set i (.dat d))
theorem gset {i : Nat} {x : Str} (hN : X.N.Nodup) (hi : X.N[i]? = some x := by rfl) (hx : Loc X.env.scope x := by first | exact Or.inl rfl | exact Or.inr rfl) (hf : X.fn x = true ∨ X.env.scope.names.lookup x = some .local := by first | exact .inl rfl | exact .inr rfl | assumption) : GV X as (.Name x pos) (gName i) (wSet i) [i] :=
  ⟨pg_name hN hi hx hf, fun Z ρ σ B H v d P Q S hd h k => by
    obtain ⟨B', e, S', _⟩ := S.drop i
    exact k _ _ B' H h e (S'.put (Dq.ext e hd)) ⟨List.length_set, fun j hj => st_set fun z => hj (by rw [z]; exact List.mem_singleton.mpr rfl)⟩⟩
def wGs : List WG → List D → En → (En → Prop) → Prop
  | [], [], ρ, P => P ρ
  | g :: gs, d :: ds, ρ, P => g d ρ fun ρ' => wGs gs ds ρ' P
  | _, _, _, _ => False
def GsOk (K : Fg) (as : As) (t : TGs) (gs : List WG) (sl : List Nat) : Prop := ∀ (Z : Hp) (ρ : En) (σ : L2.St) (B H : Hp) (vs : List V) (ds : List D) (P : En → Prop) (Q : L2.St → Hp → Prop), Sv K as Z ρ σ B H → DqAll K B vs ds → wGs gs ds ρ P → (∀ ρ' σ' B' H', P ρ' → ExT B B' → Sv K as Z ρ' σ' B' H' → Only sl σ σ' → Q σ' H') → t vs σ H Q
structure GsV (X : Cx) (as : As) (tgs : List Expr) (t : TGs) (gs : List WG) (sl : List Nat) : Prop where
  pg : PGs X tgs t
  ok : GsOk X.K as t gs sl
theorem gnil : GsV X as [] gNil [] [] := ⟨pgs_nil, fun Z ρ σ B H vs ds P Q S hd h k => by
  cases hd with
  | nil => exact ⟨rfl, k _ _ B H h (.refl B) S ⟨rfl, fun _ _ => rfl⟩⟩
  | cons _ _ => exact h.elim⟩
theorem gcons {t : TG} {ts : TGs} {g : WG} {gs : List WG} {s1 s2 : List Nat} (h1 : GV X as e t g s1) (h2 : GsV X as es ts gs s2) (hs : (assignEach (e :: es) X.env).map (·.2) = assign e X.env :: (assignEach es X.env).map (·.2) := by rfl) : GsV X as (e :: es) (gCons t ts) (g :: gs) (s1 ++ s2) := by
  obtain ⟨p, f⟩ := h1
  obtain ⟨ps, fs⟩ := h2
  refine ⟨pgs_cons p ps hs, fun Z ρ σ B H vs ds P Q S hd h k => ?_⟩
  cases hd with
  | nil => exact h.elim
  | @cons v vr d dr hv hr =>
    refine ⟨v, vr, rfl, f Z ρ σ B H v d _ _ S hv h fun ρ' σ' B' H' h' x S' o1 => ?_⟩
    exact fs Z ρ' σ' B' H' vr dr P Q S' (DqAll.ext x hr) h' fun ρ2 σ2 B2 H2 p x2 S2 o2 => k ρ2 σ2 B2 H2 p (x.trans x2) S2 ⟨o2.1.trans o1.1, fun j hj => (o2.2 j fun z => hj (List.mem_append_right _ z)).trans (o1.2 j fun z => hj (List.mem_append_left _ z))⟩
def wGt (gs : List WG) : WG := fun d ρ P => match d with
  | .tuple ds => ds.length = gs.length ∧ wGs gs ds ρ P
  | _ => False
theorem gtup {ts : TGs} {gs : List WG} {sl : List Nat} {k : Nat} (hc : X.calm = true) (h : GsV X as es ts gs sl) (hn : (assignEach es X.env).length = gs.length := by rfl) (hst : (assignEach es X.env).findIdx? (·.1) = none := by rfl) : GV X as (.Tuple es k pos) (gTup X.K gs.length ts) (wGt gs) sl := by
  obtain ⟨ps, fs⟩ := h
  refine ⟨pg_tup hc ps hn hst, fun Z ρ σ B H v d P Q S hd h k => ?_⟩
  unfold wGt at h
  cases d <;> (try (exact (show False from h).elim))
  cases hd with
  | tup hq hr =>
    exact ⟨_, _, rfl, sqT_ext S.ext hq, hr.len.trans h.1, fs Z ρ σ B H _ _ P Q S hr h.2 k⟩
/-! ### assignments -/
def wAsg (t : WE) (g : WG) : WS := fun w ρ => t ρ fun c ρ' => match c with
  | .d x => g x ρ' w.nx
  | _ => False
theorem sset {i : Nat} {x : Str} {pos' : Pos} (hN : X.N.Nodup) (he : PE X e (up X.K as t)) (hi : X.N[i]? = some x := by rfl) (hx : Loc X.env.scope x := by first | exact Or.inl rfl | exact Or.inr rfl) (hs : swapsWith e (some (.Name x pos')) pos.line X.env = pure false := by rfl) (hf : X.fn x = true ∨ X.env.scope.names.lookup x = some .local := by first | exact .inl rfl | exact .inr rfl | assumption) :
    PS X (.Assign [.Name x pos'] e pos) (upS X.K as (wAsg t (wSet i))) := by
  refine ps_imp (ps_set hN hi hx he hs hf) fun D σ H ⟨Z, ρ, B, w, S, h, m⟩ => ⟨Z, ρ, B, _, S, h, fun c ρ' v B' H' h1 x S' o1 => ?_⟩
  cases c with
  | loc j => exact h1.elim
  | d y =>
    obtain ⟨B2, e2, S2, _⟩ := S'.drop i
    exact m.nx _ _ B2 H' h1 (x.trans e2) (S2.put (Dq.ext e2 o1))
theorem sasg {tg : Expr} {gt : TG} {g : WG} {sl : List Nat} (he : PE X e (up X.K as t)) (hg : GV X as tg gt g sl) (hs : swapsWithSole [tg] e pos.line X.env = pure false := by rfl) (hw : swappedStores [tg] e X.env = pure none := by rfl)
    (h1 : (assignEach [tg] X.env).map (·.2) = [assign tg X.env] := by rfl) : PS X (.Assign [tg] e pos) (upS X.K as (wAsg t g)) := by
  obtain ⟨p, f⟩ := hg
  refine ps_imp (ps_asg he p hs hw h1) fun D σ H ⟨Z, ρ, B, w, S, h, m⟩ => ⟨Z, ρ, B, _, S, h, fun c ρ' v B' H' h1 x S' o1 => ?_⟩
  cases c with
  | loc j => exact h1.elim
  | d y => exact f Z ρ' σ B' H' v y w.nx D.nx S' o1 h1 fun ρ2 σ2 B2 H2 p x2 S2 _ => m.nx ρ2 σ2 B2 H2 p (x.trans x2) S2
/-- x = a new list of the frame's own -/
def wNew (t : WN) (i : Nat) : WS := fun w ρ => t ρ fun ds ρ' => i < ρ'.length ∧ w.nx (ρ'.set i (.lst false ds))
theorem snew {t : WN} {i : Nat} {x : Str} {pos' : Pos} (hN : X.N.Nodup) (he : PE X e (upN X.K as t)) (hi : X.N[i]? = some x := by rfl) (hx : Loc X.env.scope x := by first | exact Or.inl rfl | exact Or.inr rfl) (hs : swapsWith e (some (.Name x pos')) pos.line X.env = pure false := by rfl) (hf : X.fn x = true ∨ X.env.scope.names.lookup x = some .local := by first | exact .inl rfl | exact .inr rfl | assumption) :
    PS X (.Assign [.Name x pos'] e pos) (upS X.K as (wNew t i)) := by
  refine ps_imp (ps_set hN hi hx he hs hf) fun D σ H ⟨Z, ρ, B, w, S, h, m⟩ => ⟨Z, ρ, B, _, S, h, fun ds ρ' p xs B' H' h1 x S' hp r => ?_⟩
  obtain ⟨B2, e2, S2, _⟩ := S'.drop i
  exact m.nx _ _ B2 _ h1.2 (x.trans e2) (S2.putOwn hp rfl (fun ds z => by cases z) h1.1 ⟨xs, upd_same, DqAll.ext e2 r⟩)
/-- a, b = e1, e2: both sides written -/
def wPar (i j : Nat) (r : WA) : WS := fun w ρ => r ρ fun cs ρ' => match cs with
  | [.d x, .d y] => w.nx ((ρ'.set i (.dat x)).set j (.dat y))
  | _ => False
theorem spar {i j : Nat} {x y : Str} {r : WA} {px py pt : Pos} {kt k2 pt2} (hc : X.calm = true) (hN : X.N.Nodup) (ha : PA X [a, b] (upA X.K as r)) (hw : swappedStores [.Tuple [.Name x px, .Name y py] kt pt] (.Tuple [a, b] k2 pt2) X.env = pure (some [x, y]) := by rfl) (hi : X.N[i]? = some x := by rfl) (hj : X.N[j]? = some y := by rfl) (hij : i ≠ j := by decide)
    (hx : X.env.scope.names.lookup x = some .local := by rfl) (hy : X.env.scope.names.lookup y = some .local := by rfl)
    (hs : swapsWithSole [.Tuple [.Name x px, .Name y py] kt pt] (.Tuple [a, b] k2 pt2) pos.line X.env = pure false := by rfl) :
    PS X (.Assign [.Tuple [.Name x px, .Name y py] kt pt] (.Tuple [a, b] k2 pt2) pos) (upS X.K as (wPar i j r)) := by
  refine ps_imp (ps_par hc hN hi hj hij hx hy ha hw hs) fun D σ H ⟨Z, ρ, B, w, S, h, m⟩ => ⟨Z, ρ, B, _, S, h, fun cs ρ' vs B' H' h1 xx S' o1 => ?_⟩
  match cs, vs, h1, o1 with
  | [.d z1, .d z2], [v1, v2], h1, o1 =>
    obtain ⟨B2, e2, S2, _⟩ := S'.drop i
    have S3 := S2.put (Dq.ext e2 o1.1)
    obtain ⟨B3, e3, S4, _⟩ := S3.drop j
    have o2 : Dq X.K B' v2 z2 := o1.2.1
    exact ⟨v1, v2, rfl, m.nx _ _ B3 H' h1 ((xx.trans e2).trans e3) (S4.put (Dq.ext (e2.trans e3) o2))⟩
  | [.d z1, .d z2], [], h1, o1 => exact o1.elim
  | [.d z1, .d z2], [_], h1, o1 => exact o1.2.elim
  | [.d z1, .d z2], _ :: _ :: _ :: _, h1, o1 => exact o1.2.2.elim
  | [.d _, .loc _], _, h1, _ => exact h1.elim
  | [.loc _, .d _], _, h1, _ => exact h1.elim
  | [.loc _, .loc _], _, h1, _ => exact h1.elim
  | [], _, h1, _ => exact h1.elim
  | [.d _], _, h1, _ => exact h1.elim
  | [.loc _], _, h1, _ => exact h1.elim
  | _ :: _ :: _ :: _, _, h1, _ =>
    split at h1
    · rename_i e
      cases e
    · exact h1.elim
/-- x op= e -/
def wAug (i : Nat) (o : DO) (t : WE) : WS := fun w ρ => match ρ[i]? with
  | some (.dat x) => t ρ fun c ρ' => ∃ y, der ρ' c = some y ∧ o x y fun d => w.nx (ρ'.set i (.dat d))
  | _ => False
theorem saug {i : Nat} {x : Str} {op : Operator} {ti : TIp} {o : DO} {pos' : Pos} (hN : X.N.Nodup) (he : PE X e (up X.K as t)) (ho : PIp X op ti) (hv : OpV X.K ti o) (hi : X.N[i]? = some x := by rfl) (hx : Loc X.env.scope x := by first | exact Or.inl rfl | exact Or.inr rfl) (hf : X.fn x = true ∨ X.env.scope.names.lookup x = some .local := by first | exact .inl rfl | exact .inr rfl | assumption) :
    PS X (.AugAssign (.Name x pos') op e pos) (upS X.K as (wAug i o t)) := by
  refine ps_imp (ps_aug hN hi hx he ho hf) fun D σ H ⟨Z, ρ, B, w, S, h, m⟩ => ?_
  unfold wAug at h
  cases q : ρ[i]? with
  | none => simp [q] at h
  | some c =>
    cases c with
    | un => simp [q] at h
    | dic kvs => simp [q] at h
    | lst io ds => simp [q] at h
    | dat d =>
      simp [q] at h
      obtain ⟨v, h1, h2⟩ := S.dat i d q
      refine ⟨v, h1, Z, ρ, B, _, S, h, fun c ρ' v2 B' H' hh xx S' o1 => ?_⟩
      obtain ⟨y, e1, h3⟩ := hh
      refine hv B' H' v v2 d y _ _ S'.subE (.dp (Dq.ext xx h2)) (rv_of S' o1 e1) h3 fun d' v' B2 H2 p al hd => ?_
      obtain ⟨S3, x3⟩ := S'.alc al
      obtain ⟨B4, e4, S4, _⟩ := S3.drop i
      exact m.nx _ _ B4 H2 p ((xx.trans x3).trans e4) (S4.put (Dq.ext e4 hd))
/-! ### expression statements, returns -/
def wDrop (t : WE) : WS := fun w ρ => t ρ fun _ ρ' => w.nx ρ'
theorem sdrop (he : PE X e (up X.K as t)) (hs : swapsWith e none pos.line X.env = pure false := by rfl) : PS X (.Expr e pos) (upS X.K as (wDrop t)) :=
  ps_imp (ps_expr he hs) fun D σ H ⟨Z, ρ, B, w, S, h, m⟩ => ⟨Z, ρ, B, _, S, h, fun c ρ' v B' H' h1 x S' o1 => m.nx ρ' σ B' H' h1 x S'⟩
def wRet (t : WE) : WS := fun w ρ => t ρ w.rt
theorem sret (he : PE X e (up X.K as t)) : PS X (.Return (some e) pos) (upS X.K as (wRet t)) :=
  ps_imp (ps_ret he) fun D σ H ⟨Z, ρ, B, w, S, h, m⟩ => ⟨Z, ρ, B, _, S, h, fun c ρ' v B' H' h1 x S' o1 => m.rt c ρ' σ v B' H' h1 x S' o1⟩
def wRetN (t : WN) : WS := fun w ρ => t ρ w.rn
theorem sretN {t : WN} (he : PE X e (upN X.K as t)) : PS X (.Return (some e) pos) (upS X.K as (wRetN t)) :=
  ps_imp (ps_ret he) fun D σ H ⟨Z, ρ, B, w, S, h, m⟩ => ⟨Z, ρ, B, _, S, h, fun ds ρ' p xs B' H' h1 x S' hp r => m.rn ds ρ' σ p xs B' H' h1 x S' hp r⟩
def wRet0 : WS := fun w ρ => w.rt (.d .none) ρ
theorem sret0 : PS X (.Return none pos) (upS X.K as wRet0) :=
  ps_imp ps_retN fun D σ H ⟨Z, ρ, B, w, S, h, m⟩ => m.rt _ ρ σ .non B H h (.refl B) S .non
def wIfS (c : WT) (t u : WS) : WS := fun w ρ => c ρ fun b ρ' => if b = true then t w ρ' else u w ρ'
theorem sif {c : WT} {t u : WS} {ec : Expr} {sa sb : List Stmt} (hc : PT X ec (upT X.K as c)) (ha : PSs X sa (upS X.K as t)) (hb : PSs X sb (upS X.K as u)) : PS X (.If ec sa sb pos) (upS X.K as (wIfS c t u)) := by
  refine ps_imp (ps_if hc ha hb) fun D σ H ⟨Z, ρ, B, w, S, h, m⟩ => ⟨Z, ρ, B, _, S, h, fun b ρ' B' H' h1 x S' => ?_⟩
  cases b with
  | true =>
    rw [if_pos rfl] at h1 ⊢
    exact ⟨Z, ρ', B', w, S', h1, m.ext x⟩
  | false =>
    rw [if_neg Bool.false_ne_true] at h1 ⊢
    exact ⟨Z, ρ', B', w, S', h1, m.ext x⟩
def wBrk : WS := fun w ρ => w.bk ρ
def wCnt : WS := fun w ρ => w.ct ρ
theorem sbrk : PS X (.Break pos) (upS X.K as wBrk) := ps_imp ps_break fun D σ H ⟨Z, ρ, B, w, S, h, m⟩ => m.bk ρ σ B H h (.refl B) S
theorem scnt : PS X (.Continue pos) (upS X.K as wCnt) := ps_imp ps_continue fun D σ H ⟨Z, ρ, B, w, S, h, m⟩ => m.ct ρ σ B H h (.refl B) S
theorem spass : PS X (.Pass pos) (upS X.K as wNext) := ps_imp ps_pass fun D σ H ⟨Z, ρ, B, w, S, h, m⟩ => m.nx ρ σ B H h (.refl B) S
/-! ### while -/
def wWhile (c : WT) (tb : WS) : WS := fun w ρ => ∃ W : Nat → En → Prop, (∃ m, W m ρ) ∧ ∀ m ρ, W m ρ → c ρ fun b ρ1 => if b = true then tb { w with nx := fun ρ' => ∃ m', m' < m ∧ W m' ρ', ct := fun ρ' => ∃ m', m' < m ∧ W m' ρ', bk := w.nx } ρ1 else w.nx ρ1
theorem swhile {c : WT} {tb : WS} {ec : Expr} {sa : List Stmt} (hp : PassesOwn (model X.prog X.w) X.A X.env X.xe) (hc : PT X ec (upT X.K as c)) (hb : PSs X sa (upS X.K as tb)) : PS X (.While ec sa [] pos) (upS X.K as (wWhile c tb)) := by
  refine ps_imp (ps_while hp hc hb) fun D σ H ⟨Z, ρ, B, w, S, h, m⟩ => ?_
  obtain ⟨W, ⟨m0, w0⟩, turn⟩ := h
  refine ⟨fun n σ H => ∃ ρ B', ExT B B' ∧ Sv X.K as Z ρ σ B' H ∧ W n ρ, ⟨m0, ρ, B, .refl B, S, w0⟩, fun n σ H ⟨ρ, B', x, S, hw⟩ => ?_⟩
  refine ⟨Z, ρ, B', _, S, turn n ρ hw, fun b ρ1 B1 H1 h1 x1 S1 => ?_⟩
  cases b with
  | true =>
    rw [if_pos rfl] at h1 ⊢
    refine ⟨fun σ H => ∃ m', m' < n ∧ ∃ ρ B', ExT B B' ∧ Sv X.K as Z ρ σ B' H ∧ W m' ρ, fun _ _ z => z, Z, ρ1, B1, _, S1, h1, ?_⟩
    have m1 := m.ext (x.trans x1)
    exact ⟨fun ρ2 σ2 B2 H2 ⟨m', l, hw'⟩ x2 S2 => ⟨m', l, ρ2, B2, (x.trans x1).trans x2, S2, hw'⟩, m1.rt, m1.rn, m1.nx, fun ρ2 σ2 B2 H2 ⟨m', l, hw'⟩ x2 S2 => ⟨m', l, ρ2, B2, (x.trans x1).trans x2, S2, hw'⟩⟩
  | false =>
    rw [if_neg Bool.false_ne_true] at h1 ⊢
    exact (m.ext (x.trans x1)).nx ρ1 σ B1 H1 h1 (.refl B1) S1
end
end VL

end

/-! #### VH -/
section
set_option autoImplicit false
set_option maxRecDepth 100000
set_option maxHeartbeats 2000000
/-! loops and comprehensions by values -/
namespace VL
open PySem PySem.Spec PyProof.Rows L2
/-- what J hands out are the data ds -/
structure Wk (K : Fg) (J : It) (B : Hp) (ds : List D) : Prop where
  go : ∀ (i : Nat) (B1 H : Hp), ExT B B1 → (∀ a o, B1 a = some o → H a = some o) → i < ds.length → J.go i H
  stop : ∀ (i : Nat) (B1 H : Hp), ExT B B1 → (∀ a o, B1 a = some o → H a = some o) → ds.length ≤ i → J.stop i H
  yld : ∀ (i : Nat) (B1 H : Hp) (x : V) (H' : Hp), ExT B B1 → (∀ a o, B1 a = some o → H a = some o) → i < ds.length → J.yld i H x H' → ∃ (d : D) (B2 : Hp), ds[i]? = some d ∧ Al B1 H B2 H' ∧ Dq K B2 x d
theorem Wk.ext {K : Fg} {J : It} {B B' : Hp} {ds : List D} (w : Wk K J B ds) (e : ExT B B') : Wk K J B' ds :=
  ⟨fun i B1 H x s l => w.go i B1 H (e.trans x) s l, fun i B1 H x s l => w.stop i B1 H (e.trans x) s l, fun i B1 H v H' x s l => w.yld i B1 H v H' (e.trans x) s l⟩
def upI (K : Fg) (as : As) (t : WN) : TI := fun σ H R => ∃ Z ρ B P, Sv K as Z ρ σ B H ∧ t ρ P ∧ ∀ ds ρ' B' H' J, P ds ρ' → ExT B B' → Sv K as Z ρ' σ B' H' → Wk K J B' ds → R J H'
section
variable {X : Cx} {as : As} {a b c e tg : Expr} {es : List Expr} {t u : WE} {pos : Pos} {st : Stmt} {sts : List Stmt}
theorem pi_imp {t u : TI} (h : PI X tg e t) (i : ∀ σ H R, u σ H R → t σ H R) : PI X tg e u := ⟨fun pins s σ H R I q => h.run pins s σ H R I (i σ H R q)⟩
/-- a list or a tuple is walked -/
def iSeq (K : Fg) (tl : TE) : TI := fun σ H R => tl σ H fun x H1 => ∃ a, x = .ref a ∧ (((∃ xs, SqL K H1 a xs) ∧ R (Itl K a) H1) ∨ ((∃ xs, SqT K H1 a xs) ∧ R (Itt K a) H1))
theorem pi_seq {l : Expr} {tl : TE} (hl : PE X l tl) : PI X tg l (iSeq X.K tl) := by
  refine ⟨fun pins s σ H R I h => ?_⟩
  refine thn (hl.run pins s σ H _ I h) fun v s1 ⟨x, H1, I1, r1, a, e, q1⟩ => ?_
  subst e
  cases r1
  have ok := I1.fpOk (b := s1.heap.objs.size) (Nat.le_refl _) (I1.hok.fresh (Nat.le_refl _))
  rcases q1 with ⟨⟨xs, hq⟩, q⟩ | ⟨⟨xs, hq⟩, q⟩
  · obtain ⟨its, rv, p, hz⟩ := I1.list hq
    refine wpAny_pyIter_list p.isList ⟨s1.heap.objs.size, [s1.heap.objs.size], _, _, H1, rfl, ?_, turn_list a _, ⟨_, Heap.get?_push_size _ rfl, rfl, rfl⟩, fun b hb => by
      obtain rfl : b = s1.heap.objs.size := by simpa using hb
      exact ok, q⟩
    exact I1.kept (t' := s1.toks) fun b o e => Heap.get?_push_of_some _ e
  · obtain ⟨its, rv, p, hz⟩ := I1.tuple hq
    refine wpAny_pyIter_tuple (show s1.heap.IsTuple a its.toArray from p) ⟨s1.heap.objs.size, [s1.heap.objs.size], _, _, H1, rfl, ?_, turn_tuple a _, ⟨_, Heap.get?_push_size _ rfl, rfl, rfl⟩, fun b hb => by
      obtain rfl : b = s1.heap.objs.size := by simpa using hb
      exact ok, q⟩
    exact I1.kept (t' := s1.toks) fun b o e => Heap.get?_push_of_some _ e
def wSeqOf (t : WE) : WN := fun ρ P => t ρ fun c ρ' => match c with
  | .d (.list ds) => P ds ρ'
  | .d (.tuple ds) => P ds ρ'
  | _ => False
theorem rd_sub {B B1 H : Hp} {a : Addr} {o : HO} (x : ExT B B1) (s : ∀ a o, B1 a = some o → H a = some o) (t : isTbl o = false) (h : Rd B a o) : Rd H a o := rd_ext (.of s) t (rd_ext x t h)
theorem wk_list {K : Fg} {B : Hp} {a : Addr} {xs : List V} {ds : List D} (h : SqL K B a xs) (r : DqAll K B xs ds) : Wk K (Itl K a) B ds where
  go := fun i B1 H x s l => by
    obtain ⟨v, h1, _⟩ := r.get (List.getElem?_eq_getElem l)
    exact ⟨xs, v, sqL_ext (.of s) (sqL_ext x h), h1⟩
  stop := fun i B1 H x s l => ⟨xs, sqL_ext (.of s) (sqL_ext x h), by rw [r.len]; exact l⟩
  yld := fun i B1 H v H' x s l y => by
    obtain ⟨rfl, f⟩ := y
    obtain ⟨d, h1, h2⟩ := r.getV (f xs (sqL_ext (.of s) (sqL_ext x h)))
    exact ⟨d, B1, h1, .no, Dq.ext x h2⟩
theorem wk_tup {K : Fg} {B : Hp} {a : Addr} {xs : List V} {ds : List D} (h : SqT K B a xs) (r : DqAll K B xs ds) : Wk K (Itt K a) B ds where
  go := fun i B1 H x s l => by
    obtain ⟨v, h1, _⟩ := r.get (List.getElem?_eq_getElem l)
    exact ⟨xs, v, sqT_ext (.of s) (sqT_ext x h), h1⟩
  stop := fun i B1 H x s l => ⟨xs, sqT_ext (.of s) (sqT_ext x h), by rw [r.len]; exact l⟩
  yld := fun i B1 H v H' x s l y => by
    obtain ⟨rfl, f⟩ := y
    obtain ⟨d, h1, h2⟩ := r.getV (f xs (sqT_ext (.of s) (sqT_ext x h)))
    exact ⟨d, B1, h1, .no, Dq.ext x h2⟩
theorem iseq (h : PE X e (up X.K as t)) : PI X tg e (upI X.K as (wSeqOf t)) := by
  refine pi_imp (pi_seq h) fun σ H R ⟨Z, ρ, B, P, S, h, k⟩ => ⟨Z, ρ, B, _, S, h, fun c ρ' v B' H' h1 x S' o1 => ?_⟩
  cases c with
  | loc i => exact h1.elim
  | d y =>
    cases y <;> (try (exact (show False from h1).elim))
    · rename_i ds
      cases o1 with
      | lst hq hr => exact ⟨_, rfl, .inl ⟨⟨_, sqL_ext S'.ext hq⟩, k _ _ B' H' _ h1 x S' (wk_list hq hr)⟩⟩
    · rename_i ds
      cases o1 with
      | tup hq hr => exact ⟨_, rfl, .inr ⟨⟨_, sqT_ext S'.ext hq⟩, k _ _ B' H' _ h1 x S' (wk_tup hq hr)⟩⟩
/-- lo, lo + 1, .. below hi -/
def rngD (lo hi : Int) : List D := (List.range (hi - lo).toNat).map fun (i : Nat) => PyData.int (lo + i)
theorem wk_rng {K : Fg} {B : Hp} {lo hi : Int} : Wk K (Itr lo (hi - lo).toNat) B (rngD lo hi) where
  go := fun i B1 H x s l => by
    show i < (hi - lo).toNat
    simpa [rngD] using l
  stop := fun i B1 H x s l => by
    show (hi - lo).toNat ≤ i
    simpa [rngD] using l
  yld := fun i B1 H v H' x s l y => by
    obtain ⟨rfl, rfl⟩ := y
    refine ⟨.int (lo + i), B1, ?_, .no, .int _⟩
    have l' : i < (hi - lo).toNat := by simpa [rngD] using l
    simp [rngD, l']
def Small (i : Int) : Prop := -(2 ^ 62) ≤ i ∧ i < 2 ^ 62
def wRng1 (r : WA) : WN := fun ρ P => r ρ fun cs ρ' => match cs with
  | [.d (.int j)] => Small j ∧ P (rngD 0 j) ρ'
  | _ => False
def wRng2 (r : WA) : WN := fun ρ P => r ρ fun cs ρ' => match cs with
  | [.d (.int i), .d (.int j)] => Small i ∧ Small j ∧ P (rngD i j) ρ'
  | _ => False
theorem cvs_two {K : Fg} {σ : L2.St} {B : Hp} {vs : List V} {c c' : CV} (h : CvsOk K σ B vs [c, c']) : ∃ v v', vs = [v, v'] ∧ CvOk K σ B v c ∧ CvOk K σ B v' c' := by
  cases vs with
  | nil => exact h.elim
  | cons v r =>
    obtain ⟨v2, rfl, h2⟩ := cvs_one h.2
    exact ⟨v, v2, rfl, h.1, h2⟩
theorem irng1 {r : WA} {p : Pos} (hm : X.mg "range" = none) (ha : PA X [a] (upA X.K as r)) (hg : Gl X "range" := by rfl) (hs : starEach [a] X.env = [(false, eval a X.env)] := by rfl) : PI X tg (.Call (.Name "range" p) [a] [] pos) (upI X.K as (wRng1 r)) := by
  refine pi_imp (pi_range1 hg hm ha hs) fun σ H R ⟨Z, ρ, B, P, S, h, k⟩ => ⟨Z, ρ, B, _, S, h, fun cs ρ' vs B' H' h1 x S' o1 => ?_⟩
  split at h1
  · rename_i j
    obtain ⟨v, rfl, o2⟩ := cvs_one o1
    cases o2
    refine ⟨j, rfl, h1.1.1, h1.1.2, ?_⟩
    have w := wk_rng (K := X.K) (B := B') (lo := 0) (hi := j)
    rw [Int.sub_zero] at w
    exact k _ _ B' H' _ h1.2 x S' w
  · exact h1.elim
theorem irng2 {r : WA} {p : Pos} (hm : X.mg "range" = none) (ha : PA X [a, b] (upA X.K as r)) (hg : Gl X "range" := by rfl) (hs : starEach [a, b] X.env = [(false, eval a X.env), (false, eval b X.env)] := by rfl) (hs2 : starEach [b] X.env = [(false, eval b X.env)] := by rfl) : PI X tg (.Call (.Name "range" p) [a, b] [] pos) (upI X.K as (wRng2 r)) := by
  refine pi_imp (pi_range2 hg hm ha hs hs2) fun σ H R ⟨Z, ρ, B, P, S, h, k⟩ => ⟨Z, ρ, B, _, S, h, fun cs ρ' vs B' H' h1 x S' o1 => ?_⟩
  split at h1
  · rename_i i j
    obtain ⟨v, v', rfl, o2, o3⟩ := cvs_two o1
    cases o2
    cases o3
    exact ⟨i, j, rfl, ⟨h1.1.1, h1.1.2, h1.2.1.1, h1.2.1.2⟩, k _ _ B' H' _ h1.2.2 x S' wk_rng⟩
  · exact h1.elim
/-! ### for -/
def wFor (wi : WN) (g : WG) (tb : WS) : WS := fun w ρ => wi ρ fun ds ρ1 => ∃ W : Nat → En → Prop, W 0 ρ1 ∧ (∀ i ρ d, W i ρ → ds[i]? = some d → g d ρ fun ρ2 => tb { w with nx := W (i + 1), ct := W (i + 1), bk := w.nx } ρ2) ∧ ∀ ρ, W ds.length ρ → w.nx ρ
theorem sfor {wi : WN} {gt : TG} {g : WG} {sl : List Nat} {tb : WS} {iter : Expr} (hc : X.calm = true) (hi : PI X tg iter (upI X.K as wi)) (hg : GV X as tg gt g sl) (hb : PSs X sts (upS X.K as tb)) (hp : PassesOwn (model X.prog X.w) X.A X.env X.xe) (hs : ∀ x, foldedSetIterable iter X.env x = pure x := by intro _; rfl) :
    PS X (.For tg iter sts [] pos) (upS X.K as (wFor wi g tb)) := by
  obtain ⟨pg, fg⟩ := hg
  refine ps_imp (ps_for hp hc hi pg hb hs) fun E σ H ⟨Z, ρ, B, w, S, h, m⟩ => ⟨Z, ρ, B, _, S, h, fun ds ρ1 B1 H1 J h1 x1 S1 wk => ?_⟩
  obtain ⟨W, w0, turn, fin⟩ := h1
  refine ⟨fun i n σ H => i + n = ds.length ∧ ∃ ρ B', ExT B1 B' ∧ Sv X.K as Z ρ σ B' H ∧ W i ρ, ⟨ds.length, by omega, ρ1, B1, .refl B1, S1, w0⟩, fun i n σ H ⟨hn, ρ, B', x, S, hw⟩ => ?_⟩
  by_cases l : i < ds.length
  · refine .inr ⟨wk.go i B' H x S.subE l, fun σ' H' => ∃ ρ B', ExT B1 B' ∧ Sv X.K as Z ρ σ' B' H' ∧ W (i + 1) ρ, fun σ' H' hN => ⟨n - 1, by omega, by omega, hN⟩, fun v H' y => ?_⟩
    obtain ⟨d, B2, hd, al, dq⟩ := wk.yld i B' H v H' x S.subE l y
    obtain ⟨S2, x2⟩ := S.alc al
    refine fg Z ρ σ B2 H' v d _ _ S2 dq (turn i ρ d hw hd) fun ρ3 σ3 B3 H3 h3 x3 S3 _ => ⟨Z, ρ3, B3, _, S3, h3, ?_⟩
    have xx : ExT B1 B3 := (x.trans x2).trans x3
    have m' := m.ext (x1.trans xx)
    exact ⟨fun ρ4 σ4 B4 H4 h4 x4 S4 => ⟨ρ4, B4, xx.trans x4, S4, h4⟩, m'.rt, m'.rn, m'.nx, fun ρ4 σ4 B4 H4 h4 x4 S4 => ⟨ρ4, B4, xx.trans x4, S4, h4⟩⟩
  · have e : i = ds.length := by omega
    subst e
    exact .inl ⟨wk.stop _ B' H x S.subE (Nat.le_refl _), (m.ext (x1.trans x)).nx ρ σ B' H (fin ρ hw) (.refl B') S⟩
end
/-! ### comprehensions -/
def wipeE (ρ : En) : List Nat → En
  | [] => ρ
  | v :: vs => (wipeE ρ vs).set v .un
section
variable {K : Fg} {as : As} {Z : Hp} {ρ : En} {σ σ' : L2.St} {B H : Hp}
/-- what stands in forgotten slots does not matter -/
theorem Sv.irr (S : Sv K as Z ρ σ B H) (hl : σ'.length = σ.length) (h : ∀ (i : Nat) (c : Cell), ρ[i]? = some c → c ≠ .un → σ'[i]? = σ[i]?) : Sv K as Z ρ σ' B H := by
  have on : ∀ {c : Cell}, VL.own c = true → c ≠ .un := fun h z => by rw [z] at h; cases h
  have ow : ∀ a, Ow ρ σ a ↔ Ow ρ σ' a := fun a => ⟨fun ⟨i, c, h1, h2, h3⟩ => ⟨i, c, h1, h2, by rw [h i c h1 (on h2)]; exact h3⟩, fun ⟨i, c, h1, h2, h3⟩ => ⟨i, c, h1, h2, by rw [← h i c h1 (on h2)]; exact h3⟩⟩
  refine ⟨S.len.trans hl.symm, fun i d e => ?_, fun i c e hc => ?_, fun i j ci cj p hi hj oi oj ei ej => ?_, fun a w wz => S.off a (fun z => w ((ow a).mp z)) wz, fun a o hz => ?_, fun i ds e => ?_, S.tab⟩
  · rw [h i _ e (fun z => by cases z)]
    exact S.dat i d e
  · rw [h i c e (on hc)]
    exact S.own i c e hc
  · rw [h i ci hi (on oi)] at ei
    rw [h j cj hj (on oj)] at ej
    exact S.one i j ci cj p hi hj oi oj ei ej
  · obtain ⟨h1, h2, h3, h4⟩ := S.hid a o hz
    exact ⟨h1, h2, fun z => h3 ((ow a).mpr z), h4⟩
  · rw [h i _ e (fun z => by cases z)]
    exact S.io i ds e
theorem wipeE_at : ∀ {vs : List Nat} {i : Nat} {c : Cell}, (wipeE ρ vs)[i]? = some c → c ≠ .un → i ∉ vs ∧ ρ[i]? = some c
  | [], i, c, h, _ => ⟨List.not_mem_nil, h⟩
  | v :: vs, i, c, h, n => by
    rcases env_set h with ⟨_, z, _⟩ | ⟨ne, z⟩
    · exact (n z).elim
    · obtain ⟨h1, h2⟩ := wipeE_at z n
      exact ⟨fun m => (List.mem_cons.mp m).elim (fun q => ne q.symm) h1, h2⟩
theorem wipe_at : ∀ {vs : List Nat} {i : Nat}, i ∉ vs → (wipe σ vs)[i]? = σ[i]?
  | [], _, _ => rfl
  | v :: vs, i, h => by
    show ((wipe σ vs).set v none)[i]? = σ[i]?
    rw [st_set fun z => h (by rw [z]; exact List.mem_cons_self), wipe_at fun z => h (List.mem_cons_of_mem _ z)]
theorem wipe_in : ∀ {vs : List Nat} {i : Nat}, i ∈ vs → i < σ.length → (wipe σ vs)[i]? = some none
  | v :: vs, i, h, l => by
    show ((wipe σ vs).set v none)[i]? = some none
    by_cases e : v = i
    · subst e
      exact st_set_same (by rw [wipe_length]; exact l)
    · rw [st_set e]
      exact wipe_in ((List.mem_cons.mp h).resolve_left fun z => e z.symm) l
theorem wipe_eq {vs : List Nat} (o : σ'.length = σ.length) (h : ∀ j, j ∉ vs → σ'[j]? = σ[j]?) : wipe σ' vs = wipe σ vs := by
  refine List.ext_getElem? fun j => ?_
  by_cases e : j ∈ vs
  · by_cases l : j < σ.length
    · rw [wipe_in e l, wipe_in e (o.symm ▸ l)]
    · rw [List.getElem?_eq_none (by rw [wipe_length]; omega), List.getElem?_eq_none (by rw [wipe_length]; omega)]
  · rw [wipe_at e, wipe_at e]
    exact h j e
theorem Sv.wipeB (S : Sv K as Z ρ σ B H) : ∀ (vs : List Nat), ∃ B', ExT B B' ∧ Sv K as Z (wipeE ρ vs) σ B' H
  | [] => ⟨B, .refl B, S⟩
  | v :: vs => by
    obtain ⟨B1, e1, S1⟩ := Sv.wipeB S vs
    obtain ⟨B2, e2, S2, _⟩ := S1.drop v
    exact ⟨B2, e1.trans e2, S2⟩
/-- the slots vs are forgotten; what stands in them does not matter -/
theorem Sv.wiped (S : Sv K as Z ρ σ B H) (vs : List Nat) (h : wipe σ vs = wipe σ' vs) : ∃ B', ExT B B' ∧ Sv K as Z (wipeE ρ vs) σ' B' H := by
  obtain ⟨B1, e1, S1⟩ := S.wipeB vs
  have hl : σ'.length = σ.length := by
    have := congrArg List.length h
    rw [wipe_length, wipe_length] at this
    exact this.symm
  refine ⟨B1, e1, S1.irr hl fun i c e n => ?_⟩
  have ni := (wipeE_at e n).1
  rw [← wipe_at (σ := σ') ni, ← h, wipe_at ni]
theorem wipe_wipe {σ : L2.St} {vs : List Nat} : wipe (wipe σ vs) vs = wipe σ vs := wipe_eq (wipe_length _ _) fun _ h => wipe_at h
/-- a list nobody sees -/
theorem Sv.hide (S : Sv K as Z ρ σ B H) {p : Addr} {xs : List V} (h : H p = none) : Sv K as (upd Z p (.lst xs)) ρ σ B (upd H p (.lst xs)) := by
  have np : ∀ a, Ow ρ σ a → a ≠ p := fun a w z => S.nOw h (z ▸ w)
  refine ⟨S.len, S.dat, fun i c e hc => ?_, S.one, fun a w wz => ?_, fun a o hz => ?_, S.io, S.tab⟩
  · obtain ⟨q, h1, h2, h3⟩ := S.own i c e hc
    exact ⟨q, h1, h2, h3.ext (.refl B) (upd_ne (np q ⟨i, c, e, hc, h1⟩))⟩
  · have na : a ≠ p := fun z => by rw [z, upd_same] at wz; cases wz
    rw [upd_ne na] at wz ⊢
    exact S.off a w wz
  · by_cases z : a = p
    · rw [z, upd_same] at hz
      cases hz
      rw [z]
      exact ⟨upd_same, S.free h, S.nOw h, .inl ⟨xs, rfl⟩⟩
    · rw [upd_ne z] at hz ⊢
      exact S.hid a o hz
/-- a dict nobody sees -/
theorem Sv.hideD (S : Sv K as Z ρ σ B H) {p : Addr} {kvs : List (Key × V)} (h : H p = none) : Sv K as (upd Z p (.dK kvs)) ρ σ B (upd H p (.dK kvs)) := by
  have np : ∀ a, Ow ρ σ a → a ≠ p := fun a w z => S.nOw h (z ▸ w)
  refine ⟨S.len, S.dat, fun i c e hc => ?_, S.one, fun a w wz => ?_, fun a o hz => ?_, S.io, S.tab⟩
  · obtain ⟨q, h1, h2, h3⟩ := S.own i c e hc
    exact ⟨q, h1, h2, h3.ext (.refl B) (upd_ne (np q ⟨i, c, e, hc, h1⟩))⟩
  · have na : a ≠ p := fun z => by rw [z, upd_same] at wz; cases wz
    rw [upd_ne na] at wz ⊢
    exact S.off a w wz
  · by_cases z : a = p
    · rw [z, upd_same] at hz
      cases hz
      rw [z]
      exact ⟨upd_same, S.free h, S.nOw h, .inr ⟨kvs, rfl⟩⟩
    · rw [upd_ne z] at hz ⊢
      exact S.hid a o hz
theorem Sv.rehide {p : Addr} {xs ys : List V} (S : Sv K as (upd Z p (.lst xs)) ρ σ B H) : H p = some (.lst xs) ∧ Sv K as (upd Z p (.lst ys)) ρ σ B (upd H p (.lst ys)) := by
  obtain ⟨k1, k2, k3, _⟩ := S.hid p _ upd_same
  have np : ∀ a, Ow ρ σ a → a ≠ p := fun a w z => k3 (z ▸ w)
  refine ⟨k1, S.len, S.dat, fun i c e hc => ?_, S.one, fun a w wz => ?_, fun a o hz => ?_, S.io, S.tab⟩
  · obtain ⟨q, h1, h2, h3⟩ := S.own i c e hc
    exact ⟨q, h1, h2, h3.ext (.refl B) (upd_ne (np q ⟨i, c, e, hc, h1⟩))⟩
  · have na : a ≠ p := fun z => by rw [z, upd_same] at wz; cases wz
    rw [upd_ne na] at wz ⊢
    exact S.off a w (by rw [upd_ne na]; exact wz)
  · by_cases z : a = p
    · rw [z, upd_same] at hz
      cases hz
      rw [z]
      exact ⟨upd_same, k2, k3, .inl ⟨ys, rfl⟩⟩
    · rw [upd_ne z] at hz ⊢
      exact S.hid a o (by rw [upd_ne z]; exact hz)
theorem Sv.unhide {p : Addr} {o : HO} (S : Sv K as (upd Z p o) ρ σ B H) (hz : Z p = none) : ∃ H0, Sv K as Z ρ σ B H0 ∧ H0 p = none ∧ H = upd H0 p o := by
  obtain ⟨k1, k2, k3, _⟩ := S.hid p _ upd_same
  have np : ∀ a, Ow ρ σ a → a ≠ p := fun a w z => k3 (z ▸ w)
  refine ⟨fun a => if a = p then none else H a, ⟨S.len, S.dat, fun i c e hc => ?_, S.one, fun a w wz => ?_, fun a o hz2 => ?_, S.io, S.tab⟩, if_pos rfl, ?_⟩
  · obtain ⟨q, h1, h2, h3⟩ := S.own i c e hc
    exact ⟨q, h1, h2, h3.ext (.refl B) (if_neg (np q ⟨i, c, e, hc, h1⟩))⟩
  · show (if a = p then none else H a) = B a
    by_cases z : a = p
    · rw [if_pos z, z, k2]
    · rw [if_neg z]
      exact S.off a w (by rw [upd_ne z]; exact wz)
  · have na : a ≠ p := fun z => by rw [z, hz] at hz2; cases hz2
    obtain ⟨h1, h2, h3, h4⟩ := S.hid a o (by rw [upd_ne na]; exact hz2)
    exact ⟨(if_neg na).trans h1, h2, h3, h4⟩
  · funext a
    by_cases z : a = p
    · rw [z, upd_same, k1]
    · rw [upd_ne z]
      exact (if_neg z).symm
end
def wYes : WT := fun ρ P => P true ρ
def wLc (wi : WN) (g : WG) (tt : WT) (te : WE) (vs : List Nat) : WN := fun ρ P => wi ρ fun ds ρ1 => ∃ W : Nat → List D → En → Prop, W 0 [] (wipeE ρ1 vs) ∧
  (∀ i acc ρ d, W i acc ρ → ds[i]? = some d → g d ρ fun ρ2 => tt ρ2 fun b ρ3 => if b = true then te ρ3 fun c ρ4 => ∃ y, c = .d y ∧ acc.length < sizeLine ∧ W (i + 1) (acc ++ [y]) (wipeE ρ4 vs) else W (i + 1) acc (wipeE ρ3 vs)) ∧
  ∀ acc ρ, W ds.length acc ρ → P acc ρ
theorem up_lc {K : Fg} {as : As} {wi : WN} {g : WG} {gt : TG} {sl vs : List Nat} {tt : WT} {te : WE} {tt' : TT} (htt : ∀ σ H Q, upT K as tt σ H Q → tt' σ H Q)
    (fg : GOk K as gt g sl)
    (hsl : ∀ j ∈ sl, j ∈ vs) {σ : L2.St} {H : Hp} {Q : VK} (h : upN K as (wLc wi g tt te vs) σ H Q) : tLc (upI K as wi) gt tt' (up K as te) vs σ H Q := by
  obtain ⟨Z, ρ, B, P, S, h, k⟩ := h
  refine ⟨Z, ρ, B, _, S, h, fun ds ρ1 B1 H1 J h1 x1 S1 wk D hD => ?_⟩
  obtain ⟨W, w0, turn, fin⟩ := h1
  have hZ : Z D = none := S1.nZ hD
  obtain ⟨B2, x2, S2⟩ := (S1.hide (xs := []) hD).wiped vs (σ' := wipe σ vs) wipe_wipe.symm
  refine ⟨fun i n H => i + n = ds.length ∧ ∃ ρ B' acc xs, (∃ ρ0, ρ = wipeE ρ0 vs) ∧ ExT B1 B' ∧ Sv K as (upd Z D (.lst xs)) ρ (wipe σ vs) B' H ∧ DqAll K B' xs acc ∧ W i acc ρ, ⟨ds.length, by omega, _, B2, [], [], ⟨_, rfl⟩, x2, S2, .nil, w0⟩, fun i n H ⟨hn, ρ, B', acc, xs, ⟨ρ0, eρ⟩, x, S, r, hw⟩ => ?_⟩
  by_cases l : i < ds.length
  · refine .inr ⟨wk.go i B' H x S.subE l, fun H' => ∃ ρ B' acc xs, (∃ ρ0, ρ = wipeE ρ0 vs) ∧ ExT B1 B' ∧ Sv K as (upd Z D (.lst xs)) ρ (wipe σ vs) B' H' ∧ DqAll K B' xs acc ∧ W (i + 1) acc ρ, fun H' hN => ⟨n - 1, by omega, by omega, hN⟩, fun v H' y => ?_⟩
    obtain ⟨d, B3, hd, al, dq⟩ := wk.yld i B' H v H' x S.subE l y
    obtain ⟨S3, x3⟩ := S.alc al
    refine fg _ ρ _ B3 H' v d _ _ S3 dq (turn i acc ρ d hw hd) fun ρ4 σ4 B4 H4 h4 x4 S4 o4 => ?_
    have weq : wipe σ4 vs = wipe σ vs := (wipe_eq o4.1 fun j hj => o4.2 j fun z => hj (hsl j z)).trans wipe_wipe
    refine ⟨weq, htt _ _ _ ⟨_, ρ4, B4, _, S4, h4, fun b ρ5 B5 H5 h5 x5 S5 => ?_⟩⟩
    have xx : ExT B' B5 := (x3.trans x4).trans x5
    cases b with
    | true =>
      rw [if_pos rfl] at h5
      refine iteT ?_
      refine ⟨_, ρ5, B5, _, S5, h5, fun c ρ6 v6 B6 H6 h6 x6 S6 o6 => ?_⟩
      obtain ⟨y, rfl, hz, hW⟩ := h6
      have o6' : Dq K B6 v6 y := o6
      have r6 := DqAll.ext (xx.trans x6) r
      obtain ⟨e6, S7⟩ := S6.rehide (ys := xs ++ [v6])
      obtain ⟨B8, x8, S8⟩ := S7.wiped vs (σ' := wipe σ vs) (weq.trans wipe_wipe.symm)
      have rl := r.len
      exact ⟨xs, e6, by omega, _, B8, acc ++ [y], xs ++ [v6], ⟨_, rfl⟩, ((x.trans xx).trans x6).trans x8, S8, DqAll.ext x8 (DqAll.app r6 (.cons o6' .nil)), hW⟩
    | false =>
      rw [if_neg Bool.false_ne_true] at h5
      refine iteF ?_
      obtain ⟨B8, x8, S8⟩ := S5.wiped vs (σ' := wipe σ vs) (weq.trans wipe_wipe.symm)
      exact ⟨_, B8, acc, xs, ⟨_, rfl⟩, (x.trans xx).trans x8, S8, DqAll.ext (xx.trans x8) r, h5⟩
  · have e : i = ds.length := by omega
    subst e
    refine .inl ⟨wk.stop _ B' H x S.subE (Nat.le_refl _), ?_⟩
    have S8 : Sv K as (upd Z D (.lst xs)) ρ σ B' H := S.irr (by rw [wipe_length]) fun i c e n => by
      rw [eρ] at e
      rw [wipe_at (wipeE_at e n).1]
    obtain ⟨H0, S9, z9, e9⟩ := S8.unhide hZ
    rw [e9]
    exact k acc ρ D xs B' H0 (fin acc ρ hw) (x1.trans x) S9 z9 r
section
variable {X : Cx} {as : As} {elt iter tg : Expr} {pos : Pos}
/-- the tests of a comprehension -/
theorem tsnil : PTs X [] (upT X.K as wYes) := ⟨fun pins s σ H Q I ⟨Z, ρ, B, P, S, h, k⟩ => pts_nil.run pins s σ H Q I (k _ _ B H h (.refl B) S)⟩
theorem tsone {c : Expr} {t : WT} (h : PT X c (upT X.K as t)) : PTs X [c] (upT X.K as t) := pts_one h
/-- the target of a comprehension -/
def gU (K : Fg) (as : As) (g : WG) (sl : List Nat) : TG := fun v σ H Q => ∃ Z ρ B d P, Sv K as Z ρ σ B H ∧ Dq K B v d ∧ g d ρ P ∧ ∀ ρ' σ' B' H', P ρ' → ExT B B' → Sv K as Z ρ' σ' B' H' → Only sl σ σ' → Q σ' H'
theorem gup {t : TG} {g : WG} {sl : List Nat} (h : GV X as tg t g sl) : PG X tg (gU X.K as g sl) := ⟨fun pins s σ H v u Q I rv ⟨Z, ρ, B, d, P, S, hd, h1, k⟩ => h.pg.run pins s σ H v u Q I rv (h.ok Z ρ σ B H v d P Q S hd h1 k)⟩
theorem gU_ok {K : Fg} {g : WG} {sl : List Nat} : GOk K as (gU K as g sl) g sl := fun Z ρ σ B H v d P Q S hd h k => ⟨Z, ρ, B, d, P, S, hd, h, k⟩
/-- [elt for tg in iter if ..] -/
theorem vlc {ifs : List Expr} {scope : Scope} {wi : WN} {g : WG} {sl : List Nat} {tt : WT} {te : WE} (vs : List (Str × Nat)) (hc : X.calm = true) (hN : X.N.Nodup) (hi : PI X tg iter (upI X.K as wi))
    (hg : ∀ (s : Shared) (H : Hp) (C : Addr) (cl : List (Str × Addr)) (fp : List Addr), PG (X.blk s H scope (compEnvC scope cl C X.env) fp) tg (gU X.K as g sl)) (ht : ∀ (s : Shared) (H : Hp) (C : Addr) (cl : List (Str × Addr)) (fp : List Addr), PTs (X.blk s H scope (compEnvC scope cl C X.env) fp) ifs (upT X.K as tt))
    (he : ∀ (s : Shared) (H : Hp) (C : Addr) (cl : List (Str × Addr)) (fp : List Addr), PE (X.blk s H scope (compEnvC scope cl C X.env) fp) elt (up X.K as te)) (ok : BlkOk X.N X.env.scope scope vs) (hsl : ∀ j ∈ sl, j ∈ vs.map (·.2)) (hs : ∀ x, foldedSetIterable iter X.env x = pure x := by intro _; rfl) :
    PE X (.ListComp elt [⟨tg, iter, ifs, 0⟩] scope pos) (upN X.K as (wLc wi g tt te (vs.map (·.2)))) :=
  pe_imp (pe_lc hc hN hi ok hg ht he hs) fun σ H Q h => up_lc (fun _ _ _ h => h) gU_ok hsl h
/-- y = [elt for tg in iter if ..], a list of the frame's own -/
theorem snewLc {ifs : List Expr} {scope : Scope} {wi : WN} {g : WG} {sl : List Nat} {tt : WT} {te : WE} {i : Nat} {y : Str} {py spos : Pos} (vs : List (Str × Nat)) (hc : X.calm = true) (hN : X.N.Nodup)
    (hsw : swapsWith (.ListComp elt [⟨tg, iter, ifs, 0⟩] scope pos) (some (.Name y py)) spos.line X.env = pure true) (hi : PI X tg iter (upI X.K as wi))
    (hg : ∀ (s : Shared) (H : Hp) (C : Addr) (cl : List (Str × Addr)) (fp : List Addr), PG (X.blk s H scope (compEnvC scope cl C X.env) fp) tg (gU X.K as g sl)) (ht : ∀ (s : Shared) (H : Hp) (C : Addr) (cl : List (Str × Addr)) (fp : List Addr), PTs (X.blk s H scope (compEnvC scope cl C X.env) fp) ifs (upT X.K as tt))
    (he : ∀ (s : Shared) (H : Hp) (C : Addr) (cl : List (Str × Addr)) (fp : List Addr), PE (X.blk s H scope (compEnvC scope cl C X.env) fp) elt (up X.K as te)) (ok : BlkOk X.N X.env.scope scope vs) (hsl : ∀ j ∈ sl, j ∈ vs.map (·.2)) (hy : X.N[i]? = some y := by rfl) (hyl : X.env.scope.names.lookup y = some .local := by rfl) (hs : ∀ x, foldedSetIterable iter X.env x = pure x := by intro _; rfl) :
    PS X (.Assign [.Name y py] (.ListComp elt [⟨tg, iter, ifs, 0⟩] scope pos) spos) (upS X.K as (wNew (wLc wi g tt te (vs.map (·.2))) i)) := by
  refine ps_imp (ps_setLc hc hN hy hyl hsw hi ok hg ht he hs) fun E σ H ⟨Z, ρ, B, w, S, h, m⟩ => ?_
  refine up_lc (fun _ _ _ h => h) gU_ok hsl ⟨Z, ρ, B, _, S, h, fun ds ρ' p xs B' H' h1 x S' hp r => ?_⟩
  obtain ⟨B2, e2, S2, _⟩ := S'.drop i
  exact m.nx _ _ B2 _ h1.2 (x.trans e2) (S2.putOwn hp rfl (fun ds z => by cases z) h1.1 ⟨xs, upd_same, DqAll.ext e2 r⟩)
end
end VL

end

/-! #### VI -/
section
set_option autoImplicit false
set_option maxRecDepth 100000
set_option maxHeartbeats 2000000
/-! defs by values -/
namespace VL
open PySem PySem.Spec PyProof.Rows L2
/-- what a def hands back: data, or a new list -/
inductive RV where
  | d (x : D) | new (ds : List D)
abbrev Spec := En → (RV → En → Prop) → Prop
def noH : Hp := fun _ => none
/-- the promise: the arguments' cells, what is handed back and the cells behind it -/
def spV (K : Fg) (ts : List Addr) (n : Nat) (S : Spec) : Sp := fun vs H Q _ => vs.length = n ∧ ∃ ρ B P, Sv K (vs.map some, ts) noH ρ (vs.map some) B H ∧ S ρ P ∧
  (∀ x ρ' v B' H', P (.d x) ρ' → ExT B B' → Sv K (vs.map some, ts) noH ρ' (vs.map some) B' H' → Dq K B' v x → Q v H') ∧
  ∀ ds ρ' p xs B' H', P (.new ds) ρ' → ExT B B' → Sv K (vs.map some, ts) noH ρ' (vs.map some) B' H' → H' p = none → DqAll K B' xs ds → Q (.ref p) (upd H' p (.lst xs))
section
variable {K : Fg} {as : As} {Z : Hp} {ρ : En} {σ σ' : L2.St} {B H : Hp}
/-- an own list is handed over -/
theorem Sv.pull (S : Sv K as Z ρ σ B H) {i : Nat} {io : Bool} {ds : List D} (h : ρ[i]? = some (.lst io ds)) :
    ∃ p xs H0, σ[i]? = some (some (V.ref p)) ∧ Sv K as Z (ρ.set i .un) σ B H0 ∧ H0 p = none ∧ H = upd H0 p (.lst xs) ∧ DqAll K B xs ds := by
  obtain ⟨p, h1, h2, xs, h3, h4⟩ := S.own i _ h rfl
  have key : ∀ (j : Nat) (c : Cell), (ρ.set i .un)[j]? = some c → VL.own c = true → i ≠ j ∧ ρ[j]? = some c := fun j c e hc => by
    rcases env_set e with ⟨_, z, _⟩ | z
    · rw [z] at hc
      cases hc
    · exact z
  have np : ∀ a, Ow (ρ.set i .un) σ a → a ≠ p := fun a ⟨j, c, y1, y2, y3⟩ z => by
    obtain ⟨n, y⟩ := key j c y1 y2
    exact n (S.one i j _ c p h y rfl y2 h1 (by rw [← z]; exact y3))
  refine ⟨p, xs, fun a => if a = p then none else H a, h1, ⟨by rw [List.length_set]; exact S.len, fun j d e => ?_, fun j c e hc => ?_, fun j k cj ck r hj hk oj ok ej ek => ?_, fun a w wz => ?_, fun a o hz => ?_, fun j ds e => ?_, S.tab⟩, if_pos rfl, ?_, h4⟩
  · rcases env_set e with ⟨_, z, _⟩ | ⟨_, z⟩
    · cases z
    · exact S.dat j d z
  · obtain ⟨n, z⟩ := key j c e hc
    obtain ⟨q, a1, a2, a3⟩ := S.own j c z hc
    exact ⟨q, a1, a2, a3.ext (.refl B) (if_neg (np q ⟨j, c, e, hc, a1⟩))⟩
  · exact S.one j k cj ck r (key j cj hj oj).2 (key k ck hk ok).2 oj ok ej ek
  · show (if a = p then none else H a) = B a
    by_cases z : a = p
    · rw [if_pos z, z, h2]
    · rw [if_neg z]
      refine S.off a (fun ⟨j, c, y1, y2, y3⟩ => w ⟨j, c, ?_, y2, y3⟩) wz
      have ne : i ≠ j := fun y => by
        rw [← y, h1] at y3
        cases y3
        exact z rfl
      rw [List.getElem?_set_ne ne]
      exact y1
  · obtain ⟨a1, a2, a3, a4⟩ := S.hid a o hz
    have na : a ≠ p := fun z => a3 ⟨i, _, h, rfl, by rw [z]; exact h1⟩
    exact ⟨(if_neg na).trans a1, a2, fun ⟨j, c, y1, y2, y3⟩ => a3 ⟨j, c, (key j c y1 y2).2, y2, y3⟩, a4⟩
  · rcases env_set e with ⟨_, z, _⟩ | ⟨_, z⟩
    · cases z
    · exact S.io j ds z
  · funext a
    by_cases z : a = p
    · rw [z, upd_same, h3]
    · rw [upd_ne z]
      exact (if_neg z).symm
/-- the cells of the first n slots behind a call: the caller's lists -/
def keepC : Option Cell → Cell
  | some (.lst true ds) => .lst true ds
  | _ => .un
def retE (n : Nat) (ρ : En) : En := (List.range n).map fun i => keepC ρ[i]?
def loseC (n i : Nat) : Option Cell → Bool
  | some (.lst true _) => decide (n ≤ i)
  | _ => true
def lose (n : Nat) (ρ : En) : List Nat := (List.range ρ.length).filter fun i => loseC n i ρ[i]?
theorem retE_at {n i : Nat} {c : Cell} (h : (retE n ρ)[i]? = some c) (hc : c ≠ .un) : i < n ∧ ∃ ds, c = .lst true ds ∧ ρ[i]? = some (.lst true ds) := by
  unfold retE at h
  rw [List.getElem?_map] at h
  cases e : (List.range n)[i]? with
  | none =>
    rw [e] at h
    cases h
  | some j =>
    rw [e] at h
    have l := (List.getElem?_eq_some_iff.mp e).1
    rw [List.length_range] at l
    have ej : j = i := by
      rw [List.getElem?_range l] at e
      exact (Option.some.inj e).symm
    subst ej
    have h' : keepC ρ[j]? = c := Option.some.inj h
    unfold keepC at h'
    split at h'
    · rename_i ds q
      exact ⟨l, ds, h'.symm, q⟩
    · exact (hc h'.symm).elim
theorem retE_of {n i : Nat} {ds : List D} (l : i < n) (h : ρ[i]? = some (.lst true ds)) : (retE n ρ)[i]? = some (.lst true ds) := by
  unfold retE
  rw [List.getElem?_map, List.getElem?_range l]
  show some (keepC ρ[i]?) = some _
  rw [h]
  rfl
theorem wipeE_out : ∀ {vs : List Nat} {i : Nat}, i ∉ vs → (wipeE ρ vs)[i]? = ρ[i]?
  | [], _, _ => rfl
  | v :: vs, i, h => by
    show ((wipeE ρ vs).set v .un)[i]? = ρ[i]?
    rw [List.getElem?_set_ne fun z => h (by rw [z]; exact List.mem_cons_self)]
    exact wipeE_out fun z => h (List.mem_cons_of_mem _ z)
theorem Sv.back (S : Sv K as Z ρ σ B H) (n : Nat) (hn : n ≤ as.1.length) : ∃ B', ExT B B' ∧ Sv K (as.1.take n, as.2) Z (retE n ρ) (as.1.take n) B' H := by
  obtain ⟨B1, e1, S1⟩ := S.wipeB (lose n ρ)
  have kept : ∀ (i : Nat) (ds : List D), i < n → ρ[i]? = some (.lst true ds) → (wipeE ρ (lose n ρ))[i]? = some (.lst true ds) := fun i ds l h => by
    rw [wipeE_out, h]
    intro m
    have := (List.mem_filter.mp m).2
    rw [h] at this
    have := of_decide_eq_true this
    omega
  have only : ∀ (i : Nat) (c : Cell), (wipeE ρ (lose n ρ))[i]? = some c → c ≠ .un → i < n ∧ ∃ ds, c = .lst true ds ∧ ρ[i]? = some (.lst true ds) := fun i c h hc => by
    obtain ⟨h1, h2⟩ := wipeE_at h hc
    have l : i < ρ.length := (List.getElem?_eq_some_iff.mp h2).1
    have nm : ¬ loseC n i ρ[i]? = true := fun z => h1 (List.mem_filter.mpr ⟨List.mem_range.mpr l, z⟩)
    rw [h2] at nm
    cases c with
    | lst io ds =>
      cases io with
      | true =>
        refine ⟨?_, ds, rfl, h2⟩
        have nm' : ¬ decide (n ≤ i) = true := nm
        rw [decide_eq_true_eq] at nm'
        omega
      | false => exact (nm rfl).elim
    | un => exact (hc rfl).elim
    | dat d => exact (nm rfl).elim
    | dic kvs => exact (nm rfl).elim
  have tk : ∀ {i : Nat}, i < n → (as.1.take n)[i]? = as.1[i]? := fun l => List.getElem?_take_of_lt l
  have on : ∀ {c : Cell}, VL.own c = true → c ≠ .un := fun h z => by rw [z] at h; cases h
  have ow : ∀ a, Ow (retE n ρ) (as.1.take n) a ↔ Ow (wipeE ρ (lose n ρ)) σ a := fun a => by
    constructor
    · intro ⟨i, c, h1, h2, h3⟩
      obtain ⟨l, ds, rfl, q⟩ := retE_at h1 (on h2)
      exact ⟨i, _, kept i ds l q, rfl, by rw [S.io i ds q, ← tk l]; exact h3⟩
    · intro ⟨i, c, h1, h2, h3⟩
      obtain ⟨l, ds, rfl, q⟩ := only i c h1 (on h2)
      exact ⟨i, _, retE_of l q, rfl, by rw [tk l, ← S.io i ds q]; exact h3⟩
  refine ⟨B1, e1, ⟨by simp [retE, hn], fun i d h => ?_, fun i c h hc => ?_, fun i j ci cj p hi hj oi oj ei ej => ?_, fun a w wz => S1.off a (fun z => w ((ow a).mpr z)) wz, fun a o hz => ?_, fun i ds h => rfl, S1.tab⟩⟩
  · obtain ⟨_, ds, z, _⟩ := retE_at h (fun z => by cases z)
    cases z
  · obtain ⟨l, ds, rfl, q⟩ := retE_at h (on hc)
    obtain ⟨p, a1, a2, a3⟩ := S1.own i _ (kept i ds l q) rfl
    exact ⟨p, by rw [tk l, ← S.io i ds q]; exact a1, a2, a3⟩
  · obtain ⟨l1, d1, rfl, q1⟩ := retE_at hi (on oi)
    obtain ⟨l2, d2, rfl, q2⟩ := retE_at hj (on oj)
    exact S.one i j _ _ p q1 q2 rfl rfl (by rw [S.io i d1 q1, ← tk l1]; exact ei) (by rw [S.io j d2 q2, ← tk l2]; exact ej)
  · obtain ⟨h1, h2, h3, h4⟩ := S1.hid a o hz
    exact ⟨h1, h2, fun z => h3 ((ow a).mp z), h4⟩
/-- a frame at its start: the parameters, then slots without a value -/
theorem Sv.begin {ts : List Addr} {vs : List V} (S : Sv K (vs.map some, ts) Z ρ (vs.map some) B H) (m : Nat) : Sv K (vs.map some ++ List.replicate m none, ts) Z (ρ ++ List.replicate m .un) (vs.map some ++ List.replicate m none) B H := by
  have hl := S.len
  have lo : ∀ (i : Nat) (c : Cell), (ρ ++ List.replicate m .un)[i]? = some c → c ≠ .un → i < ρ.length ∧ ρ[i]? = some c := fun i c h n => by
    by_cases l : i < ρ.length
    · rw [List.getElem?_append_left l] at h
      exact ⟨l, h⟩
    · rw [List.getElem?_append_right (by omega), List.getElem?_replicate] at h
      split at h
      · exact (n (Option.some.inj h).symm).elim
      · cases h
  have at_ : ∀ {i : Nat}, i < ρ.length → (vs.map some ++ List.replicate m none)[i]? = (vs.map some)[i]? := fun l => List.getElem?_append_left (by omega)
  have on : ∀ {c : Cell}, VL.own c = true → c ≠ .un := fun h z => by rw [z] at h; cases h
  have ow : ∀ a, Ow (ρ ++ List.replicate m .un) (vs.map some ++ List.replicate m none) a ↔ Ow ρ (vs.map some) a := fun a => by
    constructor
    · intro ⟨i, c, h1, h2, h3⟩
      obtain ⟨l, q⟩ := lo i c h1 (on h2)
      exact ⟨i, c, q, h2, by rw [← at_ l]; exact h3⟩
    · intro ⟨i, c, h1, h2, h3⟩
      have l : i < ρ.length := (List.getElem?_eq_some_iff.mp h1).1
      exact ⟨i, c, by rw [List.getElem?_append_left l]; exact h1, h2, by rw [at_ l]; exact h3⟩
  refine ⟨by simpa using hl, fun i d h => ?_, fun i c h hc => ?_, fun i j ci cj p hi hj oi oj ei ej => ?_, fun a w wz => S.off a (fun z => w ((ow a).mpr z)) wz, fun a o hz => ?_, fun i ds h => rfl, S.tab⟩
  · obtain ⟨l, q⟩ := lo i _ h (fun z => by cases z)
    rw [at_ l]
    exact S.dat i d q
  · obtain ⟨l, q⟩ := lo i _ h (on hc)
    rw [at_ l]
    exact S.own i c q hc
  · obtain ⟨l1, q1⟩ := lo i _ hi (on oi)
    obtain ⟨l2, q2⟩ := lo j _ hj (on oj)
    rw [at_ l1] at ei
    rw [at_ l2] at ej
    exact S.one i j ci cj p q1 q2 oi oj ei ej
  · obtain ⟨h1, h2, h3, h4⟩ := S.hid a o hz
    exact ⟨h1, h2, fun z => h3 ((ow a).mp z), h4⟩
end
/-! ### a def keeps its promise -/
/-- what a body's ends mean to its caller; n parameters -/
def endsV (n : Nat) (P : RV → En → Prop) : WEn where
  nx := fun ρ => P (.d .none) (retE n ρ)
  rt := fun c ρ => match c with
    | .d x => P (.d x) (retE n ρ)
    | .loc i => match ρ[i]? with
      | some (.lst false ds) => P (.new ds) (retE n (ρ.set i .un))
      | _ => False
  rn := fun ds ρ => P (.new ds) (retE n ρ)
section
variable {P : Program} {w : World} {K : Fg} {mg : Str → Option Value} {base : Heap}
theorem fnV {x qual : Str} {st : Stmt} {f : Addr} {fd : FuncData} {N ps : List Str} {k n : Nat} {t : WS} {S : Spec} {ts : List Addr} (F : Fun K x qual st f fd) (Sc : FnScope N ps (defScope st)) (hn : ps.length = n) (hN : n ≤ N.length)
    (hbody : ∀ (cdv : Value) (A : Around) (outer : List PySem.Env) (s : Shared) (H : Hp) (E : XK) (as : List (Option V)), Room k (A.deeper (envOfC qual (defScope st) s.heap.objs.size f cdv)) →
      PSs (cxOf CX0 P w K mg base N qual (defScope st) f cdv A outer s H E).nox (defBody st) (upS K (as, ts) t))
    (hS : ∀ ρ Q, S ρ Q → t (endsV n Q) (ρ ++ List.replicate (N.length - n) .un)) : FnOk P w K mg base CX0 (k + 1) f fd ps (spV K ts n S) := by
  refine F.ok Sc (fun vs H Q E h => h.1.trans hn.symm) (fun cdv A outer s H vs Q E hr h => ?_)
  obtain ⟨hl, ρ, B, R, Sv0, hs, kd, kn⟩ := h
  have start_eq : start N vs = vs.map some ++ List.replicate (N.length - n) none := by rw [← hl]; rfl
  refine ⟨_, hbody cdv A outer s H E (start N vs) hr, ?_⟩
  have S1 : Sv K (start N vs, ts) noH (ρ ++ List.replicate (N.length - n) .un) (start N vs) B H := by
    rw [start_eq]
    exact Sv0.begin _
  have asl : n ≤ (start N vs).length := by
    rw [start_eq, List.length_append, List.length_map]
    omega
  have ast : (start N vs).take n = vs.map some := by
    rw [start_eq, List.take_append_of_le_length (by rw [List.length_map]; omega), List.take_of_length_le (by rw [List.length_map]; omega)]
  refine ⟨noH, _, B, endsV n R, S1, hS ρ R hs, ⟨fun ρ' σ' B' H' h1 x1 S' => ?_, fun c ρ' σ' v B' H' h1 x1 S' o1 => ?_, fun ds ρ' σ' p xs B' H' h1 x1 S' hp r => ?_, fun _ _ _ _ h1 _ _ => h1.elim, fun _ _ _ _ h1 _ _ => h1.elim⟩⟩
  · obtain ⟨B2, e2, S2⟩ := S'.back n asl
    rw [show (start N vs, ts).1.take n = vs.map some from ast] at S2
    exact kd .none _ .non B2 H' h1 (x1.trans e2) S2 .non
  · cases c with
    | d y =>
      obtain ⟨B2, e2, S2⟩ := S'.back n asl
      rw [show (start N vs, ts).1.take n = vs.map some from ast] at S2
      exact kd y _ v B2 H' h1 (x1.trans e2) S2 (Dq.ext e2 o1)
    | loc i =>
      unfold endsV at h1
      dsimp only at h1
      split at h1
      · rename_i ds q
        obtain ⟨p, xs, H0, a1, S2, a2, a3, a4⟩ := S'.pull q
        have e := a1.symm.trans o1
        cases e
        obtain ⟨B2, e2, S3⟩ := S2.back n asl
        rw [show (start N vs, ts).1.take n = vs.map some from ast] at S3
        rw [a3]
        exact kn ds _ p xs B2 H0 h1 (x1.trans e2) S3 a2 (DqAll.ext e2 a4)
      · exact h1.elim
  · obtain ⟨B2, e2, S2⟩ := S'.back n asl
    rw [show (start N vs, ts).1.take n = vs.map some from ast] at S2
    exact kn ds _ p xs B2 H' h1 (x1.trans e2) S2 hp (DqAll.ext e2 r)
end
end VL

end

/-! #### VJ -/
section
set_option autoImplicit false
set_option maxRecDepth 100000
set_option maxHeartbeats 2000000
/-! calls by values -/
namespace VL
open PySem PySem.Spec PyProof.Rows L2
section
variable {K : Fg} {as : As} {Z : Hp} {ρ : En} {σ : L2.St} {B H : Hp}
theorem dats_map {K : Fg} {ts : List Addr} {B : Hp} {vs : List V} {ds : List D} (r : DqAll K B vs ds) (tb : ∀ P ∈ ts, TabG B P) : Sv K (vs.map some, ts) noH (ds.map .dat) (vs.map some) B B := by
  have no : ∀ (i : Nat) (c : Cell), (ds.map Cell.dat)[i]? = some c → own c = true → False := fun i c h hc => by
    rw [List.getElem?_map] at h
    cases e : ds[i]? with
    | none =>
      rw [e] at h
      cases h
    | some d =>
      rw [e] at h
      cases h
      cases hc
  refine ⟨by rw [List.length_map, List.length_map, r.len], fun i d h => ?_, fun i c h hc => (no i c h hc).elim, fun i j ci cj p hi hj oi oj ei ej => (no i ci hi oi).elim, fun a w wz => rfl, fun a o hz => (by cases hz), fun i ds h => rfl, tb⟩
  rw [List.getElem?_map] at h
  cases e : ds[i]? with
  | none =>
    rw [e] at h
    cases h
  | some d' =>
    rw [e] at h
    cases h
    obtain ⟨v, h1, h2⟩ := r.get e
    exact ⟨v, by rw [List.getElem?_map, h1]; rfl, h2⟩
theorem dats_map1 {K : Fg} {ts : List Addr} {B : Hp} {p : Addr} {vs xs : List V} {ds es : List D} (hp : B p = none) (r1 : DqAll K B xs es) (r : DqAll K B vs ds) (tb : ∀ P ∈ ts, TabG B P) : Sv K ((V.ref p :: vs).map some, ts) noH (.lst true es :: ds.map .dat) ((V.ref p :: vs).map some) B (upd B p (.lst xs)) := by
  have S := dats_map (ts := ts) r tb
  have ow : ∀ a, Ow (.lst true es :: ds.map .dat) ((V.ref p :: vs).map some) a → a = p := fun a ⟨i, c, h1, h2, h3⟩ => by
    cases i with
    | zero =>
      have e : some (some (V.ref p)) = some (some (V.ref a)) := h3
      cases e
      rfl
    | succ i =>
      have h1' : (ds.map Cell.dat)[i]? = some c := h1
      rw [List.getElem?_map] at h1'
      cases e : ds[i]? with
      | none =>
        rw [e] at h1'
        cases h1'
      | some d =>
        rw [e] at h1'
        cases h1'
        cases h2
  have pow : Ow (.lst true es :: ds.map .dat) ((V.ref p :: vs).map some) p := ⟨0, _, rfl, rfl, rfl⟩
  have zero : ∀ (i : Nat) (c : Cell), (Cell.lst true es :: ds.map Cell.dat)[i]? = some c → own c = true → i = 0 := fun i c h hc => by
    cases i with
    | zero => rfl
    | succ i =>
      have h' : (ds.map Cell.dat)[i]? = some c := h
      rw [List.getElem?_map] at h'
      cases e : ds[i]? with
      | none =>
        rw [e] at h'
        cases h'
      | some d =>
        rw [e] at h'
        cases h'
        cases hc
  refine ⟨by simp [r.len], fun i d h => ?_, fun i c h hc => ?_, fun i j ci cj q hi hj oi oj ei ej => ?_, fun a w wz => upd_ne fun z => w (z ▸ pow), fun a o hz => (by cases hz), fun i ds h => rfl, tb⟩
  · cases i with
    | zero => cases h
    | succ i => exact S.dat i d h
  · obtain rfl := zero i c h hc
    cases h
    exact ⟨p, rfl, hp, xs, upd_same, r1⟩
  · rw [zero i ci hi oi, zero j cj hj oj]
theorem own_kind {p : Addr} : ∀ {c : Cell}, OwnAt K B H p c → (∃ xs, H p = some (.lst xs)) ∨ ∃ kvs, H p = some (.dK kvs)
  | .lst _ _, ⟨xs, h, _⟩ => .inl ⟨xs, h⟩
  | .dic _, ⟨vs, h, _⟩ => .inr ⟨vs, h⟩
theorem Sv.part (S : Sv K as Z ρ σ B H) : Part (fun a => Ow ρ σ a ∨ Z a ≠ none) H B where
  own := fun a w => by
    rcases w with w | w
    · refine ⟨(S.ow w).1, ?_⟩
      obtain ⟨i, c, h1, h2, h3⟩ := w
      obtain ⟨p, q1, q2, q3⟩ := S.own i c h1 h2
      rw [h3] at q1
      cases q1
      exact own_kind q3
    · cases e : Z a with
      | none => exact (w e).elim
      | some o =>
        obtain ⟨h1, h2, h3, h4⟩ := S.hid a o e
        rcases h4 with ⟨xs, rfl⟩ | ⟨kvs, rfl⟩
        · exact ⟨h2, .inl ⟨xs, h1⟩⟩
        · exact ⟨h2, .inr ⟨kvs, h1⟩⟩
  off := fun a w => S.off a (fun z => w (.inl z)) (by
    cases e : Z a with
    | none => rfl
    | some o => exact (w (.inr (by rw [e]; exact fun z => by cases z))).elim)
/-- behind a call that was shown data alone -/
theorem Sv.called {H' : Hp} (S : Sv K as Z ρ σ B H) (e : ExT B H') (hW : ∀ a, (Ow ρ σ a ∨ Z a ≠ none) → H' a = none) : Sv K as Z ρ σ H' (ovl (fun a => Ow ρ σ a ∨ Z a ≠ none) H H') :=
  S.grow e (fun a w => ⟨hW a w, ovl_in w⟩) fun a w wz => ovl_out fun z => z.elim w fun z => z wz
/-- behind a call that was shown the own list of slot i besides -/
theorem Sv.called1 {H' : Hp} {i : Nat} {io : Bool} {p : Addr} {es es' : List D} {ys : List V} {B' : Hp} (S : Sv K as Z ρ σ B H) (hi : ρ[i]? = some (.lst io es)) (hp : σ[i]? = some (some (V.ref p))) (e : ExT B B') (s : ∀ a o, B' a = some o → H' a = some o) (hb : B' p = none) (h1 : H' p = some (.lst ys)) (h2 : DqAll K B' ys es')
    (hW : ∀ a, ((Ow ρ σ a ∧ a ≠ p) ∨ Z a ≠ none) → H' a = none) : ExT B' (fun a => if a = p then none else H' a) ∧ Sv K as Z (ρ.set i (.lst io es')) σ (fun a => if a = p then none else H' a) (ovl (fun a => (Ow ρ σ a ∧ a ≠ p) ∨ Z a ≠ none) H H') := by
  have x1 : ExT B' (fun a => if a = p then none else H' a) := .of fun a o h => by
    have na : a ≠ p := fun z => by rw [z, hb] at h; cases h
    exact (if_neg na).trans (s a o h)
  refine ⟨x1, ?_⟩
  have x := e.trans x1
  have hil : i < ρ.length := (List.getElem?_eq_some_iff.mp hi).1
  obtain ⟨p', q1, q2, q3⟩ := S.own i _ hi rfl
  rw [hp] at q1
  cases q1
  have powp : Ow ρ σ p := ⟨i, _, hi, rfl, hp⟩
  have Zp : Z p = none := by
    cases z : Z p with
    | none => rfl
    | some o => exact ((S.hid p o z).2.2.1 powp).elim
  have nWp : ¬ ((Ow ρ σ p ∧ p ≠ p) ∨ Z p ≠ none) := fun z => z.elim (fun z => z.2 rfl) fun z => z Zp
  have ot : ∀ (j : Nat) (cj : Cell) (r : Addr), i ≠ j → ρ[j]? = some cj → VL.own cj = true → σ[j]? = some (some (V.ref r)) → r ≠ p := fun j cj r ne h h2 h3 z => ne (S.one i j _ cj p hi h rfl h2 hp (by rw [← z]; exact h3))
  have sameOw : ∀ a, Ow (ρ.set i (.lst io es')) σ a ↔ Ow ρ σ a := fun a => by
    constructor
    · intro ⟨j, c, y1, y2, y3⟩
      rcases env_set y1 with ⟨y, z, _⟩ | ⟨ne, z⟩
      · exact ⟨i, _, hi, rfl, by rw [y]; exact y3⟩
      · exact ⟨j, c, z, y2, y3⟩
    · intro ⟨j, c, y1, y2, y3⟩
      by_cases ij : i = j
      · subst ij
        exact ⟨i, .lst io es', by simp [hil], rfl, y3⟩
      · exact ⟨j, c, by rw [List.getElem?_set_ne ij]; exact y1, y2, y3⟩
  refine ⟨by rw [List.length_set]; exact S.len, fun j d h => ?_, fun j c h hc => ?_, fun j k cj ck r hj hk oj ok ej ek => ?_, fun a w wz => ?_, fun a o hz => ?_, fun j ds h => ?_, fun P h => x.tabs P (S.tab P h)⟩
  · rcases env_set h with ⟨_, z, _⟩ | ⟨_, z⟩
    · cases z
    · obtain ⟨v, a1, a2⟩ := S.dat j d z
      exact ⟨v, a1, Dq.ext x a2⟩
  · rcases env_set h with ⟨y, z, _⟩ | ⟨ne, z⟩
    · subst y
      subst z
      exact ⟨p, hp, if_pos rfl, ys, (ovl_out nWp).trans h1, DqAll.ext x1 h2⟩
    · obtain ⟨r, a1, a2, a3⟩ := S.own j c z hc
      have np := ot j c r ne z hc a1
      have w : (Ow ρ σ r ∧ r ≠ p) ∨ Z r ≠ none := .inl ⟨⟨j, c, z, hc, a1⟩, np⟩
      exact ⟨r, a1, (if_neg np).trans (hW r w), a3.ext x (ovl_in w)⟩
  · rcases env_set hj with ⟨y1, z1, l1⟩ | ⟨n1, z1⟩
    · rcases env_set hk with ⟨y2, z2, l2⟩ | ⟨n2, z2⟩
      · exact y1.symm.trans y2
      · rw [← y1, hp] at ej
        cases ej
        exact (ot k ck p n2 z2 ok ek rfl).elim
    · rcases env_set hk with ⟨y2, z2, l2⟩ | ⟨n2, z2⟩
      · rw [← y2, hp] at ek
        cases ek
        exact (ot j cj p n1 z1 oj ej rfl).elim
      · exact S.one j k cj ck r z1 z2 oj ok ej ek
  · have w' : ¬ Ow ρ σ a := fun z => w ((sameOw a).mpr z)
    have na : a ≠ p := fun z => w' (z ▸ powp)
    rw [ovl_out fun z => z.elim (fun z => w' z.1) fun z => z wz]
    exact (if_neg na).symm
  · obtain ⟨a1, a2, a3, a4⟩ := S.hid a o hz
    have w : (Ow ρ σ a ∧ a ≠ p) ∨ Z a ≠ none := .inr (by rw [hz]; exact fun z => by cases z)
    have na : a ≠ p := fun z => a3 (z ▸ powp)
    exact ⟨(ovl_in w).trans a1, (if_neg na).trans (hW a w), fun z => a3 ((sameOw a).mp z), a4⟩
  · rcases env_set h with ⟨y, z, _⟩ | ⟨_, z⟩
    · subst y
      cases z
      exact S.io i es hi
    · exact S.io j ds z
end
def wCall (n : Nat) (S : Spec) (r : WA) : WE := fun ρ P => r ρ fun cs ρ1 => ∃ ds, dats cs = some ds ∧ ds.length = n ∧ S (ds.map .dat) fun rv _ => match rv with
  | .d x => P (.d x) ρ1
  | .new es => P (.d (.list es)) ρ1
def wCallN (n : Nat) (S : Spec) (r : WA) : WN := fun ρ P => r ρ fun cs ρ1 => ∃ ds, dats cs = some ds ∧ ds.length = n ∧ S (ds.map .dat) fun rv _ => match rv with
  | .d _ => False
  | .new es => P es ρ1
/-- the own list of slot i first, then data -/
def ioA : List CV → Option (Nat × List D)
  | .loc i :: r => (dats r).map (i, ·)
  | _ => none
def wCallIo (n : Nat) (S : Spec) (r : WA) : WE := fun ρ P => r ρ fun cs ρ1 => ∃ i ds io xs, ioA cs = some (i, ds) ∧ ds.length + 1 = n ∧ ρ1[i]? = some (.lst io xs) ∧ S (.lst true xs :: ds.map .dat) fun rv ρr => ∃ xs', ρr[0]? = some (.lst true xs') ∧ match rv with
  | .d x => P (.d x) (ρ1.set i (.lst io xs'))
  | .new es => P (.d (.list es)) (ρ1.set i (.lst io xs'))
def wCallIoN (n : Nat) (S : Spec) (r : WA) : WN := fun ρ P => r ρ fun cs ρ1 => ∃ i ds io xs, ioA cs = some (i, ds) ∧ ds.length + 1 = n ∧ ρ1[i]? = some (.lst io xs) ∧ S (.lst true xs :: ds.map .dat) fun rv ρr => ∃ xs', ρr[0]? = some (.lst true xs') ∧ match rv with
  | .d _ => False
  | .new es => P es (ρ1.set i (.lst io xs'))
section
variable {X : Cx} {as : As} {k n : Nat} {f : Addr} {fd : FuncData} {ps : List Str} {S : Spec} {x : Str} {p pos : Pos} {e : Expr} {es : List Expr} {r : WA}
theorem up_call {K : Fg} {σ : L2.St} {H : Hp} {Q : VK} (h : up K as (wCall n S r) σ H Q) : tCallP (spV K as.2 n S) (upA K as r) σ H Q := by
  obtain ⟨Z, ρ, B, P, S0, h, kk⟩ := h
  refine ⟨Z, ρ, B, _, S0, h, fun cs ρ1 vs B1 H1 h1 x1 S1 o1 => ?_⟩
  obtain ⟨ds, e1, e2, hs⟩ := h1
  have r := dats_ok o1 e1
  refine ⟨_, B1, S1.part, by rw [r.len]; exact e2, _, B1, _, dats_map r S1.tab, hs, fun y ρ' v B' H' q x2 S2 dq hW => ?_, fun fs ρ' pp xs B' H' q x2 S2 hp dq hW => ?_⟩
  · have x3 : ExT B1 H' := x2.trans S2.ext
    exact kk _ _ v H' _ q (x1.trans x3) (S1.called x3 hW) (Dq.ext S2.ext dq)
  · have x4 : ExT B' (upd H' pp (.lst xs)) := S2.ext.trans (.new hp)
    have x3 : ExT B1 (upd H' pp (.lst xs)) := x2.trans x4
    exact kk _ _ _ _ _ q (x1.trans x3) (S1.called x3 hW) (.lst (.inl (.inl upd_same)) (DqAll.ext x4 dq))
theorem ovl_upd {W : Addr → Prop} {H B : Hp} {p : Addr} {o : HO} (h : ¬ W p) : ovl W H (upd B p o) = upd (ovl W H B) p o := by
  funext a
  by_cases z : a = p
  · rw [z, upd_same, ovl_out h, upd_same]
  · rw [upd_ne z]
    by_cases w : W a
    · rw [ovl_in w, ovl_in w]
    · rw [ovl_out w, ovl_out w, upd_ne z]
theorem up_callN {K : Fg} {σ : L2.St} {H : Hp} {Q : VK} (h : upN K as (wCallN n S r) σ H Q) : tCallP (spV K as.2 n S) (upA K as r) σ H Q := by
  obtain ⟨Z, ρ, B, P, S0, h, kk⟩ := h
  refine ⟨Z, ρ, B, _, S0, h, fun cs ρ1 vs B1 H1 h1 x1 S1 o1 => ?_⟩
  obtain ⟨ds, e1, e2, hs⟩ := h1
  have r := dats_ok o1 e1
  refine ⟨_, B1, S1.part, by rw [r.len]; exact e2, _, B1, _, dats_map r S1.tab, hs, fun y ρ' v B' H' q x2 S2 dq hW => q.elim, fun fs ρ' pp xs B' H' q x2 S2 hp dq hW => ?_⟩
  have nW : ¬ (Ow ρ1 σ pp ∨ Z pp ≠ none) := fun z => by
    have := hW pp z
    rw [upd_same] at this
    cases this
  have hW' : ∀ a, (Ow ρ1 σ a ∨ Z a ≠ none) → H' a = none := fun a z => by
    have h9 := hW a z
    by_cases y : a = pp
    · rw [y] at z
      exact (nW z).elim
    · rwa [upd_ne y] at h9
  have x3 : ExT B1 H' := x2.trans S2.ext
  rw [ovl_upd nW]
  exact kk _ _ pp xs H' _ q (x1.trans x3) (S1.called x3 hW') ((ovl_out nW).trans hp) (DqAll.ext S2.ext dq)
theorem io_ok {K : Fg} {σ : L2.St} {B : Hp} {vs : List V} {cs : List CV} {i : Nat} {ds : List D} (h : CvsOk K σ B vs cs) (e : ioA cs = some (i, ds)) : ∃ v ws, vs = v :: ws ∧ σ[i]? = some (some v) ∧ DqAll K B ws ds := by
  match cs, vs, h with
  | .loc j :: r, v :: ws, h =>
    have e' : (dats r).map (j, ·) = some (i, ds) := e
    cases q : dats r with
    | none =>
      rw [q] at e'
      cases e'
    | some fs =>
      rw [q] at e'
      cases e'
      exact ⟨v, ws, rfl, h.1, dats_ok h.2 q⟩
  | .d _ :: _, _, _ => cases e
  | [], _, _ => cases e
  | .loc _ :: _, [], h => exact h.elim
theorem up_callIo {K : Fg} {σ : L2.St} {H : Hp} {Q : VK} (h : up K as (wCallIo n S r) σ H Q) : tCallP (spV K as.2 n S) (upA K as r) σ H Q := by
  obtain ⟨Z, ρ, B, P, S0, h, kk⟩ := h
  refine ⟨Z, ρ, B, _, S0, h, fun cs ρ1 vs B1 H1 h1 x1 S1 o1 => ?_⟩
  obtain ⟨i, ds, io, xs, e1, e2, e3, hs⟩ := h1
  obtain ⟨v, ws, rfl, a1, a2⟩ := io_ok o1 e1
  obtain ⟨pp, b1, b2, zs, b3, b4⟩ := S1.own i _ e3 rfl
  rw [a1] at b1
  cases b1
  have Zp : Z pp = none := by
    cases z : Z pp with
    | none => rfl
    | some o => exact ((S1.hid pp o z).2.2.1 ⟨i, _, e3, rfl, a1⟩).elim
  have part : Part (fun a => (Ow ρ1 σ a ∧ a ≠ pp) ∨ Z a ≠ none) H1 (upd B1 pp (.lst zs)) := by
    refine ⟨fun a w => ?_, fun a w => ?_⟩
    · have na : a ≠ pp := w.elim (fun z => z.2) fun z y => z (y ▸ Zp)
      rw [upd_ne na]
      exact S1.part.own a (w.imp (fun z => z.1) id)
    · by_cases na : a = pp
      · rw [na, upd_same, b3]
      · rw [upd_ne na]
        exact S1.part.off a fun z => w (z.imp (fun z => ⟨z, na⟩) id)
  refine ⟨_, _, part, by rw [List.length_cons, a2.len]; exact e2, _, B1, _, dats_map1 b2 b4 a2 S1.tab, hs, fun y ρ' v B' H' q x2 S2 dq hW => ?_, fun fs ρ' p2 ys B' H' q x2 S2 hp dq hW => ?_⟩
  · obtain ⟨xs', q0, q⟩ := q
    obtain ⟨p3, c1, c2, ys, c3, c4⟩ := S2.own 0 _ q0 rfl
    have ep : some (some (V.ref pp)) = some (some (V.ref p3)) := c1
    cases ep
    obtain ⟨x3, S3⟩ := S1.called1 e3 a1 x2 (fun a o z => S2.sub z) c2 c3 c4 hW
    exact kk _ _ v _ _ q ((x1.trans x2).trans x3) S3 (Dq.ext x3 dq)
  · obtain ⟨xs', q0, q⟩ := q
    obtain ⟨p3, c1, c2, us, c3, c4⟩ := S2.own 0 _ q0 rfl
    have ep : some (some (V.ref pp)) = some (some (V.ref p3)) := c1
    cases ep
    have n2 : p2 ≠ pp := fun z => by rw [z, c3] at hp; cases hp
    have nB : B' p2 = none := S2.free hp
    have x4 : ExT B' (upd B' p2 (.lst ys)) := .new nB
    obtain ⟨x3, S3⟩ := S1.called1 (H' := upd H' p2 (.lst ys)) e3 a1 (x2.trans x4) (fun a o z => by
      by_cases y : a = p2
      · rw [y, upd_same] at z ⊢
        exact z
      · rw [upd_ne y] at z ⊢
        exact S2.sub z) (by rw [upd_ne n2.symm]; exact c2) (by rw [upd_ne n2.symm]; exact c3) (DqAll.ext x4 c4) hW
    exact kk _ _ _ _ _ q ((x1.trans (x2.trans x4)).trans x3) S3 (.lst (.inl (.inl (by show (if p2 = pp then none else upd H' p2 (.lst ys) p2) = _; rw [if_neg n2, upd_same]))) (DqAll.ext (x4.trans x3) dq))
theorem up_callIoN {K : Fg} {σ : L2.St} {H : Hp} {Q : VK} (h : upN K as (wCallIoN n S r) σ H Q) : tCallP (spV K as.2 n S) (upA K as r) σ H Q := by
  obtain ⟨Z, ρ, B, P, S0, h, kk⟩ := h
  refine ⟨Z, ρ, B, _, S0, h, fun cs ρ1 vs B1 H1 h1 x1 S1 o1 => ?_⟩
  obtain ⟨i, ds, io, xs, e1, e2, e3, hs⟩ := h1
  obtain ⟨v, ws, rfl, a1, a2⟩ := io_ok o1 e1
  obtain ⟨pp, b1, b2, zs, b3, b4⟩ := S1.own i _ e3 rfl
  rw [a1] at b1
  cases b1
  have Zp : Z pp = none := by
    cases z : Z pp with
    | none => rfl
    | some o => exact ((S1.hid pp o z).2.2.1 ⟨i, _, e3, rfl, a1⟩).elim
  have part : Part (fun a => (Ow ρ1 σ a ∧ a ≠ pp) ∨ Z a ≠ none) H1 (upd B1 pp (.lst zs)) := by
    refine ⟨fun a w => ?_, fun a w => ?_⟩
    · have na : a ≠ pp := w.elim (fun z => z.2) fun z y => z (y ▸ Zp)
      rw [upd_ne na]
      exact S1.part.own a (w.imp (fun z => z.1) id)
    · by_cases na : a = pp
      · rw [na, upd_same, b3]
      · rw [upd_ne na]
        exact S1.part.off a fun z => w (z.imp (fun z => ⟨z, na⟩) id)
  refine ⟨_, _, part, by rw [List.length_cons, a2.len]; exact e2, _, B1, _, dats_map1 b2 b4 a2 S1.tab, hs, fun y ρ' v B' H' q x2 S2 dq hW => ?_, fun fs ρ' p2 ys B' H' q x2 S2 hp dq hW => ?_⟩
  · obtain ⟨xs', q0, q⟩ := q
    exact q.elim
  · obtain ⟨xs', q0, q⟩ := q
    obtain ⟨p3, c1, c2, us, c3, c4⟩ := S2.own 0 _ q0 rfl
    have ep : some (some (V.ref pp)) = some (some (V.ref p3)) := c1
    cases ep
    have n2 : p2 ≠ pp := fun z => by rw [z, c3] at hp; cases hp
    have nW : ¬ ((Ow ρ1 σ p2 ∧ p2 ≠ pp) ∨ Z p2 ≠ none) := fun z => by
      have := hW p2 z
      rw [upd_same] at this
      cases this
    have hW' : ∀ a, ((Ow ρ1 σ a ∧ a ≠ pp) ∨ Z a ≠ none) → H' a = none := fun a z => by
      have h9 := hW a z
      by_cases y : a = p2
      · rw [y] at z
        exact (nW z).elim
      · rwa [upd_ne y] at h9
    obtain ⟨x3, S3⟩ := S1.called1 e3 a1 x2 (fun a o z => S2.sub z) c2 c3 c4 hW'
    rw [ovl_upd nW]
    exact kk _ _ p2 ys _ _ q ((x1.trans x2).trans x3) S3 ((ovl_out nW).trans hp) (DqAll.ext x3 dq)
/-- f(e, ..) -/
structure CallOk (X : Cx) (ts : List Addr) (k n : Nat) (x : Str) (f : Addr) (fd : FuncData) (ps : List Str) (S : Spec) : Prop where
  fn : FnOk X.prog X.w X.K X.mg X.base CX0 k f fd ps (spV X.K ts n S)
  g : X.mg x = some (.ref f)
  kp : PySem.W.keepIn X.K (.ref f) = true
  b : Binds X.K fd ps []
theorem vcall (F : CallOk X as.2 k n x f fd ps S) (hr : Room k X.A) (ha : PA X (e :: es) (upA X.K as r)) (hg : Gl X x := by rfl) (hdb : (x == ("__debug__" : Str)) = false := by decide) (he : starEach (e :: es) X.env = (false, eval e X.env) :: starEach es X.env := by rfl) (hpl : (backTo pos (starEach es X.env)).any (·.1) = false := by rfl) :
    PE X (.Call (.Name x p) (e :: es) [] pos) (up X.K as (wCall n S r)) := pe_imp (pe_callP F.fn hr hg F.g F.kp F.b ha hdb he hpl) fun _ _ _ h => up_call h
theorem vcallN (F : CallOk X as.2 k n x f fd ps S) (hr : Room k X.A) (ha : PA X (e :: es) (upA X.K as r)) (hg : Gl X x := by rfl) (hdb : (x == ("__debug__" : Str)) = false := by decide) (he : starEach (e :: es) X.env = (false, eval e X.env) :: starEach es X.env := by rfl) (hpl : (backTo pos (starEach es X.env)).any (·.1) = false := by rfl) :
    PE X (.Call (.Name x p) (e :: es) [] pos) (upN X.K as (wCallN n S r)) := pe_imp (pe_callP F.fn hr hg F.g F.kp F.b ha hdb he hpl) fun _ _ _ h => up_callN h
theorem vcallIo (F : CallOk X as.2 k n x f fd ps S) (hr : Room k X.A) (ha : PA X (e :: es) (upA X.K as r)) (hg : Gl X x := by rfl) (hdb : (x == ("__debug__" : Str)) = false := by decide) (he : starEach (e :: es) X.env = (false, eval e X.env) :: starEach es X.env := by rfl) (hpl : (backTo pos (starEach es X.env)).any (·.1) = false := by rfl) :
    PE X (.Call (.Name x p) (e :: es) [] pos) (up X.K as (wCallIo n S r)) := pe_imp (pe_callP F.fn hr hg F.g F.kp F.b ha hdb he hpl) fun _ _ _ h => up_callIo h
theorem vcallIoN (F : CallOk X as.2 k n x f fd ps S) (hr : Room k X.A) (ha : PA X (e :: es) (upA X.K as r)) (hg : Gl X x := by rfl) (hdb : (x == ("__debug__" : Str)) = false := by decide) (he : starEach (e :: es) X.env = (false, eval e X.env) :: starEach es X.env := by rfl) (hpl : (backTo pos (starEach es X.env)).any (·.1) = false := by rfl) :
    PE X (.Call (.Name x p) (e :: es) [] pos) (upN X.K as (wCallIoN n S r)) := pe_imp (pe_callP F.fn hr hg F.g F.kp F.b ha hdb he hpl) fun _ _ _ h => up_callIoN h
end
end VL

end

/-! #### VK -/
section
set_option autoImplicit false
set_option maxRecDepth 100000
set_option maxHeartbeats 2000000
/-! built-ins by values -/
namespace VL
open PySem PySem.Spec PyProof.Rows L2
inductive RvAll (K : Fg) (B H : Hp) : List V → List D → Prop where
  | nil : RvAll K B H [] []
  | cons {v : V} {d : D} {vs : List V} {ds : List D} : Rv K B H v d → RvAll K B H vs ds → RvAll K B H (v :: vs) (d :: ds)
def ders (ρ : En) : List CV → Option (List D)
  | [] => some []
  | c :: r => match der ρ c, ders ρ r with
    | some d, some ds => some (d :: ds)
    | _, _ => none
theorem ders_ok {K : Fg} {as : As} {Z : Hp} {ρ : En} {σ : L2.St} {B H : Hp} (S : Sv K as Z ρ σ B H) : ∀ {vs : List V} {cs : List CV} {ds : List D}, CvsOk K σ B vs cs → ders ρ cs = some ds → RvAll K B H vs ds
  | [], [], _, _, e => by
    cases e
    exact .nil
  | v :: vs, c :: cs, ds, h, e => by
    unfold ders at e
    split at e
    · rename_i d es e1 e2
      cases e
      exact .cons (rv_of S h.1 e1) (ders_ok S h.2 e2)
    · cases e
  | [], _ :: _, _, h, _ => h.elim
  | _ :: _, [], _, h, _ => h.elim
def CallV (K : Fg) (r : List V → Hp → VK → Prop) (o : DC) : Prop := ∀ (B H : Hp) (vs : List V) (ds : List D) (P : D → Prop) (Q : VK), (∀ a u, B a = some u → H a = some u) → RvAll K B H vs ds → o ds P →
  (∀ d v B' H', P d → Al B H B' H' → Dq K B' v d → Q v H') → r vs H Q
/-- a new list comes -/
def CallVN (K : Fg) (r : List V → Hp → VK → Prop) (o : List D → (List D → Prop) → Prop) : Prop := ∀ (B H : Hp) (vs : List V) (ds : List D) (P : List D → Prop) (Q : VK), (∀ a u, B a = some u → H a = some u) → RvAll K B H vs ds → o ds P →
  (∀ es p xs, P es → H p = none → DqAll K B xs es → Q (.ref p) (upd H p (.lst xs))) → r vs H Q
def wCB (o : DC) (r : WA) : WE := fun ρ P => r ρ fun cs ρ1 => ∃ ds, ders ρ1 cs = some ds ∧ o ds fun d => P (.d d) ρ1
def wCBN (o : List D → (List D → Prop) → Prop) (r : WA) : WN := fun ρ P => r ρ fun cs ρ1 => ∃ ds, ders ρ1 cs = some ds ∧ o ds fun es => P es ρ1
section
variable {X : Cx} {as : As} {x : Str} {p pos : Pos} {a b e : Expr} {es : List Expr} {r : WA} {id T : String} {cr : List V → Hp → VK → Prop} {t : WE}
theorem up_cb {K : Fg} {o : DC} (hv : CallV K cr o) {σ : L2.St} {H : Hp} {Q : VK} (h : up K as (wCB o r) σ H Q) : tCB cr (upA K as r) σ H Q := by
  obtain ⟨Z, ρ, B, P, S, h, k⟩ := h
  refine ⟨Z, ρ, B, _, S, h, fun cs ρ1 vs B1 H1 h1 x1 S1 o1 => ?_⟩
  obtain ⟨ds, e1, h2⟩ := h1
  refine hv B1 H1 vs ds _ Q S1.subE (ders_ok S1 o1 e1) h2 fun d v B' H' q al dq => ?_
  obtain ⟨S2, x2⟩ := S1.alc al
  exact k _ _ v B' H' q (x1.trans x2) S2 dq
theorem up_cbN {K : Fg} {o : List D → (List D → Prop) → Prop} (hv : CallVN K cr o) {σ : L2.St} {H : Hp} {Q : VK} (h : upN K as (wCBN o r) σ H Q) : tCB cr (upA K as r) σ H Q := by
  obtain ⟨Z, ρ, B, P, S, h, k⟩ := h
  refine ⟨Z, ρ, B, _, S, h, fun cs ρ1 vs B1 H1 h1 x1 S1 o1 => ?_⟩
  obtain ⟨ds, e1, h2⟩ := h1
  exact hv B1 H1 vs ds _ Q S1.subE (ders_ok S1 o1 e1) h2 fun es p xs q hp dq => k es ρ1 p xs B1 H1 q x1 S1 hp dq
theorem vcb {o : DC} (hc : CallR X (.builtin id) cr) (hv : CallV X.K cr o) (hm : X.mg x = none) (hb : bootBuiltins x = some (.builtin id)) (ha : PA X (e :: es) (upA X.K as r)) (hg : Gl X x := by rfl) (hn : x ≠ "__name__" := by decide) (hdb : (x == ("__debug__" : Str)) = false := by decide)
    (he : starEach (e :: es) X.env = (false, eval e X.env) :: starEach es X.env := by rfl) (hpl : (backTo pos (starEach es X.env)).any (·.1) = false := by rfl) : PE X (.Call (.Name x p) (e :: es) [] pos) (up X.K as (wCB o r)) :=
  pe_imp (pe_callB hc hg hm hb ha hn hdb he hpl) fun _ _ _ h => up_cb hv h
theorem vcbN {o : List D → (List D → Prop) → Prop} (hc : CallR X (.builtin id) cr) (hv : CallVN X.K cr o) (hm : X.mg x = none) (hb : bootBuiltins x = some (.builtin id)) (ha : PA X (e :: es) (upA X.K as r)) (hg : Gl X x := by rfl) (hn : x ≠ "__name__" := by decide) (hdb : (x == ("__debug__" : Str)) = false := by decide)
    (he : starEach (e :: es) X.env = (false, eval e X.env) :: starEach es X.env := by rfl) (hpl : (backTo pos (starEach es X.env)).any (·.1) = false := by rfl) : PE X (.Call (.Name x p) (e :: es) [] pos) (upN X.K as (wCBN o r)) :=
  pe_imp (pe_callB hc hg hm hb ha hn hdb he hpl) fun _ _ _ h => up_cbN hv h
theorem vct {o : DC} (hc : CallR X (.type T) cr) (hv : CallV X.K cr o) (hm : X.mg x = none) (hb : bootBuiltins x = some (.type T)) (ha : PA X (e :: es) (upA X.K as r)) (hg : Gl X x := by rfl) (hn : x ≠ "__name__" := by decide) (hdb : (x == ("__debug__" : Str)) = false := by decide)
    (he : starEach (e :: es) X.env = (false, eval e X.env) :: starEach es X.env := by rfl) (hpl : (backTo pos (starEach es X.env)).any (·.1) = false := by rfl) : PE X (.Call (.Name x p) (e :: es) [] pos) (up X.K as (wCB o r)) :=
  pe_imp (pe_callTy hc hg hm hb ha hn hdb he hpl) fun _ _ _ h => up_cb hv h
theorem vctN {o : List D → (List D → Prop) → Prop} (hc : CallR X (.type T) cr) (hv : CallVN X.K cr o) (hm : X.mg x = none) (hb : bootBuiltins x = some (.type T)) (ha : PA X (e :: es) (upA X.K as r)) (hg : Gl X x := by rfl) (hn : x ≠ "__name__" := by decide) (hdb : (x == ("__debug__" : Str)) = false := by decide)
    (he : starEach (e :: es) X.env = (false, eval e X.env) :: starEach es X.env := by rfl) (hpl : (backTo pos (starEach es X.env)).any (·.1) = false := by rfl) : PE X (.Call (.Name x p) (e :: es) [] pos) (upN X.K as (wCBN o r)) :=
  pe_imp (pe_callTy hc hg hm hb ha hn hdb he hpl) fun _ _ _ h => up_cbN hv h
/-- a module's name for a built-in function (math.gcd ..) -/
theorem vcm {o : DC} (hc : CallR X (.builtin id) cr) (hv : CallV X.K cr o) (hm : X.mg x = some (.builtin id)) (ha : PA X (e :: es) (upA X.K as r)) (hg : Gl X x := by rfl) (hdb : (x == ("__debug__" : Str)) = false := by decide)
    (he : starEach (e :: es) X.env = (false, eval e X.env) :: starEach es X.env := by rfl) (hpl : (backTo pos (starEach es X.env)).any (·.1) = false := by rfl) : PE X (.Call (.Name x p) (e :: es) [] pos) (up X.K as (wCB o r)) :=
  pe_imp (pe_callBfun hc hg hm ha hdb he hpl) fun _ _ _ h => up_cb hv h
end
section
variable {K : Fg}
theorem RvAll.one {B H : Hp} {vs : List V} {d : D} (h : RvAll K B H vs [d]) : ∃ v, vs = [v] ∧ Rv K B H v d := by
  cases h with
  | cons a r =>
    cases r
    exact ⟨_, rfl, a⟩
theorem RvAll.two {B H : Hp} {vs : List V} {d e : D} (h : RvAll K B H vs [d, e]) : ∃ v u, vs = [v, u] ∧ Rv K B H v d ∧ Rv K B H u e := by
  cases h with
  | cons a r =>
    obtain ⟨u, rfl, b⟩ := r.one
    exact ⟨_, u, rfl, a, b⟩
/-! ### len, abs, min, max, int, sum -/
def oLen : DC := fun ds P => match ds with
  | [.list xs] => P (.int xs.length)
  | [.tuple xs] => P (.int xs.length)
  | [.str z] => z.length ≤ sizeLine ∧ P (.int z.length)
  | _ => False
theorem cv_len : CallV K (fun xs H Q => ∃ x n, xs = [x] ∧ LenV K x H n ∧ Q (.int n) H) oLen := by
  intro B H vs ds P Q e a c k
  unfold oLen at c
  split at c
  · obtain ⟨v, rfl, b⟩ := a.one
    obtain ⟨l, xs, rfl, h1, r1⟩ := b.list e
    exact ⟨_, xs.length, rfl, .inl ⟨xs, h1, rfl⟩, by rw [r1.len]; exact k _ _ _ _ c .no (.int _)⟩
  · obtain ⟨v, rfl, b⟩ := a.one
    obtain ⟨l, xs, rfl, h1, r1⟩ := b.tup e
    exact ⟨_, xs.length, rfl, .inr ⟨xs, h1, rfl⟩, by rw [r1.len]; exact k _ _ _ _ c .no (.int _)⟩
  · obtain ⟨v, rfl, b⟩ := a.one
    cases b.str
    exact ⟨_, _, rfl, ⟨c.1, rfl⟩, k _ _ _ _ c.2 .no (.int _)⟩
  · exact c.elim
def oInt1 (g : Int → D) : DC := fun ds P => match ds with
  | [.int i] => P (g i)
  | _ => False
def oInt2 (g : Int → Int → D) : DC := fun ds P => match ds with
  | [.int i, .int j] => P (g i j)
  | _ => False
abbrev oAbs : DC := oInt1 fun i => .int (if i < 0 then -i else i)
abbrev oMax2 : DC := oInt2 fun i j => .int (if j > i then j else i)
abbrev oMin2 : DC := oInt2 fun i j => .int (if j < i then j else i)
abbrev oGcd : DC := oInt2 fun i j => .int (Int.gcd i j)
theorem cv_i1 {g : Int → V} {gd : Int → D} (hg : ∀ B i, Dq K B (g i) (gd i)) : CallV K (fun xs H Q => ∃ i, xs = [.int i] ∧ Q (g i) H) (oInt1 gd) := by
  intro B H vs ds P Q e a c k
  unfold oInt1 at c
  split at c
  · obtain ⟨v, rfl, b⟩ := a.one
    cases b.int
    exact ⟨_, rfl, k _ _ _ _ c .no (hg B _)⟩
  · exact c.elim
theorem cv_i2 {g : Int → Int → V} {gd : Int → Int → D} (hg : ∀ B i j, Dq K B (g i j) (gd i j)) : CallV K (fun xs H Q => ∃ i j, xs = [.int i, .int j] ∧ Q (g i j) H) (oInt2 gd) := by
  intro B H vs ds P Q e a c k
  unfold oInt2 at c
  split at c
  · obtain ⟨v, u, rfl, b1, b2⟩ := a.two
    cases b1.int
    cases b2.int
    exact ⟨_, _, rfl, k _ _ _ _ c .no (hg B _ _)⟩
  · exact c.elim
def oToInt : DC := fun ds P => match ds with
  | [.int i] => P (.int i)
  | [.bool b] => P (.int (if b then 1 else 0))
  | _ => False
theorem cv_int : CallV K (fun xs H Q => (∃ i, xs = [.int i] ∧ Q (.int i) H) ∨ ∃ k, xs = [.bl k] ∧ Q (.int (if k then 1 else 0)) H) oToInt := by
  intro B H vs ds P Q e a c k
  unfold oToInt at c
  split at c
  · obtain ⟨v, rfl, b⟩ := a.one
    cases b.int
    exact .inl ⟨_, rfl, k _ _ _ _ c .no (.int _)⟩
  · obtain ⟨v, rfl, b⟩ := a.one
    cases b.bool
    exact .inr ⟨_, rfl, k _ _ _ _ c .no (.int _)⟩
  · exact c.elim
/-- ints alone -/
def intsOf : List D → Option (List Int)
  | [] => some []
  | .int i :: r => (intsOf r).map (i :: ·)
  | _ :: _ => none
theorem intsOf_map : ∀ {ds : List D} {ns : List Int}, intsOf ds = some ns → ds = ns.map PyData.int
  | [], _, e => by
    cases e
    rfl
  | .int i :: r, ns, e => by
    unfold intsOf at e
    cases q : intsOf r with
    | none =>
      rw [q] at e
      cases e
    | some ms =>
      rw [q] at e
      cases e
      rw [intsOf_map q]
      rfl
  | .none :: _, _, e => by cases e
  | .bool _ :: _, _, e => by cases e
  | .str _ :: _, _, e => by cases e
  | .list _ :: _, _, e => by cases e
  | .tuple _ :: _, _, e => by cases e
  | .dict _ :: _, _, e => by cases e
theorem intsOf_of : ∀ ns : List Int, intsOf (ns.map PyData.int) = some ns
  | [] => rfl
  | n :: r => by
    show (intsOf (r.map PyData.int)).map (n :: ·) = some (n :: r)
    rw [intsOf_of r]
    rfl
def oSumL : DC := fun ds P => match ds with
  | [.list xs] => ∃ ns, intsOf xs = some ns ∧ P (.int ns.sum)
  | _ => False
theorem cv_sum : CallV K (rSum K) oSumL := by
  intro B H vs ds P Q e a c k
  unfold oSumL at c
  split at c
  · obtain ⟨v, rfl, b⟩ := a.one
    obtain ⟨ns, e1, c⟩ := c
    have e2 := intsOf_map e1
    subst e2
    obtain ⟨l, xs, rfl, h1, r1⟩ := b.list e
    rw [r1.ints] at h1
    exact ⟨l, ns, rfl, h1, k _ _ _ _ c .no (.int _)⟩
  · exact c.elim
/-! ### list, tuple of something -/
def oSeqN : List D → (List D → Prop) → Prop := fun ds P => match ds with
  | [.list xs] => P xs
  | [.tuple xs] => P xs
  | _ => False
theorem cv_list : CallVN K (fun xs H Q => ∃ p ys, xs = [.ref p] ∧ (SqL K H p ys ∨ SqT K H p ys) ∧ ∀ l, H l = none → Q (.ref l) (upd H l (.lst ys))) oSeqN := by
  intro B H vs ds P Q e a c k
  unfold oSeqN at c
  split at c
  · obtain ⟨v, rfl, b⟩ := a.one
    obtain ⟨l, xs, rfl, h1, r1⟩ := b.list e
    exact ⟨l, xs, rfl, .inl h1, fun p hp => k _ p xs c hp r1⟩
  · obtain ⟨v, rfl, b⟩ := a.one
    obtain ⟨l, xs, rfl, h1, r1⟩ := b.tup e
    exact ⟨l, xs, rfl, .inr h1, fun p hp => k _ p xs c hp r1⟩
  · exact c.elim
def oTupOf : DC := fun ds P => match ds with
  | [.list xs] => P (.tuple xs)
  | [.tuple xs] => P (.tuple xs)
  | _ => False
theorem free_of {B H : Hp} (e : ∀ a u, B a = some u → H a = some u) {p : Addr} (h : H p = none) : B p = none := by
  cases z : B p with
  | none => rfl
  | some o =>
    rw [e p o z] at h
    cases h
theorem cv_tuple : CallV K (fun xs H Q => ∃ p ys, xs = [.ref p] ∧ ((SqL K H p ys ∧ ∀ l, H l = none → Q (.ref l) (upd H l (.tup ys))) ∨ (SqT K H p ys ∧ Q (.ref p) H))) oTupOf := by
  intro B H vs ds P Q e a c k
  unfold oTupOf at c
  split at c
  · obtain ⟨v, rfl, b⟩ := a.one
    obtain ⟨l, xs, rfl, h1, r1⟩ := b.list e
    exact ⟨l, xs, rfl, .inl ⟨h1, fun p hp => k _ _ _ _ c (.new hp) (.tup (.inl (.inl upd_same)) (DqAll.ext (.new (free_of e hp)) r1))⟩⟩
  · obtain ⟨v, rfl, b⟩ := a.one
    cases b with
    | dp b =>
      cases b with
      | tup h1 r1 => exact ⟨_, _, rfl, .inr ⟨sqT_ext (.of e) h1, k _ _ _ _ c .no (.tup h1 r1)⟩⟩
  · exact c.elim
end
/-! ### isinstance -/
def tyD : D → String
  | .none => "NoneType"
  | .bool _ => "bool"
  | .int _ => "int"
  | .str _ => "str"
  | .list _ => "list"
  | .tuple _ => "tuple"
  | .dict _ => "dict"
theorem tyX_of {K : Fg} {B H : Hp} (e : ∀ a u, B a = some u → H a = some u) {v : V} {d : D} (h : Rv K B H v d) : TyX K H v (.type (tyD d)) := by
  cases h with
  | ls h r => exact .base (.lst h)
  | dp h =>
    cases h with
    | non => exact .base .non
    | bl b => exact .base (.bl b)
    | int i => exact .base (.int i)
    | str x => exact .base (.str x)
    | lst h r =>
      rcases h with (h | ⟨o, h⟩) | ⟨o, its, n, h1, h2, _⟩
      · exact .base (.lst (e _ _ h))
      · exact .base (.frz (e _ _ h))
      · exact .kList h1 h2
    | tup h r =>
      rcases h with (h | ⟨o, h⟩) | ⟨o, its, n, h1, h2, _⟩
      · exact .base (.tup (e _ _ h))
      · exact .fTuple (e _ _ h)
      · exact .kTuple h1 h2
    | dct h r =>
      rcases h with h | ⟨o, h⟩
      · exact .base (.dK (e _ _ h))
      · exact .fDict (e _ _ h)
/-- isinstance of data, T one of int, bool, str, list, tuple, dict -/
def isiD (T : String) (d : D) : Bool := match d with
  | .bool _ => T == "bool" || T == "int"
  | d => tyD d == T
def goodTy (T : String) : Bool := ["int", "bool", "str", "list", "tuple", "dict"].contains T
theorem isi_kit {T : String} (h : goodTy T = true) (d : D) : kitB (tyD d) T = some (isiD T d) := by
  have h' : T ∈ ["int", "bool", "str", "list", "tuple", "dict"] := by simpa [goodTy] using h
  simp only [List.mem_cons, List.not_mem_nil, or_false] at h'
  rcases h' with rfl | rfl | rfl | rfl | rfl | rfl <;> cases d <;> first | decide +kernel | rfl
def wIsi (T : String) (t : WE) : WE := fun ρ P => t ρ fun c ρ1 => ∃ d, der ρ1 c = some d ∧ P (.d (.bool (isiD T d))) ρ1
def wIsi2 (T U : String) (t : WE) : WE := fun ρ P => t ρ fun c ρ1 => ∃ d, der ρ1 c = some d ∧ P (.d (.bool (isiD T d || isiD U d))) ρ1
section
variable {X : Cx} {as : As} {x : Str} {p pos q1 q2 q3 : Pos} {a b e : Expr} {es : List Expr} {t : WE}
theorem visi {T : String} {n : Str} (hm : X.mg "isinstance" = none) (hT : X.mg n = none) (bT : bootBuiltins n = some (.type T)) (ha : PE X a (up X.K as t)) (gT : goodTy T = true := by decide) (hg : Gl X "isinstance" := by rfl) (hgT : Gl X n := by rfl) (hn : n ≠ "__name__" := by decide) (hd : (n == ("__debug__" : Str)) = false := by decide)
    (he : starEach [a, .Name n q1] X.env = (false, eval a X.env) :: starEach [.Name n q1] X.env := by rfl) (he1 : starEach [.Name n q1] X.env = (false, eval (.Name n q1) X.env) :: starEach [] X.env := by rfl) (hpl : (backTo pos (starEach [.Name n q1] X.env)).any (·.1) = false := by rfl) :
    PE X (.Call (.Name "isinstance" p) [a, .Name n q1] [] pos) (up X.K as (wIsi T t)) := by
  refine pe_imp (pe_callB call_isi hg hm (by decide +kernel) (pa_cons ha (pa_cons (pe_bltn (v := .ty T) hgT hT bT rfl hn hd) pa_nil he1) he) (by decide) (by decide) he hpl) fun σ H Q ⟨Z, ρ, B, P, S, h, k⟩ => ⟨Z, ρ, B, _, S, h, fun c ρ1 v B1 H1 h1 x1 S1 o1 => ?_⟩
  obtain ⟨d, e1, h2⟩ := h1
  exact ⟨v, .ty T, _, _, _, rfl, .ty T, tyX_of S1.subE (rv_of S1 o1 e1), kit_ty (isi_kit gT d), k _ _ _ B1 H1 h2 x1 S1 (.bl _)⟩
theorem visi2 {T U : String} {n m : Str} {k1 : _} (hm : X.mg "isinstance" = none) (hT : X.mg n = none) (bT : bootBuiltins n = some (.type T)) (hU : X.mg m = none) (bU : bootBuiltins m = some (.type U)) (ha : PE X a (up X.K as t)) (gT : goodTy T = true := by decide) (gU : goodTy U = true := by decide) (hg : Gl X "isinstance" := by rfl) (hgT : Gl X n := by rfl) (hn : n ≠ "__name__" := by decide) (hd : (n == ("__debug__" : Str)) = false := by decide) (hgU : Gl X m := by rfl) (hnU : m ≠ "__name__" := by decide) (hdU : (m == ("__debug__" : Str)) = false := by decide)
    (he : starEach [a, .Tuple [.Name n q1, .Name m q2] k1 q3] X.env = (false, eval a X.env) :: starEach [.Tuple [.Name n q1, .Name m q2] k1 q3] X.env := by rfl) (he1 : starEach [.Tuple [.Name n q1, .Name m q2] k1 q3] X.env = (false, eval (.Tuple [.Name n q1, .Name m q2] k1 q3) X.env) :: starEach [] X.env := by rfl)
    (he2 : starEach [.Name n q1, .Name m q2] X.env = (false, eval (.Name n q1) X.env) :: starEach [.Name m q2] X.env := by rfl) (he3 : starEach [.Name m q2] X.env = (false, eval (.Name m q2) X.env) :: starEach [] X.env := by rfl) (hpl : (backTo pos (starEach [.Tuple [.Name n q1, .Name m q2] k1 q3] X.env)).any (·.1) = false := by rfl) :
    PE X (.Call (.Name "isinstance" p) [a, .Tuple [.Name n q1, .Name m q2] k1 q3] [] pos) (up X.K as (wIsi2 T U t)) := by
  refine pe_imp (pe_callB call_isiT hg hm (by decide +kernel) (pa_cons ha (pa_cons (pe_tup (pa_cons (pe_bltn (v := .ty T) hgT hT bT rfl hn hd) (pa_cons (pe_bltn (v := .ty U) hgU hU bU rfl hnU hdU) pa_nil he3) he2)) pa_nil he1) he) (by decide) (by decide) he hpl) fun σ H Q ⟨Z, ρ, B, P, S, h, k⟩ => ⟨Z, ρ, B, _, S, h, fun c ρ1 v B1 H1 h1 x1 S1 o1 => ?_⟩
  obtain ⟨d, e1, h2⟩ := h1
  refine ⟨by show 2 ≤ sizeLine; decide, fun tp htp => ?_⟩
  have S2 := S1.al (o := .tup [.ty T, .ty U]) htp
  have x2 := ExT.new (o := .tup [.ty T, .ty U]) (S1.free htp)
  have o2 : CvOk X.K σ (upd B1 tp (.tup [.ty T, .ty U])) v c := o1.ext x2
  have kT : PySem.W.kitOne X.K (.type (tyD d)) (.type T) = some (isiD T d) := kit_ty (isi_kit gT d)
  have kU : PySem.W.kitOne X.K (.type (tyD d)) (.type U) = some (isiD U d) := kit_ty (isi_kit gU d)
  have kA : PySem.W.kitAny X.K (.type (tyD d)) [.type T, .type U] = some (isiD T d || isiD U d) := kitAny_cons kT (fun z => by
      rw [z]
      refine kitAny_cons kU (fun y => ?_) (fun y => ?_)
      · rw [y]
        rfl
      · rw [y]
        rfl) fun z => by rw [z]; rfl
  exact ⟨v, tp, [.ty T, .ty U], _, [.type T, .type U], _, rfl, upd_same, .cons (.ty T) (.cons (.ty U) .nil), tyX_of S2.subE (rv_of S2 o2 e1), kA, k _ _ _ _ _ h2 (x1.trans x2) S2 (.bl _)⟩
end
end VL

end

/-! #### VM -/
section
set_option autoImplicit false
set_option maxRecDepth 100000
set_option maxHeartbeats 2000000
/-! own lists, slices, membership by values -/
namespace VL
open PySem PySem.Spec PyProof.Rows L2
section
variable {X : Cx} {as : As} {a b e : Expr} {es : List Expr} {t u : WE} {pos : Pos} {x : Str}
/-- the object of the own list in slot i -/
theorem own_at {K : Fg} {Z : Hp} {ρ : En} {σ : L2.St} {B H : Hp} (S : Sv K as Z ρ σ B H) {i : Nat} {io : Bool} {ds : List D} (h : ρ[i]? = some (.lst io ds)) : ∃ p xs, σ[i]? = some (some (V.ref p)) ∧ H p = some (.lst xs) ∧ DqAll K B xs ds := by
  obtain ⟨p, h1, _, xs, h3, h4⟩ := S.own i _ h rfl
  exact ⟨p, xs, h1, h3, h4⟩
theorem Sv.store {K : Fg} {Z : Hp} {ρ : En} {σ : L2.St} {B H : Hp} (S : Sv K as Z ρ σ B H) {i : Nat} {io : Bool} {ds es : List D} {p : Addr} {ys : List V} (h : ρ[i]? = some (.lst io ds)) (hp : σ[i]? = some (some (V.ref p))) (r : DqAll K B ys es) : Sv K as Z (ρ.set i (.lst io es)) σ B (upd H p (.lst ys)) :=
  S.mut h rfl hp rfl (fun fs z => by
    cases z
    exact ⟨ds, rfl⟩) ⟨ys, upd_same, r⟩
/-- x.append(e), x an own list -/
def wApp (i : Nat) (t : WE) : WS := fun w ρ => (∃ io ds, ρ[i]? = some (.lst io ds)) ∧ t ρ fun c ρ1 => ∃ y io ds, c = .d y ∧ ρ1[i]? = some (.lst io ds) ∧ ds.length < sizeLine ∧ w.nx (ρ1.set i (.lst io (ds ++ [y])))
theorem sapp (i : Nat) {p1 p2 cpos : Pos} (ha : PE X e (up X.K as t)) (hN : X.N[i]? = some x := by rfl) (hv : Vis X.env.scope x := by first | exact Or.inl rfl | exact Or.inr (Or.inl rfl) | exact Or.inr (Or.inr rfl)) (hd : (x == ("__debug__" : Str)) = false := by decide) (hcd : (x == ("__classdict__" : Str)) = false := by decide)
    (hs : swapsWith (.Call (.Attribute (.Name x p1) "append" p2) [e] [] cpos) none pos.line X.env = pure false := by rfl) (hbase : attributeBase (.Name x p1) "append" X.env (eval (.Name x p1) X.env) = eval (.Name x p1) X.env := by rfl)
    (hfew : ((backTo cpos (starEach (e :: []) X.env)).all (fun x => !x.1) && (backToKw cpos (keywordEach [] X.env)).all (fun x => x.1.isSome) && decide ((e :: []).length + ([] : List Keyword).length + (if ([] : List Keyword).isEmpty then 0 else 1) < 30)) = true := by rfl)
    (hline : (p2.endLine == cpos.line) = true := by rfl) (he : starEach (e :: []) X.env = (false, eval e X.env) :: starEach [] X.env := by rfl) (hplain : (backTo cpos (starEach [] X.env)).any (·.1) = false := by rfl) :
    PS X (.Expr (.Call (.Attribute (.Name x p1) "append" p2) [e] [] cpos) pos) (upS X.K as (wApp i t)) := by
  refine ps_imp (ps_expr (pe_bm PySem.F.plainAttrs_list PySem.F.slot_list_append PySem.F.type_list_append mt_append (pe_var hN hv hd hcd) (pa_cons ha pa_nil he) hbase hfew hline he hplain) hs) fun E σ H ⟨Z, ρ, B, w, S, h, m⟩ => ?_
  obtain ⟨⟨io, ds, h0⟩, h⟩ := h
  obtain ⟨p, xs, q1, q2, q3⟩ := own_at S h0
  refine ⟨.ref p, q1, .inl ⟨rfl, xs, .inl (.inl q2)⟩, Z, ρ, B, _, S, h, fun c ρ1 v B1 H1 h1 x1 S1 o1 => ?_⟩
  obtain ⟨y, io1, ds1, rfl, h2, hl, h3⟩ := h1
  obtain ⟨p1, ys, r1, r2, r3⟩ := own_at S1 h2
  rw [q1] at r1
  cases r1
  have rl := r3.len
  exact ⟨p, ys, v, rfl, rfl, r2, by omega, m.nx _ _ B1 _ h3 x1 (S1.store h2 q1 (DqAll.app r3 (.cons o1 .nil)))⟩
/-- x.extend(e), e a new list -/
def wExt (i : Nat) (t : WN) : WS := fun w ρ => (∃ io ds, ρ[i]? = some (.lst io ds)) ∧ t ρ fun fs ρ1 => ∃ io ds, ρ1[i]? = some (.lst io ds) ∧ ds.length + fs.length ≤ sizeLine ∧ w.nx (ρ1.set i (.lst io (ds ++ fs)))
theorem sext (i : Nat) {t : WN} {p1 p2 cpos : Pos} (ha : PE X e (upN X.K as t)) (hN : X.N[i]? = some x := by rfl) (hv : Vis X.env.scope x := by first | exact Or.inl rfl | exact Or.inr (Or.inl rfl) | exact Or.inr (Or.inr rfl)) (hd : (x == ("__debug__" : Str)) = false := by decide) (hcd : (x == ("__classdict__" : Str)) = false := by decide)
    (hs : swapsWith (.Call (.Attribute (.Name x p1) "extend" p2) [e] [] cpos) none pos.line X.env = pure false := by rfl) (hbase : attributeBase (.Name x p1) "extend" X.env (eval (.Name x p1) X.env) = eval (.Name x p1) X.env := by rfl)
    (hfew : ((backTo cpos (starEach (e :: []) X.env)).all (fun x => !x.1) && (backToKw cpos (keywordEach [] X.env)).all (fun x => x.1.isSome) && decide ((e :: []).length + ([] : List Keyword).length + (if ([] : List Keyword).isEmpty then 0 else 1) < 30)) = true := by rfl)
    (hline : (p2.endLine == cpos.line) = true := by rfl) (he : starEach (e :: []) X.env = (false, eval e X.env) :: starEach [] X.env := by rfl) (hplain : (backTo cpos (starEach [] X.env)).any (·.1) = false := by rfl) :
    PS X (.Expr (.Call (.Attribute (.Name x p1) "extend" p2) [e] [] cpos) pos) (upS X.K as (wExt i t)) := by
  refine ps_imp (ps_expr (pe_bm PySem.F.plainAttrs_list PySem.F.slot_list_extend PySem.F.type_list_extend mt_extend (pe_var hN hv hd hcd) (pa_cons ha pa_nil he) hbase hfew hline he hplain) hs) fun E σ H ⟨Z, ρ, B, w, S, h, m⟩ => ?_
  obtain ⟨⟨io, ds, h0⟩, h⟩ := h
  obtain ⟨p, xs, q1, q2, q3⟩ := own_at S h0
  refine ⟨.ref p, q1, .inl ⟨rfl, xs, .inl (.inl q2)⟩, Z, ρ, B, _, S, h, fun fs ρ1 pn zs B1 H1 h1 x1 S1 hpn rz => ?_⟩
  obtain ⟨io1, ds1, h2, hl, h3⟩ := h1
  have x2 := ExT.new (o := .lst zs) (S1.free hpn)
  have S2 := S1.al (o := .lst zs) hpn
  obtain ⟨p1, ys, r1, r2, r3⟩ := own_at S2 h2
  rw [q1] at r1
  cases r1
  have rl := r3.len
  have rl2 := rz.len
  exact ⟨p, pn, ys, zs, rfl, rfl, r2, upd_same, by omega, m.nx _ _ _ _ h3 (x1.trans x2) (S2.store h2 q1 (DqAll.app r3 (DqAll.ext x2 rz)))⟩
/-- x.insert(i, e) -/
def wIns (i : Nat) (r : WA) : WS := fun w ρ => (∃ io ds, ρ[i]? = some (.lst io ds)) ∧ r ρ fun cs ρ1 => ∃ k y io ds, cs = [.d (.int k), .d y] ∧ ρ1[i]? = some (.lst io ds) ∧ ds.length < sizeLine ∧ 0 ≤ k ∧ k < 2 ^ 63 ∧ w.nx (ρ1.set i (.lst io (ds.take k.toNat ++ [y] ++ ds.drop k.toNat)))
theorem sins (i : Nat) {r : WA} {p1 p2 cpos : Pos} (ha : PA X [a, b] (upA X.K as r)) (hN : X.N[i]? = some x := by rfl) (hv : Vis X.env.scope x := by first | exact Or.inl rfl | exact Or.inr (Or.inl rfl) | exact Or.inr (Or.inr rfl)) (hd : (x == ("__debug__" : Str)) = false := by decide) (hcd : (x == ("__classdict__" : Str)) = false := by decide)
    (hs : swapsWith (.Call (.Attribute (.Name x p1) "insert" p2) [a, b] [] cpos) none pos.line X.env = pure false := by rfl) (hbase : attributeBase (.Name x p1) "insert" X.env (eval (.Name x p1) X.env) = eval (.Name x p1) X.env := by rfl)
    (hfew : ((backTo cpos (starEach (a :: [b]) X.env)).all (fun x => !x.1) && (backToKw cpos (keywordEach [] X.env)).all (fun x => x.1.isSome) && decide ((a :: [b]).length + ([] : List Keyword).length + (if ([] : List Keyword).isEmpty then 0 else 1) < 30)) = true := by rfl)
    (hline : (p2.endLine == cpos.line) = true := by rfl) (he : starEach (a :: [b]) X.env = (false, eval a X.env) :: starEach [b] X.env := by rfl) (hplain : (backTo cpos (starEach [b] X.env)).any (·.1) = false := by rfl) :
    PS X (.Expr (.Call (.Attribute (.Name x p1) "insert" p2) [a, b] [] cpos) pos) (upS X.K as (wIns i r)) := by
  refine ps_imp (ps_expr (pe_bm PySem.F.plainAttrs_list PySem.F.slot_list_insert PySem.F.type_list_insert mt_insert (pe_var hN hv hd hcd) ha hbase hfew hline he hplain) hs) fun E σ H ⟨Z, ρ, B, w, S, h, m⟩ => ?_
  obtain ⟨⟨io, ds, h0⟩, h⟩ := h
  obtain ⟨p, xs, q1, q2, q3⟩ := own_at S h0
  refine ⟨.ref p, q1, .inl ⟨rfl, xs, .inl (.inl q2)⟩, Z, ρ, B, _, S, h, fun cs ρ1 vs B1 H1 h1 x1 S1 o1 => ?_⟩
  obtain ⟨k, y, io1, ds1, rfl, h2, hl, k0, k1, h3⟩ := h1
  obtain ⟨v1, v2, rfl, c1, c2⟩ := cvs_two o1
  cases c1
  obtain ⟨p1, ys, r1, r2, r3⟩ := own_at S1 h2
  rw [q1] at r1
  cases r1
  have rl := r3.len
  exact ⟨p, ys, k, v2, rfl, rfl, r2, by omega, k0, k1, m.nx _ _ B1 _ h3 x1 (S1.store h2 q1 (DqAll.app (DqAll.app (DqAll.take _ r3) (.cons c2 .nil)) (DqAll.drop _ r3)))⟩
/-- x[k] = e -/
def wSetIt (i : Nat) (u t : WE) : WS := fun w ρ => t ρ fun c ρ1 => ∃ y, c = .d y ∧ (∃ io ds, ρ1[i]? = some (.lst io ds)) ∧ u ρ1 fun c2 ρ2 => ∃ k j io ds, c2 = .d (.int k) ∧ ρ2[i]? = some (.lst io ds) ∧ ixN ds.length k = some j ∧ w.nx (ρ2.set i (.lst io (ds.set j y)))
theorem ssetit (i : Nat) {p1 p2 : Pos} (he : PE X e (up X.K as t)) (hk : PE X b (up X.K as u)) (hN : X.N[i]? = some x := by rfl) (hv : Vis X.env.scope x := by first | exact Or.inl rfl | exact Or.inr (Or.inl rfl) | exact Or.inr (Or.inr rfl)) (hd : (x == ("__debug__" : Str)) = false := by decide) (hcd : (x == ("__classdict__" : Str)) = false := by decide)
    (ha : ∀ v, assign (.Subscript (.Name x p1) b p2) X.env v = (do
      let ov ← holding [v] (eval (.Name x p1) X.env)
      let iv ← holding [v, ov] (eval b X.env)
      standAt p2
      holding [v, ov, iv] (setItem ov iv v)
      release [v, ov, iv] []) := by intro _; rfl)
    (hs : swapsWithSole [.Subscript (.Name x p1) b p2] e pos.line X.env = pure false := by rfl) (hw : swappedStores [.Subscript (.Name x p1) b p2] e X.env = pure none := by rfl)
    (h1 : (assignEach [.Subscript (.Name x p1) b p2] X.env).map (·.2) = [assign (.Subscript (.Name x p1) b p2) X.env] := by rfl) : PS X (.Assign [.Subscript (.Name x p1) b p2] e pos) (upS X.K as (wSetIt i u t)) := by
  refine ps_imp (ps_asg he (pg_sub (pe_var hN hv hd hcd) hk set_list ha) hs hw h1) fun E σ H ⟨Z, ρ, B, w, S, h, m⟩ => ⟨Z, ρ, B, _, S, h, fun c ρ1 v B1 H1 h1 x1 S1 o1 => ?_⟩
  obtain ⟨y, rfl, ⟨io, ds, h0⟩, h⟩ := h1
  obtain ⟨p, xs, q1, q2, q3⟩ := own_at S1 h0
  refine ⟨.ref p, q1, Z, ρ1, B1, _, S1, h, fun c2 ρ2 v2 B2 H2 h2 x2 S2 o2 => ?_⟩
  obtain ⟨k, j, io2, ds2, rfl, h3, h4, h5⟩ := h2
  cases o2
  obtain ⟨p1, ys, r1, r2, r3⟩ := own_at S2 h3
  rw [q1] at r1
  cases r1
  exact ⟨p, ys, k, j, rfl, rfl, r2, by rw [r3.len]; exact h4, m.nx _ _ B2 _ h5 (x1.trans x2) (S2.store h3 q1 (DqAll.set _ r3 (Dq.ext x2 o1)))⟩
/-! ### slices -/
abbrev WO := En → (Option Int → En → Prop) → Prop
def upO (K : Fg) (as : As) (t : WO) : TO := fun σ H Q => ∃ Z ρ B P, Sv K as Z ρ σ B H ∧ t ρ P ∧ ∀ o ρ' B' H', P o ρ' → ExT B B' → Sv K as Z ρ' σ B' H' → Q o H'
theorem po_imp {o : Option Expr} {t u : TO} (h : PO X o t) (i : ∀ σ H Q, u σ H Q → t σ H Q) : PO X o u := ⟨fun pins s σ H Q I q => h.run pins s σ H Q I (i σ H Q q)⟩
def wNoPart : WO := fun ρ P => P none ρ
def wPart (t : WE) : WO := fun ρ P => t ρ fun c ρ1 => match c with
  | .d (.int i) => P (some i) ρ1
  | _ => False
theorem onone : PO X none (upO X.K as wNoPart) := po_imp po_none fun σ H Q ⟨Z, ρ, B, P, S, h, k⟩ => k _ _ B H h (.refl B) S
theorem osome (h : PE X e (up X.K as t)) : PO X (some e) (upO X.K as (wPart t)) := by
  refine po_imp (po_some h) fun σ H Q ⟨Z, ρ, B, P, S, h, k⟩ => ⟨Z, ρ, B, _, S, h, fun c ρ1 v B1 H1 h1 x1 S1 o1 => ?_⟩
  cases c with
  | loc j => exact h1.elim
  | d y =>
    cases y <;> (try (exact (show False from h1).elim))
    cases o1
    exact ⟨_, rfl, k _ _ B1 H1 h1 x1 S1⟩
def cutD (ds : List D) (lo hi : Option Int) : List D := (ds.drop (HT.sIx ds.length 0 lo)).take (HT.sIx ds.length ds.length hi - HT.sIx ds.length 0 lo)
theorem cut_all {K : Fg} {B : Hp} {xs : List V} {ds : List D} {lo hi : Option Int} (r : DqAll K B xs ds) : DqAll K B (cutV xs lo hi) (cutD ds lo hi) := by
  unfold cutV cutD
  rw [r.len]
  exact DqAll.take _ (DqAll.drop _ r)
def wSl (t : WE) (lo hi : WO) : WE := fun ρ P => t ρ fun c ρ1 => lo ρ1 fun l ρ2 => hi ρ2 fun u ρ3 => match der ρ3 c with
  | some (.tuple ds) => P (.d (.tuple (cutD ds l u))) ρ3
  | some (.list ds) => P (.d (.list (cutD ds l u))) ρ3
  | _ => False
def wSlN (t : WE) (lo hi : WO) : WN := fun ρ P => t ρ fun c ρ1 => lo ρ1 fun l ρ2 => hi ρ2 fun u ρ3 => match der ρ3 c with
  | some (.list ds) => P (cutD ds l u) ρ3
  | _ => False
theorem cutD_all (ds : List D) (lo hi : Option Int) (h : HT.sIx ds.length 0 lo = 0 ∧ HT.sIx ds.length ds.length hi = ds.length) : cutD ds lo hi = ds := by
  unfold cutD
  rw [h.1, h.2]
  simp
theorem vsl {lo hi : Option Expr} {wl wh : WO} {p2 : Pos} (ha : PE X a (up X.K as t)) (hl : PO X lo (upO X.K as wl)) (hh : PO X hi (upO X.K as wh)) : PE X (.Subscript a (.Slice lo hi none p2) pos) (up X.K as (wSl t wl wh)) := by
  refine pe_imp (pe_slice (sl_list.or sl_tupA) ha hl hh) fun σ H Q ⟨Z, ρ, B, P, S, h, k⟩ => ⟨Z, ρ, B, _, S, h, fun c ρ1 v B1 H1 h1 x1 S1 o1 => ⟨Z, ρ1, B1, _, S1, h1, fun l ρ2 B2 H2 h2 x2 S2 => ⟨Z, ρ2, B2, _, S2, h2, fun u ρ3 B3 H3 h3 x3 S3 => ?_⟩⟩⟩
  have o3 := (o1.ext x2).ext x3
  have x := (x1.trans x2).trans x3
  split at h3
  · rename_i ds q
    have rv := rv_of S3 o3 q
    obtain ⟨l', xs, rfl, t1, r1⟩ := rv.tup S3.subE
    refine .inr ⟨l', xs, rfl, t1, fun z => ?_, fun z p hp => ?_⟩
    · rw [r1.len] at z
      rw [cutD_all ds l u z] at h3
      cases rv with
      | dp rv => exact k _ _ _ B3 H3 h3 x S3 rv
    · exact k _ _ _ _ _ h3 (x.trans (.new (S3.free hp))) (S3.al hp) (.tup (.inl (.inl upd_same)) (DqAll.ext (.new (S3.free hp)) (cut_all r1)))
  · rename_i ds q
    obtain ⟨l', xs, rfl, t1, r1⟩ := (rv_of S3 o3 q).list S3.subE
    exact .inl ⟨l', xs, rfl, t1, fun p hp => k _ _ _ _ _ h3 (x.trans (.new (S3.free hp))) (S3.al hp) (.lst (.inl (.inl upd_same)) (DqAll.ext (.new (S3.free hp)) (cut_all r1)))⟩
  · exact h3.elim
theorem vslN {lo hi : Option Expr} {wl wh : WO} {p2 : Pos} (ha : PE X a (up X.K as t)) (hl : PO X lo (upO X.K as wl)) (hh : PO X hi (upO X.K as wh)) : PE X (.Subscript a (.Slice lo hi none p2) pos) (upN X.K as (wSlN t wl wh)) := by
  refine pe_imp (pe_slice sl_list ha hl hh) fun σ H Q ⟨Z, ρ, B, P, S, h, k⟩ => ⟨Z, ρ, B, _, S, h, fun c ρ1 v B1 H1 h1 x1 S1 o1 => ⟨Z, ρ1, B1, _, S1, h1, fun l ρ2 B2 H2 h2 x2 S2 => ⟨Z, ρ2, B2, _, S2, h2, fun u ρ3 B3 H3 h3 x3 S3 => ?_⟩⟩⟩
  have o3 := (o1.ext x2).ext x3
  have x := (x1.trans x2).trans x3
  split at h3
  · rename_i ds q
    obtain ⟨l', xs, rfl, t1, r1⟩ := (rv_of S3 o3 q).list S3.subE
    exact ⟨l', xs, rfl, t1, fun p hp => k _ _ _ _ B3 H3 h3 x S3 hp (cut_all r1)⟩
  · exact h3.elim
/-! ### in -/
def flatD : D → Bool
  | .list _ => false
  | .tuple _ => false
  | .dict _ => false
  | _ => true
def inD (x : D) (ds : List D) : Bool := ds.any fun z => PyData.eqv z x
/-- x in a list or a tuple: of flat things, or data of any depth in a list -/
def oIn (neg : Bool) : DO := fun x y P => match y with
  | .list ds => ((flatD x = true ∧ ds.all flatD = true) ∨ (SeqAt.shaped x = true ∧ SeqAt.shaped (.list ds) = true)) ∧ P (.bool (if neg then !inD x ds else inD x ds))
  | .tuple ds => (flatD x = true ∧ ds.all flatD = true) ∧ P (.bool (if neg then !inD x ds else inD x ds))
  | _ => False
theorem flat_v {K : Fg} {B : Hp} {v : V} {d : D} (h : Dq K B v d) (f : flatD d = true) : flatV v = true := by
  cases h <;> first | rfl | cases f
theorem flat_all {K : Fg} {B : Hp} : ∀ {xs : List V} {ds : List D}, DqAll K B xs ds → ds.all flatD = true → xs.all flatV = true
  | _, _, .nil, _ => rfl
  | _, _, .cons h r, f => by
    rw [List.all_cons, Bool.and_eq_true] at f ⊢
    exact ⟨flat_v h f.1, flat_all r f.2⟩
theorem eqv_flat {K : Fg} {B B' : Hp} {v u : V} {d e : D} (h : Dq K B v d) (h' : Dq K B' u e) (f : flatD d = true) (f' : flatD e = true) : eqV v u = PyData.eqv d e := by
  cases h <;> first | (cases f; done) | (cases h' <;> first | (cases f'; done) | (simp [eqV, PyData.eqv]))
theorem inV_eq {K : Fg} {B B' : Hp} {v : V} {d : D} (h : Dq K B' v d) (f : flatD d = true) : ∀ {xs : List V} {ds : List D}, DqAll K B xs ds → ds.all flatD = true → inV v xs = inD d ds
  | _, _, .nil, _ => rfl
  | _, _, .cons h1 r, g => by
    rw [List.all_cons, Bool.and_eq_true] at g
    have ih := inV_eq h f r g.2
    unfold inV inD at ih ⊢
    rw [List.any_cons, List.any_cons, ih, eqv_flat h1 h g.1 f]
theorem opv_in {K : Fg} {neg : Bool} : OpV K (ror (rIn K neg) (if neg then rNotInD K else rInD K)) (oIn neg) := by
  intro B H x y dx dy P Q e a c h k
  cases dy <;> (try (exact (show False from h).elim))
  · rename_i ds
    obtain ⟨h, h2⟩ := h
    rcases h with ⟨f1, f2⟩ | ⟨f1, f2⟩
    · obtain ⟨l, xs, rfl, q1, r1⟩ := c.list e
      have ax := a.dpH e
      refine .inl ⟨l, xs, rfl, .inl q1, flat_v ax f1, flat_all r1 f2, ?_⟩
      rw [inV_eq ax f1 r1 f2]
      exact k _ _ _ _ h2 .no (.bl _)
    · refine .inr ?_
      have ad := (a.dpH e).dp (SeqAt.canLay_of_shaped f1)
      have cd := (c.dpH e).dp (SeqAt.canLay_of_shaped f2)
      cases neg with
      | true => exact ⟨dx, ds, ad, cd, f1, f2, k _ _ _ _ h2 .no (.bl _)⟩
      | false => exact ⟨dx, ds, ad, cd, f1, f2, k _ _ _ _ h2 .no (.bl _)⟩
  · rename_i ds
    obtain ⟨⟨f1, f2⟩, h2⟩ := h
    obtain ⟨l, xs, rfl, q1, r1⟩ := c.tup e
    have ax := a.dpH e
    refine .inl ⟨l, xs, rfl, .inr q1, flat_v ax f1, flat_all r1 f2, ?_⟩
    rw [inV_eq ax f1 r1 f2]
    exact k _ _ _ _ h2 .no (.bl _)
theorem op_in' (hu : X.A.units + 65 < cLine) : OpR X (compareOp .In) (ror (rIn X.K false) (if false then rNotInD X.K else rInD X.K)) := op_or op_in_seq (op_inD hu)
theorem op_notin' (hu : X.A.units + 65 < cLine) : OpR X (compareOp .NotIn) (ror (rIn X.K true) (if true then rNotInD X.K else rInD X.K)) := op_or op_notIn_seq (op_notInD hu)
end
end VL

end

/-! #### VN -/
section
set_option autoImplicit false
set_option maxRecDepth 100000
set_option maxHeartbeats 2000000
/-! chains, own dicts, index, calls by keyword, more parallel assignments -/
namespace VL
open PySem PySem.Spec PyProof.Rows L2
section
variable {X : Cx} {as : As} {a b c e : Expr} {es : List Expr} {t u v : WE} {pos : Pos} {st : Stmt} {sts : List Stmt}
/-! ### a op1 b op2 c -/
def wChain (o1 o2 : DO) (t u v : WE) : WE := fun ρ P => t ρ fun c1 ρ1 => u ρ1 fun c2 ρ2 => ∃ x y, der ρ2 c1 = some x ∧ der ρ2 c2 = some y ∧ o1 x y fun d =>
  (d = .bool true ∧ v ρ2 fun c3 ρ3 => ∃ y' z, der ρ3 c2 = some y' ∧ der ρ3 c3 = some z ∧ o2 y' z fun d' => P (.d d') ρ3) ∨ (d = .bool false ∧ P (.d (.bool false)) ρ2)
theorem up_chain {K : Fg} {r r' : R2} {o o' : DO} (hv : OpV K r o) (hv' : OpV K r' o') {σ : L2.St} {H : Hp} {Q : VK} (h : up K as (wChain o o' t u v) σ H Q) : tChain r r' (up K as t) (up K as u) (up K as v) σ H Q := by
  obtain ⟨Z, ρ, B, P, S, h, k⟩ := h
  refine ⟨Z, ρ, B, _, S, h, fun c1 ρ1 v1 B1 H1 h1 x1 S1 o1 => ?_⟩
  refine ⟨Z, ρ1, B1, _, S1, h1, fun c2 ρ2 v2 B2 H2 h2 x2 S2 o2 => ?_⟩
  obtain ⟨x, y, e1, e2, h3⟩ := h2
  refine hv B2 H2 v1 v2 x y _ _ S2.subE (rv_of S2 (o1.ext x2) e1) (rv_of S2 o2 e2) h3 fun d w B3 H3 p al hd => ?_
  obtain ⟨S3, x3⟩ := S2.alc al
  rcases p with ⟨rfl, p⟩ | ⟨rfl, p⟩
  · cases hd
    refine ⟨true, rfl, ?_⟩
    rw [if_pos rfl]
    refine ⟨Z, ρ2, B3, _, S3, p, fun c3 ρ3 v3 B4 H4 h4 x4 S4 o4 => ?_⟩
    obtain ⟨y', z, e3, e4, h5⟩ := h4
    refine hv' B4 H4 v2 v3 y' z _ _ S4.subE (rv_of S4 (o2.ext (x3.trans x4)) e3) (rv_of S4 o4 e4) h5 fun d' w' B5 H5 p5 al5 hd5 => ?_
    obtain ⟨S5, x5⟩ := S4.alc al5
    exact k _ _ w' B5 H5 p5 ((((x1.trans x2).trans x3).trans x4).trans x5) S5 hd5
  · cases hd
    refine ⟨false, rfl, ?_⟩
    rw [if_neg Bool.false_ne_true]
    exact k _ _ _ B3 H3 p ((x1.trans x2).trans x3) S3 (.bl false)
theorem vchain {op op' : CmpOp} {r r' : R2} {o o' : DO} (ho : OpR X (compareOp op) r) (hv : OpV X.K r o) (ho' : OpR X (compareOp op') r') (hv' : OpV X.K r' o') (ha : PE X a (up X.K as t)) (hb : PE X b (up X.K as u)) (hc : PE X c (up X.K as v))
    (hm : lastMarks [op, op'] [b, c] = false := by with_unfolding_all rfl) : PE X (.Compare a [op, op'] [b, c] pos) (up X.K as (wChain o o' t u v)) :=
  pe_imp (pe_chain ho ho' ha hb hc hm) fun _ _ _ h => up_chain hv hv' h
theorem tchain {op op' : CmpOp} {r r' : R2} {o o' : DO} (ho : OpR X (compareOp op) r) (hv : OpV X.K r o) (ho' : OpR X (compareOp op') r') (hv' : OpV X.K r' o') (ha : PE X a (up X.K as t)) (hb : PE X b (up X.K as u)) (hc : PE X c (up X.K as v))
    (hm : lastMarks [op, op'] [b, c] = false := by with_unfolding_all rfl) : PT X (.Compare a [op, op'] [b, c] pos) (upT X.K as (wTest (wChain o o' t u v))) := by
  refine pt_imp (pt_chain ho ho' ha hb hc hm) fun σ H Q ⟨Z, ρ, B, P, S, h, k⟩ => up_chain hv hv' ⟨Z, ρ, B, _, S, h, fun c ρ' v B' H' h1 x S' o1 => ?_⟩
  cases c with
  | loc i => exact h1.elim
  | d y =>
    cases y <;> (try (exact (show False from h1).elim))
    rename_i k2
    cases o1
    exact ⟨k2, rfl, k _ _ B' H' h1 x S'⟩
/-! ### - e -/
def wNeg (t : WE) : WE := fun ρ P => t ρ fun c ρ' => match c with
  | .d (.int i) => P (.d (.int (-i))) ρ'
  | _ => False
theorem vneg (h : PE X e (up X.K as t)) : PE X (.UnaryOp .USub e pos) (up X.K as (wNeg t)) := by
  refine pe_imp (pe_un un_neg h) fun σ H Q ⟨Z, ρ, B, P, S, h, k⟩ => ⟨Z, ρ, B, _, S, h, fun c ρ' v B' H' h1 x S' o1 => ?_⟩
  cases c with
  | loc i => exact h1.elim
  | d y =>
    cases y <;> (try (exact (show False from h1).elim))
    cases o1
    exact ⟨_, rfl, k _ _ _ B' H' h1 x S' (.int _)⟩
/-! ### own dicts -/
def valD (kvs : List (Key × D)) (k : Key) : Option D := (kvs.find? fun kv => decide (kv.1 = k)).map (·.2)
def putD (kvs : List (Key × D)) (k : Key) (v : D) : List (Key × D) :=
  if (kvs.any fun kv => decide (kv.1 = k)) = true then kvs.map (fun kv => if kv.1 = k then (kv.1, v) else kv) else kvs ++ [(k, v)]
theorem DqKV.any {K : Fg} {B : Hp} (k : Key) : ∀ {vs : List (Key × V)} {ds : List (Key × D)}, DqKV K B vs ds → (vs.any fun kv => decide (kv.1 = k)) = ds.any fun kv => decide (kv.1 = k)
  | _, _, .nil => rfl
  | _, _, .cons h r => by rw [List.any_cons, List.any_cons, DqKV.any k r]
theorem DqKV.app {K : Fg} {B : Hp} {ws : List (Key × V)} {es : List (Key × D)} (s : DqKV K B ws es) : ∀ {vs : List (Key × V)} {ds : List (Key × D)}, DqKV K B vs ds → DqKV K B (vs ++ ws) (ds ++ es)
  | _, _, .nil => s
  | _, _, .cons h r => .cons h (DqKV.app s r)
theorem DqKV.repl {K : Fg} {B : Hp} {k : Key} {y : V} {d : D} (h : Dq K B y d) : ∀ {vs : List (Key × V)} {ds : List (Key × D)}, DqKV K B vs ds → DqKV K B (vs.map fun kv => if kv.1 = k then (kv.1, y) else kv) (ds.map fun kv => if kv.1 = k then (kv.1, d) else kv)
  | _, _, .nil => .nil
  | (k', v) :: vs, (_, d') :: ds, .cons h1 r => by
    rw [List.map_cons, List.map_cons]
    by_cases e : k' = k
    · simp only [e, if_true]
      exact .cons h (DqKV.repl h r)
    · simp only [e, if_false]
      exact .cons h1 (DqKV.repl h r)
theorem DqKV.put {K : Fg} {B : Hp} {k : Key} {y : V} {d : D} {vs : List (Key × V)} {ds : List (Key × D)} (r : DqKV K B vs ds) (h : Dq K B y d) : DqKV K B (putK vs k y) (putD ds k d) := by
  unfold putK putD
  rw [DqKV.any k r]
  split
  · exact DqKV.repl h r
  · exact DqKV.app (.cons h .nil) r
theorem DqKV.val {K : Fg} {B : Hp} (k : Key) : ∀ {vs : List (Key × V)} {ds : List (Key × D)}, DqKV K B vs ds → (valD ds k = none ∧ valV vs k = none) ∨ ∃ d v, valD ds k = some d ∧ valV vs k = some v ∧ Dq K B v d
  | _, _, .nil => .inl ⟨rfl, rfl⟩
  | (k', v) :: vs, (_, d') :: ds, .cons h1 r => by
    by_cases e : k' = k
    · refine .inr ⟨d', v, ?_, ?_, h1⟩
      · simp [valD, List.find?_cons, e]
      · exact valV_pos (p := (k', v)) e
    · have ih := DqKV.val k r
      rw [valV_neg (p := (k', v)) e, show valD ((k', d') :: ds) k = valD ds k by simp [valD, List.find?_cons, e]]
      exact ih
theorem DqKV.len {K : Fg} {B : Hp} : ∀ {vs : List (Key × V)} {ds : List (Key × D)}, DqKV K B vs ds → vs.length = ds.length
  | _, _, .nil => rfl
  | _, _, .cons _ r => congrArg (· + 1) (DqKV.len r)
theorem Dq.key {K : Fg} {B : Hp} {v : V} : ∀ {k : Key}, Dq K B v (keyD k) → v = kV k
  | .inl i, h => by
    cases h
    rfl
  | .inr x, h => by
    cases h
    rfl
theorem dic_at {K : Fg} {Z : Hp} {ρ : En} {σ : L2.St} {B H : Hp} (S : Sv K as Z ρ σ B H) {i : Nat} {kvs : List (Key × D)} (h : ρ[i]? = some (.dic kvs)) : ∃ p vs, σ[i]? = some (some (V.ref p)) ∧ H p = some (.dK vs) ∧ DqKV K B vs kvs := by
  obtain ⟨p, h1, _, vs, h2, h3⟩ := S.own i _ h rfl
  exact ⟨p, vs, h1, h2, h3⟩
def wDnew (i : Nat) : WS := fun w ρ => i < ρ.length ∧ w.nx (ρ.set i (.dic []))
theorem sdnew {i : Nat} {x : Str} {pos' p2 : Pos} (hN : X.N.Nodup) (hi : X.N[i]? = some x := by rfl) (hx : Loc X.env.scope x := by first | exact Or.inl rfl | exact Or.inr rfl) (hs : swapsWith (.Dict [] [] p2) (some (.Name x pos')) pos.line X.env = pure false := by rfl) (hf : X.fn x = true ∨ X.env.scope.names.lookup x = some .local := by first | exact .inl rfl | exact .inr rfl | assumption) :
    PS X (.Assign [.Name x pos'] (.Dict [] [] p2) pos) (upS X.K as (wDnew i)) := by
  refine ps_imp (ps_set hN hi hx pe_dnewK hs hf) fun D σ H ⟨Z, ρ, B, w, S, h, m⟩ => fun p hp => ?_
  obtain ⟨B2, e2, S2, _⟩ := S.drop i
  exact m.nx _ _ B2 _ h.2 e2 (S2.putOwn hp rfl (fun ds z => by cases z) h.1 ⟨[], upd_same, .nil⟩)
def wDput (i : Nat) (u t : WE) : WS := fun w ρ => t ρ fun c ρ1 => ∃ y, c = .d y ∧ (∃ kvs, ρ1[i]? = some (.dic kvs)) ∧ u ρ1 fun c2 ρ2 => ∃ k kvs, c2 = .d (keyD k) ∧ ρ2[i]? = some (.dic kvs) ∧ kvs.length < sizeLine ∧ w.nx (ρ2.set i (.dic (putD kvs k y)))
theorem sdput (i : Nat) {x : Str} {p1 p2 : Pos} (hu : X.A.units + 1 < cLine) (hk : PE X b (up X.K as u)) (he : PE X e (up X.K as t)) (hN : X.N[i]? = some x := by rfl) (hv : Vis X.env.scope x := by first | exact Or.inl rfl | exact Or.inr (Or.inl rfl) | exact Or.inr (Or.inr rfl)) (hd : (x == ("__debug__" : Str)) = false := by decide) (hcd : (x == ("__classdict__" : Str)) = false := by decide)
    (hs : swapsWith e (some (.Subscript (.Name x p1) b p2)) pos.line X.env = pure false := by rfl) : PS X (.Assign [.Subscript (.Name x p1) b p2] e pos) (upS X.K as (wDput i u t)) := by
  refine ps_imp (ps_dput hu (pe_var hN hv hd hcd) hk he hs) fun E σ H ⟨Z, ρ, B, w, S, h, m⟩ => ⟨Z, ρ, B, _, S, h, fun c ρ1 v B1 H1 h1 x1 S1 o1 => ?_⟩
  obtain ⟨y, rfl, ⟨kvs0, h0⟩, h⟩ := h1
  obtain ⟨p, vs0, q1, q2, q3⟩ := dic_at S1 h0
  refine ⟨.ref p, q1, Z, ρ1, B1, _, S1, h, fun c2 ρ2 v2 B2 H2 h2 x2 S2 o2 => ?_⟩
  obtain ⟨k, kvs, rfl, h3, hl, h5⟩ := h2
  have ek : v2 = kV k := Dq.key (show Dq X.K B2 v2 (keyD k) from o2)
  obtain ⟨p1, vs, r1, r2, r3⟩ := dic_at S2 h3
  rw [q1] at r1
  cases r1
  have rp := r3.put (k := k) (Dq.ext x2 o1)
  refine ⟨p, _, rfl, ek ▸ DPut.k r2 (by rw [r3.len]; exact hl), m.nx _ _ B2 _ h5 (x1.trans x2) (S2.mut h3 rfl q1 rfl (fun ds z => by cases z) ⟨_, upd_same, rp⟩)⟩
def wDget (i : Nat) (u : WE) : WE := fun ρ P => (∃ kvs, ρ[i]? = some (.dic kvs)) ∧ u ρ fun c ρ1 => ∃ k kvs y, c = .d (keyD k) ∧ ρ1[i]? = some (.dic kvs) ∧ valD kvs k = some y ∧ P (.d y) ρ1
theorem vdget (i : Nat) {x : Str} {p1 : Pos} (hu : X.A.units + 1 < cLine) (hk : PE X b (up X.K as u)) (hns : NoSl b := by exact fun _ _ => rfl) (hN : X.N[i]? = some x := by rfl) (hv : Vis X.env.scope x := by first | exact Or.inl rfl | exact Or.inr (Or.inl rfl) | exact Or.inr (Or.inr rfl)) (hd : (x == ("__debug__" : Str)) = false := by decide) (hcd : (x == ("__classdict__" : Str)) = false := by decide) :
    PE X (.Subscript (.Name x p1) b pos) (up X.K as (wDget i u)) := by
  refine pe_imp (pe_dget hu (pe_var hN hv hd hcd) hk hns) fun σ H Q ⟨Z, ρ, B, P, S, h, k⟩ => ?_
  obtain ⟨⟨kvs0, h0⟩, h⟩ := h
  obtain ⟨p, vs0, q1, q2, q3⟩ := dic_at S h0
  refine ⟨.ref p, q1, Z, ρ, B, _, S, h, fun c2 ρ2 v2 B2 H2 h2 x2 S2 o2 => ?_⟩
  obtain ⟨key, kvs, y, rfl, h3, hl, h5⟩ := h2
  have ek : v2 = kV key := Dq.key (show Dq X.K B2 v2 (keyD key) from o2)
  obtain ⟨p1, vs, r1, r2, r3⟩ := dic_at S2 h3
  rw [q1] at r1
  cases r1
  rcases r3.val key with ⟨z, _⟩ | ⟨d, vv, z1, z2, z3⟩
  · rw [hl] at z
    cases z
  · rw [hl] at z1
    cases z1
    exact ⟨p, vv, rfl, ek ▸ z2 ▸ DGet.k r2, k _ _ vv B2 H2 h5 x2 S2 z3⟩
def wDin (i : Nat) (u : WE) : WT := fun ρ P => u ρ fun c ρ1 => ∃ k kvs, c = .d (keyD k) ∧ ρ1[i]? = some (.dic kvs) ∧ P (valD kvs k).isSome ρ1
def wDnin (i : Nat) (u : WE) : WT := fun ρ P => u ρ fun c ρ1 => ∃ k kvs, c = .d (keyD k) ∧ ρ1[i]? = some (.dic kvs) ∧ P (!(valD kvs k).isSome) ρ1
theorem DqKV.isSome {K : Fg} {B : Hp} (k : Key) {vs : List (Key × V)} {ds : List (Key × D)} (r : DqKV K B vs ds) : (valV vs k).isSome = (valD ds k).isSome := by
  rcases r.val k with ⟨z, z2⟩ | ⟨d, vv, z1, z2, z3⟩
  · rw [z, z2]
    rfl
  · rw [z1, z2]
    rfl
theorem tdin (i : Nat) {x : Str} {p1 : Pos} (hu : X.A.units + 1 < cLine) (hk : PE X b (up X.K as u)) (hN : X.N[i]? = some x := by rfl) (hv : Vis X.env.scope x := by first | exact Or.inl rfl | exact Or.inr (Or.inl rfl) | exact Or.inr (Or.inr rfl)) (hd : (x == ("__debug__" : Str)) = false := by decide) (hcd : (x == ("__classdict__" : Str)) = false := by decide) :
    PT X (.Compare b [.In] [.Name x p1] pos) (upT X.K as (wDin i u)) := by
  refine pt_imp (pt_cmp (pc_din hu hk (pe_var hN hv hd hcd)) rfl) fun σ H Q ⟨Z, ρ, B, P, S, h, k⟩ => ⟨Z, ρ, B, _, S, h, fun c2 ρ2 v2 B2 H2 h2 x2 S2 o2 => ?_⟩
  obtain ⟨key, kvs, rfl, h3, h5⟩ := h2
  have ek : v2 = kV key := Dq.key (show Dq X.K B2 v2 (keyD key) from o2)
  obtain ⟨p1, vs, r1, r2, r3⟩ := dic_at S2 h3
  exact ⟨.ref p1, r1, p1, _, rfl, ek ▸ DGet.k r2, _, rfl, by rw [r3.isSome]; exact k _ _ B2 H2 h5 x2 S2⟩
theorem tdnin (i : Nat) {x : Str} {p1 : Pos} (hu : X.A.units + 1 < cLine) (hk : PE X b (up X.K as u)) (hN : X.N[i]? = some x := by rfl) (hv : Vis X.env.scope x := by first | exact Or.inl rfl | exact Or.inr (Or.inl rfl) | exact Or.inr (Or.inr rfl)) (hd : (x == ("__debug__" : Str)) = false := by decide) (hcd : (x == ("__classdict__" : Str)) = false := by decide) :
    PT X (.Compare b [.NotIn] [.Name x p1] pos) (upT X.K as (wDnin i u)) := by
  refine pt_imp (pt_cmp (pc_dnotin hu hk (pe_var hN hv hd hcd)) rfl) fun σ H Q ⟨Z, ρ, B, P, S, h, k⟩ => ⟨Z, ρ, B, _, S, h, fun c2 ρ2 v2 B2 H2 h2 x2 S2 o2 => ?_⟩
  obtain ⟨key, kvs, rfl, h3, h5⟩ := h2
  have ek : v2 = kV key := Dq.key (show Dq X.K B2 v2 (keyD key) from o2)
  obtain ⟨p1, vs, r1, r2, r3⟩ := dic_at S2 h3
  exact ⟨.ref p1, r1, p1, _, rfl, ek ▸ DGet.k r2, _, rfl, by rw [r3.isSome]; exact k _ _ B2 H2 h5 x2 S2⟩
/-! ### xs.index(y) of an own list, xs[::-1] -/
def firstAt (ds : List D) (y : D) (j : Nat) : Prop := (∃ z, ds[j]? = some z ∧ PyData.eqv z y = true) ∧ ∀ (m : Nat) (z' : D), m < j → ds[m]? = some z' → PyData.eqv z' y = false
def wIndex (t0 t : WE) : WE := fun ρ P => t0 ρ fun c0 ρ0 => (∃ ds0, der ρ0 c0 = some (.list ds0)) ∧ t ρ0 fun c ρ1 => ∃ y ds j, c = .d y ∧ der ρ1 c0 = some (.list ds) ∧ flatD y = true ∧ ds.all flatD = true ∧ firstAt ds y j ∧ P (.d (.int j)) ρ1
theorem all_at {ds : List D} {j : Nat} {z : D} (h : ds.all flatD = true) (e : ds[j]? = some z) : flatD z = true := List.all_eq_true.mp h z (List.mem_of_getElem? e)
theorem vindex {t0 : WE} {o : Expr} {p2 cpos : Pos} (ho : PE X o (up X.K as t0)) (ha : PE X e (up X.K as t))
    (hbase : attributeBase o "index" X.env (eval o X.env) = eval o X.env := by rfl)
    (hfew : ((backTo cpos (starEach (e :: []) X.env)).all (fun x => !x.1) && (backToKw cpos (keywordEach [] X.env)).all (fun x => x.1.isSome) && decide ((e :: []).length + ([] : List Keyword).length + (if ([] : List Keyword).isEmpty then 0 else 1) < 30)) = true := by rfl)
    (hline : (p2.endLine == cpos.line) = true := by rfl) (he : starEach (e :: []) X.env = (false, eval e X.env) :: starEach [] X.env := by rfl) (hplain : (backTo cpos (starEach [] X.env)).any (·.1) = false := by rfl) :
    PE X (.Call (.Attribute o "index" p2) [e] [] cpos) (up X.K as (wIndex t0 t)) := by
  refine pe_imp (pe_bm PySem.F.plainAttrs_list PySem.F.slot_list_index PySem.F.type_list_index mt_index ho (pa_cons ha pa_nil he) hbase hfew hline he hplain) fun σ H Q ⟨Z, ρ, B, P, S, h, k⟩ => ⟨Z, ρ, B, _, S, h, fun c0 ρ0 v0 B0 H0 h0 x0 S0 o0 => ?_⟩
  obtain ⟨⟨ds0, e0⟩, h⟩ := h0
  obtain ⟨p, xs, rfl, q2, q3⟩ := (rv_of S0 o0 e0).list S0.subE
  refine ⟨.inl ⟨rfl, xs, q2⟩, Z, ρ0, B0, _, S0, h, fun c ρ1 v B1 H1 h1 x1 S1 o1 => ?_⟩
  obtain ⟨y, ds1, j, rfl, h2, f1, f2, ⟨⟨z, g1, g2⟩, g3⟩, h3⟩ := h1
  obtain ⟨p1, ys, r1, r2, r3⟩ := (rv_of S1 (o0.ext x1) h2).list S1.subE
  cases r1
  obtain ⟨zv, g4, g5⟩ := r3.get g1
  have o1' : Dq X.K B1 v y := o1
  refine ⟨p, ys, v, j, zv, rfl, rfl, r2, flat_v o1' f1, flat_all r3 f2, g4, ?_, fun m z' hm hz => ?_, k _ _ _ B1 H1 h3 (x0.trans x1) S1 (.int _)⟩
  · rw [eqv_flat g5 o1' (all_at f2 g1) f1]
    exact g2
  · obtain ⟨d', e1, e2⟩ := r3.getV hz
    rw [eqv_flat e2 o1' (all_at f2 e1) f1]
    exact g3 m d' hm e1
def wRev (t : WE) : WE := fun ρ P => t ρ fun c ρ1 => match der ρ1 c with
  | some (.list ds) => P (.d (.list ds.reverse)) ρ1
  | _ => False
theorem vrev {k : Nat} {p1 p2 p3 : Pos} (ha : PE X e (up X.K as t)) : PE X (.Subscript e (.Slice none none (some (.UnaryOp .USub (.Constant (.int 1) k p1) p2)) p3) pos) (up X.K as (wRev t)) := by
  refine pe_imp (pe_revL ha) fun σ H Q ⟨Z, ρ, B, P, S, h, k⟩ => ⟨Z, ρ, B, _, S, h, fun c ρ1 v B1 H1 h1 x1 S1 o1 => ?_⟩
  split at h1
  · rename_i ds q
    obtain ⟨l', xs, rfl, t1, r1⟩ := (rv_of S1 o1 q).list S1.subE
    exact ⟨l', xs, rfl, t1, fun p hp => k _ _ _ _ _ h1 (x1.trans (.new (S1.free hp))) (S1.al hp) (.lst (.inl (.inl upd_same)) (DqAll.ext (.new (S1.free hp)) r1.rev))⟩
  · exact h1.elim
/-! ### parallel assignments -/
/-- a, b = a new list of the frame's own, data -/
def wParNE (i j : Nat) (n : WN) (t : WE) : WS := fun w ρ => n ρ fun ds ρ1 => t ρ1 fun c ρ2 => ∃ y, c = .d y ∧ i < ρ2.length ∧ w.nx ((ρ2.set i (.lst false ds)).set j (.dat y))
theorem set_un_un {ρ : En} {i j : Nat} {c : Cell} (h : i ≠ j) : (ρ.set i c).set j .un = (ρ.set j .un).set i c := List.set_comm _ _ h
theorem sparNE {i j : Nat} {x y : Str} {n : WN} {px py pt : Pos} {kt k2 pt2} (hc : X.calm = true) (hN : X.N.Nodup) (ha : PE X a (upN X.K as n)) (hb : PE X b (up X.K as t)) (hw : swappedStores [.Tuple [.Name x px, .Name y py] kt pt] (.Tuple [a, b] k2 pt2) X.env = pure (some [x, y]) := by rfl) (hi : X.N[i]? = some x := by rfl) (hj : X.N[j]? = some y := by rfl) (hij : i ≠ j := by decide)
    (hx : X.env.scope.names.lookup x = some .local := by rfl) (hy : X.env.scope.names.lookup y = some .local := by rfl)
    (he : starEach [a, b] X.env = (false, eval a X.env) :: starEach [b] X.env := by rfl) (he2 : starEach [b] X.env = (false, eval b X.env) :: starEach [] X.env := by rfl)
    (hs : swapsWithSole [.Tuple [.Name x px, .Name y py] kt pt] (.Tuple [a, b] k2 pt2) pos.line X.env = pure false := by rfl) :
    PS X (.Assign [.Tuple [.Name x px, .Name y py] kt pt] (.Tuple [a, b] k2 pt2) pos) (upS X.K as (wParNE i j n t)) := by
  refine ps_imp (ps_par hc hN hi hj hij hx hy (pa_cons ha (pa_cons hb pa_nil he2) he) hw hs) fun D σ H ⟨Z, ρ, B, w, S, h, m⟩ => ⟨Z, ρ, B, _, S, h, fun ds ρ1 p xs B1 H1 h1 x1 S1 hp r => ?_⟩
  have Zp := S1.nZ hp
  refine ⟨_, ρ1, B1, _, S1.hide (xs := xs) hp, h1, fun c ρ2 v2 B2 H2 h2 x2 S2 o2 => ?_⟩
  obtain ⟨y, rfl, hl, h3⟩ := h2
  obtain ⟨H0, S3, hp0, rfl⟩ := S2.unhide Zp
  obtain ⟨B4, e4, S4, _⟩ := S3.drop i
  have S5 := S4.putOwn (c := .lst false ds) hp0 rfl (fun ds z => by cases z) hl ⟨xs, upd_same, DqAll.ext (x2.trans e4) r⟩
  obtain ⟨B6, e6, S6, _⟩ := S5.drop j
  have o2' : Dq X.K B2 v2 y := o2
  exact ⟨.ref p, v2, rfl, m.nx _ _ B6 _ h3 (((x1.trans x2).trans e4).trans e6) (S6.put (Dq.ext (e4.trans e6) o2'))⟩
/-- a, b = data, a new list of the frame's own -/
def wParEN (i j : Nat) (t : WE) (n : WN) : WS := fun w ρ => t ρ fun c ρ1 => ∃ y, c = .d y ∧ n ρ1 fun ds ρ2 => j < ρ2.length ∧ w.nx ((ρ2.set i (.dat y)).set j (.lst false ds))
theorem sparEN {i j : Nat} {x y : Str} {n : WN} {px py pt : Pos} {kt k2 pt2} (hc : X.calm = true) (hN : X.N.Nodup) (ha : PE X a (up X.K as t)) (hb : PE X b (upN X.K as n)) (hw : swappedStores [.Tuple [.Name x px, .Name y py] kt pt] (.Tuple [a, b] k2 pt2) X.env = pure (some [x, y]) := by rfl) (hi : X.N[i]? = some x := by rfl) (hj : X.N[j]? = some y := by rfl) (hij : i ≠ j := by decide)
    (hx : X.env.scope.names.lookup x = some .local := by rfl) (hy : X.env.scope.names.lookup y = some .local := by rfl)
    (he : starEach [a, b] X.env = (false, eval a X.env) :: starEach [b] X.env := by rfl) (he2 : starEach [b] X.env = (false, eval b X.env) :: starEach [] X.env := by rfl)
    (hs : swapsWithSole [.Tuple [.Name x px, .Name y py] kt pt] (.Tuple [a, b] k2 pt2) pos.line X.env = pure false := by rfl) :
    PS X (.Assign [.Tuple [.Name x px, .Name y py] kt pt] (.Tuple [a, b] k2 pt2) pos) (upS X.K as (wParEN i j t n)) := by
  refine ps_imp (ps_par hc hN hi hj hij hx hy (pa_cons ha (pa_cons hb pa_nil he2) he) hw hs) fun D σ H ⟨Z, ρ, B, w, S, h, m⟩ => ⟨Z, ρ, B, _, S, h, fun c ρ1 v1 B1 H1 h1 x1 S1 o1 => ?_⟩
  obtain ⟨y, rfl, h1⟩ := h1
  have o1' : Dq X.K B1 v1 y := o1
  refine ⟨Z, ρ1, B1, _, S1, h1, fun ds ρ2 p xs B2 H2 h2 x2 S2 hp r => ?_⟩
  obtain ⟨B3, e3, S3, _⟩ := S2.drop i
  have S4 := S3.put (Dq.ext (x2.trans e3) o1')
  obtain ⟨B5, e5, S5, _⟩ := S4.drop j
  have S6 := S5.putOwn (c := .lst false ds) hp rfl (fun ds z => by cases z) (by rw [List.length_set]; exact h2.1) ⟨xs, upd_same, DqAll.ext (e3.trans e5) r⟩
  exact ⟨v1, .ref p, rfl, m.nx _ _ B5 _ h2.2 (((x1.trans x2).trans e3).trans e5) S6⟩
/-- a, b, c = data -/
def wPar3 (i j l : Nat) (r : WA) : WS := fun w ρ => r ρ fun cs ρ' => ∃ x y z, cs = [.d x, .d y, .d z] ∧ w.nx (((ρ'.set i (.dat x)).set j (.dat y)).set l (.dat z))
theorem cvs_three {K : Fg} {σ : L2.St} {B : Hp} {vs : List V} {c c' c2 : CV} (h : CvsOk K σ B vs [c, c', c2]) : ∃ v v' v2, vs = [v, v', v2] ∧ CvOk K σ B v c ∧ CvOk K σ B v' c' ∧ CvOk K σ B v2 c2 := by
  cases vs with
  | nil => exact h.elim
  | cons v r =>
    obtain ⟨v2, v3, rfl, h2, h3⟩ := cvs_two h.2
    exact ⟨v, v2, v3, rfl, h.1, h2, h3⟩
theorem spar3 {i j l : Nat} {x y z : Str} {r : WA} {px py pz pt : Pos} {kt k2 pt2} (hc : X.calm = true) (hN : X.N.Nodup) (ha : PA X [a, b, c] (upA X.K as r)) (hw : swappedStores [.Tuple [.Name x px, .Name y py, .Name z pz] kt pt] (.Tuple [a, b, c] k2 pt2) X.env = pure (some [x, y, z]) := by rfl)
    (hi : X.N[i]? = some x := by rfl) (hj : X.N[j]? = some y := by rfl) (hl : X.N[l]? = some z := by rfl) (hij : i ≠ j := by decide) (hil : i ≠ l := by decide) (hjl : j ≠ l := by decide)
    (hx : X.env.scope.names.lookup x = some .local := by rfl) (hy : X.env.scope.names.lookup y = some .local := by rfl) (hz : X.env.scope.names.lookup z = some .local := by rfl)
    (hs : swapsWithSole [.Tuple [.Name x px, .Name y py, .Name z pz] kt pt] (.Tuple [a, b, c] k2 pt2) pos.line X.env = pure false := by rfl) :
    PS X (.Assign [.Tuple [.Name x px, .Name y py, .Name z pz] kt pt] (.Tuple [a, b, c] k2 pt2) pos) (upS X.K as (wPar3 i j l r)) := by
  refine ps_imp (ps_par3 hc hN hi hj hl hij hil hjl hx hy hz ha hw hs) fun D σ H ⟨Z, ρ, B, w, S, h, m⟩ => ⟨Z, ρ, B, _, S, h, fun cs ρ' vs B' H' h1 xx S' o1 => ?_⟩
  obtain ⟨z1, z2, z3, rfl, h1⟩ := h1
  obtain ⟨v1, v2, v3, rfl, o1, o2, o3⟩ := cvs_three o1
  have o1' : Dq X.K B' v1 z1 := o1
  have o2' : Dq X.K B' v2 z2 := o2
  have o3' : Dq X.K B' v3 z3 := o3
  obtain ⟨B2, e2, S2, _⟩ := S'.drop i
  have S3 := S2.put (Dq.ext e2 o1')
  obtain ⟨B3, e3, S4, _⟩ := S3.drop j
  have S5 := S4.put (Dq.ext (e2.trans e3) o2')
  obtain ⟨B5, e5, S6, _⟩ := S5.drop l
  exact ⟨v1, v2, v3, rfl, m.nx _ _ B5 H' h1 (((xx.trans e2).trans e3).trans e5) (S6.put (Dq.ext ((e2.trans e3).trans e5) o3'))⟩
end
end VL

end

/-! #### VO -/
section
set_option autoImplicit false
set_option maxRecDepth 100000
set_option maxHeartbeats 2000000
/-! calls with keywords -/
namespace VL
open PySem PySem.Spec PyProof.Rows L2
/-- the places pm of xs -/
def gP {α : Type} (pm : List Nat) (xs : List α) : List α := pm.filterMap fun i => xs[i]?
theorem vals_at {vs : List V} {us : List Value} (r : Vals vs us) (i : Nat) : (vs[i]? = none ∧ us[i]? = none) ∨ ∃ v u, vs[i]? = some v ∧ us[i]? = some u ∧ RelV v u := by
  by_cases h : i < vs.length
  · obtain ⟨u, hu, ru⟩ := r.get (List.getElem?_eq_getElem h)
    exact .inr ⟨_, u, List.getElem?_eq_getElem h, hu, ru⟩
  · have l := r.length
    exact .inl ⟨List.getElem?_eq_none (by omega), List.getElem?_eq_none (by omega)⟩
theorem vals_gP {vs : List V} {us : List Value} (r : Vals vs us) : ∀ pm : List Nat, Vals (gP pm vs) (gP pm us)
  | [] => .nil
  | i :: pm => by
    rcases vals_at r i with ⟨h1, h2⟩ | ⟨v, u, h1, h2, h3⟩
    · have e1 : gP (i :: pm) vs = gP pm vs := by simp [gP, h1]
      have e2 : gP (i :: pm) us = gP pm us := by simp [gP, h2]
      rw [e1, e2]
      exact vals_gP r pm
    · have e1 : gP (i :: pm) vs = v :: gP pm vs := by simp [gP, h1]
      have e2 : gP (i :: pm) us = u :: gP pm us := by simp [gP, h2]
      rw [e1, e2]
      exact .cons h3 (vals_gP r pm)
theorem dqs_gP {K : Fg} {B : Hp} {vs : List V} {ds : List D} (r : DqAll K B vs ds) : ∀ pm : List Nat, DqAll K B (gP pm vs) (gP pm ds)
  | [] => .nil
  | i :: pm => by
    cases h : vs[i]? with
    | none =>
      have h2 : ds[i]? = none := by
        have l := r.len
        rw [List.getElem?_eq_none_iff] at h ⊢
        omega
      have e1 : gP (i :: pm) vs = gP pm vs := by simp [gP, h]
      have e2 : gP (i :: pm) ds = gP pm ds := by simp [gP, h2]
      rw [e1, e2]
      exact dqs_gP r pm
    | some v =>
      obtain ⟨d, h2, h3⟩ := r.getV h
      have e1 : gP (i :: pm) vs = v :: gP pm vs := by simp [gP, h]
      have e2 : gP (i :: pm) ds = d :: gP pm ds := by simp [gP, h2]
      rw [e1, e2]
      exact .cons h3 (dqs_gP r pm)
theorem CvsOk.len {K : Fg} {σ : L2.St} {B : Hp} : ∀ {vs : List V} {cs : List CV}, CvsOk K σ B vs cs → vs.length = cs.length
  | [], [], _ => rfl
  | _ :: _, _ :: _, h => congrArg (· + 1) (CvsOk.len h.2)
  | [], _ :: _, h => h.elim
  | _ :: _, [], h => h.elim
theorem CvsOk.app {K : Fg} {σ : L2.St} {B : Hp} {ws : List V} {es : List CV} (s : CvsOk K σ B ws es) : ∀ {vs : List V} {cs : List CV}, CvsOk K σ B vs cs → CvsOk K σ B (vs ++ ws) (cs ++ es)
  | [], [], _ => s
  | _ :: _, _ :: _, h => ⟨h.1, CvsOk.app s h.2⟩
  | [], _ :: _, h => h.elim
  | _ :: _, [], h => h.elim
/-- how a call with keywords binds -/
structure KwB (K : Fg) (fd : FuncData) (ps : List Str) (n : Nat) (ks : List Str) (pm : List Nat) : Prop where
  to : ∀ (s : Shared) (us ws : List Value), K.In s.heap → us.length = n → ws.length = ks.length → BindsTo s fd ⟨us, ks.zip ws⟩ (ps.zip (gP pm (us ++ ws)))
theorem kw_of {K : Fg} {x qual : Str} {st : Stmt} {f : Addr} {fd : FuncData} {ps ks : List Str} {n : Nat} {pm : List Nat} (F : Fun K x qual st f fd)
    (h : ∀ (kV doc pmv : Value) (an : Option Addr) (cdv ct : Value) (us ws : List Value), us.length = n → ws.length = ks.length → bindArgs (PySem.W.fnOf x qual (defArgs st) (defBody st) (defScope st) .none kV doc pmv an cdv ct) ⟨us, ks.zip ws⟩ = pure (ps.zip (gP pm (us ++ ws)))) : KwB K fd ps n ks pm := by
  obtain ⟨oc, od, kV, doc, pmv, an, cdv, ct, osl, rfl, lk, hcd⟩ := F.ex
  exact ⟨fun s us ws _ h1 h2 => BindsTo.of_eq (h kV doc pmv an cdv ct us ws h1 h2)⟩
section
variable {X : Cx} {k n m : Nat} {f : Addr} {fd : FuncData} {ps ks : List Str} {sp : Sp} {pm : List Nat}
theorem run_partK {W : Addr → Prop} {H B : Hp} {pins : List (Addr × Obj)} {σ : L2.St} {s : Shared} {Q : VK} {us ws : List Value} {vs zs : List V} (F : FnOk X.prog X.w X.K X.mg X.base CX0 k f fd ps sp) (hr : Room k X.A) (hb : KwB X.K fd ps n ks pm) (I : Inv X pins σ H s) (p : Part W H B) (r : Vals vs us) (rz : Vals zs ws)
    (l1 : vs.length = n) (l2 : zs.length = ks.length) (h : sp (gP pm (vs ++ zs)) B (fun v B' => (∀ a, W a → B' a = none) → Q v (ovl W H B')) E0) : wpAny (model X.prog X.w) X.A (call (.ref f) us (ks.zip ws)) (EP X pins σ Q) X.xe s := by
  have rr := vals_gP (r.append rz) pm
  have e0 := I.env0
  have nB : ∀ b, H b = none → B b = none := fun b n => by
    cases e : B b with
    | none => rfl
    | some o =>
      rw [p.sub e] at n
      cases n
  have e1 : Env0 X.prog X.w X.K X.mg X.base X.A X.stack s B := ⟨e0.frames, e0.mod, fun b o e => ⟨(e0.bs b o e).1, nB b (e0.bs b o e).2⟩, e0.bsz, e0.funs, fun b hb => nB b (e0.frf b hb), p.ok e0.hok, e0.bare⟩
  refine wpAny_call (codeAny_mono (F.run X.A X.stack s B ⟨us, ks.zip ws⟩ (gP pm (us ++ ws)) (gP pm (vs ++ zs)) _ E0 hr e1 (hb.to s us ws I.kIn (r.length.symm.trans l1) (rz.length.symm.trans l2)) rr h) fun r s' hq => ?_)
  cases r with
  | error e => exact False.elim hq
  | ok fl =>
    cases fl with
    | ret u =>
      obtain ⟨v, B', os, bare, un, hok, rv, q⟩ := hq
      obtain ⟨u1, u2, u3⟩ := p.un un I.hok hok e0.frf
      exact I.after ⟨v, _, os, bare, u1, u2, rv, q u3⟩
    | next => exact False.elim hq
    | brk => exact False.elim hq
    | cont => exact False.elim hq
def tCallKP (sp : Sp) (pm : List Nat) (n m : Nat) (t tk : TA) : TE := fun σ H Q => t σ H fun vs H1 => tk σ H1 fun zs H2 => ∃ (W : Addr → Prop) (B : Hp), Part W H2 B ∧ vs.length = n ∧ zs.length = m ∧ sp (gP pm (vs ++ zs)) B (fun v B' => (∀ a, W a → B' a = none) → Q v (ovl W H2 B')) E0
theorem pe_callKP {x : Str} {p pos : Pos} {e : Expr} {es : List Expr} {kws : List Keyword} {t tk : TA} (F : FnOk X.prog X.w X.K X.mg X.base CX0 k f fd ps sp) (hr : Room k X.A) (hg : Gl X x) (hm : X.mg x = some (.ref f)) (hk : PySem.W.keepIn X.K (.ref f) = true) (hb : KwB X.K fd ps n ks pm)
    (ha : PA X (e :: es) t) (hkw : PK X kws tk) (hl : ks.length = m) (hall : (backToKw pos (keywordEach kws X.env)).all (·.1.isSome) = true := by rfl) (hks : (backToKw pos (keywordEach kws X.env)).filterMap (·.1) = ks := by rfl)
    (hdb : (x == ("__debug__" : Str)) = false := by decide) (he : starEach (e :: es) X.env = (false, eval e X.env) :: starEach es X.env := by rfl)
    (hpl : ((backTo pos (starEach (e :: es) X.env)).any (·.1) || (backToKw pos (keywordEach kws X.env)).any (·.1.isNone)) = false := by rfl) :
    PE X (.Call (.Name x p) (e :: es) kws pos) (tCallKP sp pm n m t tk) := by
  refine ⟨fun pins s σ H Q I h => ?_⟩
  refine wpAny_Call_Name_kw (ld_glob I hg hm ?_ hdb)
  refine PySem.W.callWith_KW (h₀ := X.base) I.ok.mod.kin hk hall (thn (ha.run pos pins s σ H _ I h) fun us s1 ⟨vs, H1, I1, r, q⟩ => ?_) hpl he
  refine thn (hkw.run pos pins s1 σ H1 _ I1 q) fun ws s2 ⟨zs, H2, I2, rz, W, B, p, l1, l2, q2⟩ => ⟨I2.kIn, ?_⟩
  rw [hks]
  exact run_partK F hr hb I2 p r rz l1 (l2.trans hl.symm) q2
theorem pe_callKP0 {x : Str} {p pos : Pos} {kws : List Keyword} {tk : TA} (F : FnOk X.prog X.w X.K X.mg X.base CX0 k f fd ps sp) (hr : Room k X.A) (hg : Gl X x) (hm : X.mg x = some (.ref f)) (hk : PySem.W.keepIn X.K (.ref f) = true) (hb : KwB X.K fd ps 0 ks pm)
    (hkw : PK X kws tk) (hl : ks.length = m) (hall : (backToKw pos (keywordEach kws X.env)).all (·.1.isSome) = true := by rfl) (hks : (backToKw pos (keywordEach kws X.env)).filterMap (·.1) = ks := by rfl)
    (hdb : (x == ("__debug__" : Str)) = false := by decide)
    (hpl : ((backTo pos (starEach [] X.env)).any (·.1) || (backToKw pos (keywordEach kws X.env)).any (·.1.isNone)) = false := by rfl) :
    PE X (.Call (.Name x p) [] kws pos) (tCallKP sp pm 0 m tNil tk) := by
  refine ⟨fun pins s σ H Q I h => ?_⟩
  refine wpAny_Call_Name_kw (ld_glob I hg hm ?_ hdb)
  refine PySem.W.callWith_KW0 (h₀ := X.base) I.ok.mod.kin hk hall ?_ hpl
  refine thn (hkw.run pos pins s σ H _ I h) fun ws s2 ⟨zs, H2, I2, rz, W, B, p, l1, l2, q2⟩ => ⟨I2.kIn, ?_⟩
  rw [hks]
  exact run_partK (us := []) (vs := []) F hr hb I2 p .nil rz l1 (l2.trans hl.symm) q2
end
def wCallK (n m : Nat) (pm : List Nat) (S : Spec) (r rk : WA) : WE := fun ρ P => r ρ fun cs ρ0 => rk ρ0 fun zs ρ1 => ∃ ds, dats (cs ++ zs) = some ds ∧ cs.length = n ∧ zs.length = m ∧ (gP pm ds).length = pm.length ∧ S ((gP pm ds).map .dat) fun rv _ => match rv with
  | .d x => P (.d x) ρ1
  | .new es => P (.d (.list es)) ρ1
section
variable {X : Cx} {as : As} {k n m : Nat} {f : Addr} {fd : FuncData} {ps ks : List Str} {S : Spec} {x : Str} {p pos kpos : Pos} {e : Expr} {es : List Expr} {kws : List Keyword} {r rk : WA} {pm : List Nat} {t : WE} {nm : Option Str}
theorem aknil : PK X [] (upA X.K as wNil) := ⟨fun pos pins s σ H Q I ⟨Z, ρ, B, P, S, h, kk⟩ => pk_nil.run pos pins s σ H Q I (kk _ _ [] B H h (.refl B) S True.intro)⟩
theorem akcons (ha : PE X e (up X.K as t)) (hr : PK X kws (upA X.K as r)) : PK X (⟨nm, e, kpos⟩ :: kws) (upA X.K as (wCons t r)) :=
  ⟨fun pos pins s σ H Q I ⟨Z, ρ, B, P, S, h, kk⟩ => (pk_cons ha hr).run pos pins s σ H Q I ⟨Z, ρ, B, _, S, h, fun c ρ1 v B1 H1 h1 x1 S1 o1 => ⟨Z, ρ1, B1, _, S1, h1, fun cs ρ2 vs B2 H2 h2 x2 S2 o2 => kk _ _ (v :: vs) B2 H2 h2 (x1.trans x2) S2 ⟨o1.ext x2, o2⟩⟩⟩⟩
theorem up_callK {K : Fg} {σ : L2.St} {H : Hp} {Q : VK} (h : up K as (wCallK n m pm S r rk) σ H Q) : tCallKP (spV K as.2 pm.length S) pm n m (upA K as r) (upA K as rk) σ H Q := by
  obtain ⟨Z, ρ, B, P, S0, h, kk⟩ := h
  refine ⟨Z, ρ, B, _, S0, h, fun cs ρ0 vs B0 H0 h0 x0 S00 o0 => ⟨Z, ρ0, B0, _, S00, h0, fun zs ρ1 ws B1 H1 h1 x1' S1 o1 => ?_⟩⟩
  obtain ⟨ds, e1, e2, e3, e4, hs⟩ := h1
  have x1 := x0.trans x1'
  have o := CvsOk.app o1 (CvsOk.ext x1' o0)
  have r0 := dats_ok o e1
  have r := dqs_gP r0 pm
  refine ⟨_, B1, S1.part, by rw [o0.len]; exact e2, by rw [o1.len]; exact e3, by rw [r.len]; exact e4, _, B1, _, dats_map r S1.tab, hs, fun y ρ' v B' H' q x2 S2 dq hW => ?_, fun fs ρ' pp xs B' H' q x2 S2 hp dq hW => ?_⟩
  · have x3 : ExT B1 H' := x2.trans S2.ext
    exact kk _ _ v H' _ q (x1.trans x3) (S1.called x3 hW) (Dq.ext S2.ext dq)
  · have x4 : ExT B' (upd H' pp (.lst xs)) := S2.ext.trans (.new hp)
    have x3 : ExT B1 (upd H' pp (.lst xs)) := x2.trans x4
    exact kk _ _ _ _ _ q (x1.trans x3) (S1.called x3 hW) (.lst (.inl (.inl upd_same)) (DqAll.ext x4 dq))
theorem up_nil0 {K : Fg} {σ : L2.St} {H : Hp} {Q : VK} {sp : Sp} {tk : TA} (h : tCallKP sp pm 0 m (upA K as wNil) tk σ H Q) : tCallKP sp pm 0 m tNil tk σ H Q := by
  obtain ⟨Z, ρ, B, P, S, h, k⟩ := h
  exact k _ _ [] B H h (.refl B) S True.intro
theorem vcallK0 (F : CallOk X as.2 k pm.length x f fd ps S) (hr : Room k X.A) (hb : KwB X.K fd ps 0 ks pm) (hkw : PK X kws (upA X.K as rk)) (hl : ks.length = m := by rfl) (hg : Gl X x := by rfl) (hall : (backToKw pos (keywordEach kws X.env)).all (·.1.isSome) = true := by rfl) (hks : (backToKw pos (keywordEach kws X.env)).filterMap (·.1) = ks := by rfl)
    (hdb : (x == ("__debug__" : Str)) = false := by decide)
    (hpl : ((backTo pos (starEach [] X.env)).any (·.1) || (backToKw pos (keywordEach kws X.env)).any (·.1.isNone)) = false := by rfl) :
    PE X (.Call (.Name x p) [] kws pos) (up X.K as (wCallK 0 m pm S wNil rk)) := pe_imp (pe_callKP0 F.fn hr hg F.g F.kp hb hkw hl hall hks hdb hpl) fun _ _ _ h => up_nil0 (up_callK h)
theorem vcallK (F : CallOk X as.2 k pm.length x f fd ps S) (hr : Room k X.A) (hb : KwB X.K fd ps n ks pm) (ha : PA X (e :: es) (upA X.K as r)) (hkw : PK X kws (upA X.K as rk)) (hl : ks.length = m := by rfl) (hg : Gl X x := by rfl) (hall : (backToKw pos (keywordEach kws X.env)).all (·.1.isSome) = true := by rfl) (hks : (backToKw pos (keywordEach kws X.env)).filterMap (·.1) = ks := by rfl)
    (hdb : (x == ("__debug__" : Str)) = false := by decide) (he : starEach (e :: es) X.env = (false, eval e X.env) :: starEach es X.env := by rfl)
    (hpl : ((backTo pos (starEach (e :: es) X.env)).any (·.1) || (backToKw pos (keywordEach kws X.env)).any (·.1.isNone)) = false := by rfl) :
    PE X (.Call (.Name x p) (e :: es) kws pos) (up X.K as (wCallK n m pm S r rk)) := pe_imp (pe_callKP F.fn hr hg F.g F.kp hb ha hkw hl hall hks hdb he hpl) fun _ _ _ h => up_callK h
end
end VL

end

/-! #### VP -/
section
set_option autoImplicit false
set_option maxRecDepth 100000
set_option maxHeartbeats 2000000
/-! what the texts' defs hand on -/
namespace VL
open PySem PySem.Spec PyProof.Rows L2
def CSh (i j : Int) : Prop := 0 ≤ j ∧ (i.natAbs.log2 : Int) + j ≤ 1000000
abbrev oShl' : DO := oI CSh fun i j => .int (i * 2 ^ j.toNat)
theorem op_shl' {X : Cx} : OpR X (binaryOp .LShift) (rI CSh fun i j => .int (i * 2 ^ j.toNat)) := fun pins s σ H x y v u Q I rx ry ⟨i, j, h1, h2, c, q⟩ =>
  op_shlW pins s σ H x y v u Q I rx ry ⟨i, j, h1, h2, ⟨c.1, by
    have b : Builtin.Int.intBits i ≤ i.natAbs.log2 + 1 := by
      unfold Builtin.Int.intBits
      split <;> omega
    have := c.2
    omega⟩, q⟩
structure FOk (P : Program) (w : World) (K : Fg) (ts : List Addr) (mg : Str → Option Value) (base : Heap) (k n : Nat) (x : Str) (f : Addr) (fd : FuncData) (ps : List Str) (S : Spec) : Prop where
  fn : FnOk P w K mg base CX0 k f fd ps (spV K ts n S)
  g : mg x = some (.ref f)
  kp : PySem.W.keepIn K (.ref f) = true
  b : Binds K fd ps []
theorem hu65 {A : Around} {k : Nat} (hr : Room k A) : A.units + 65 < cLine := by
  have := hr.un
  omega
end VL

end

/-! #### VQ -/
section
set_option autoImplicit false
set_option maxRecDepth 100000
set_option maxHeartbeats 2000000
/-! the readings, worked out -/
namespace VL
open PySem PySem.Spec PyProof.Rows L2
theorem no_spec {P : Program} {w : World} {K : Fg} {mg : Str → Option Value} {base : Heap} {x qual : Str} {st : Stmt} {f : Addr} {fd : FuncData} {N ps : List Str} {k n : Nat} {ts : List Addr} {S : VL.Spec} (F : Fun K x qual st f fd) (Sc : FnScope N ps (defScope st)) (hn : ps.length = n) (hN : n ≤ N.length)
    (hS : ∀ ρ Q, S ρ Q → False) : FnOk P w K mg base CX0 (k + 1) f fd ps (spV K ts n S) := by
  refine F.ok Sc (fun vs H Q E h => h.1.trans hn.symm) (fun cdv A outer s H vs Q E hr h => ?_)
  obtain ⟨hl, ρ, B, R, Sv0, hs, _⟩ := h
  exact (hS ρ R hs).elim
theorem atI_0 {α : Type} {x : α} {r : List α} : atI (x :: r) 0 = some x := by
  unfold atI
  rw [show ixN (x :: r).length 0 = some 0 by simp [ixN]]
  rfl
theorem atI_1 {α : Type} {x y : α} {r : List α} : atI (x :: y :: r) 1 = some y := by
  unfold atI
  rw [show ixN (x :: y :: r).length 1 = some 1 by simp [ixN]; omega]
  rfl
theorem atI_2 {α : Type} {x y z : α} {r : List α} : atI (x :: y :: z :: r) 2 = some z := by
  unfold atI
  rw [show ixN (x :: y :: z :: r).length 2 = some 2 by simp [ixN]; omega]
  rfl
theorem shp_int {i : Int} : shp (.int i) = true := rfl
theorem shp_bool {i : Bool} : shp (.bool i) = true := rfl
theorem shp_none : shp .none = true := rfl
theorem eqv_int {i j : Int} : PyData.eqv (.int i) (.int j) = decide (i = j) := by
  simp only [PyData.eqv]
  by_cases h : i = j <;> simp [h]
theorem eqv_bool {i j : Bool} : PyData.eqv (.bool i) (.bool j) = decide (i = j) := by cases i <;> cases j <;> rfl
theorem ixN_20 : ixN 2 0 = some 0 := rfl
theorem ixN_21 : ixN 2 1 = some 1 := rfl
end VL
namespace VL
open PySem PySem.Spec PyProof.Rows L2
/-- the law's own call: a list of ints that stays -/
theorem law_sp {K : Fg} {H : Hp} {a : Addr} {ns : List Int} {ts : List Addr} {S : VL.Spec} (hT : ∀ p ∈ ts, H p = some (.tbl #[])) (hS : SqL K H a (ns.map V.int)) (h : S [.dat (.list (ns.map .int))] fun rv _ => rv = .d (.bool true)) : spV K ts 1 S [.ref a] H (fun v _ => v = V.bl true) fun _ _ _ => False := by
  refine ⟨rfl, _, H, _, dats_map (.cons (.lst hS (dqAll_ints ns)) .nil) (fun P hP => ⟨#[], hT P hP, True.intro⟩), h, fun x ρ' v B' H' q x2 S2 dq => ?_, fun ds ρ' p xs B' H' q x2 S2 hp dq => ?_⟩
  · cases q
    cases dq
    rfl
  · cases q
end VL

end

/-! #### VR -/
section
set_option autoImplicit false
set_option maxRecDepth 100000
set_option maxHeartbeats 2000000
/-! displays of dicts, as data -/
namespace VL
open PySem PySem.Spec PyProof.Rows L2
def mergeD (kvs more : List (Key × D)) : List (Key × D) := more.foldl (fun acc kv => putD acc kv.1 kv.2) kvs
theorem DqKV.merge {K : Fg} {B : Hp} : ∀ {more : List (Key × V)} {mds : List (Key × D)} {vs : List (Key × V)} {ds : List (Key × D)}, DqKV K B more mds → DqKV K B vs ds → DqKV K B (mergeK vs more) (mergeD ds mds)
  | _, _, _, _, .nil, r => r
  | (k, v) :: more, (_, d) :: mds, vs, ds, .cons h m, r => by
    show DqKV K B (mergeK (putK vs k v) more) (mergeD (putD ds k d) mds)
    exact DqKV.merge m (r.put h)
theorem DqKV.ps {K : Fg} {B : Hp} : ∀ {vs : List (Key × V)} {ds : List (Key × D)}, DqKV K B vs ds → DqPs K B vs (ds.map fun kv => (keyD kv.1, kv.2))
  | _, _, .nil => .nil
  | _, _, .cons h r => .cons h (DqKV.ps r)
/-- the pairs, from the left; the keys are written out -/
def wPairs : List (Key × WE) → En → (List (Key × D) → En → Prop) → Prop
  | [], ρ, P => P [] ρ
  | (k, t) :: r, ρ, P => t ρ fun c ρ1 => ∃ y, c = .d y ∧ wPairs r ρ1 fun kvs ρ2 => P ((k, y) :: kvs) ρ2
def upP (K : Fg) (as : As) (ws : List (Key × WE)) : L2.St → Hp → (List (V × V) → Hp → Prop) → Prop := fun σ H Q => ∃ Z ρ B P, Sv K as Z ρ σ B H ∧ wPairs ws ρ P ∧ ∀ kvs ρ' vs B' H', P kvs ρ' → ExT B B' → Sv K as Z ρ' σ B' H' → DqKV K B' vs kvs → Q (vs.map fun kv => (kV kv.1, kv.2)) H'
structure DsV (X : Cx) (as : As) (pos : Pos) (keys : List (Option Expr)) (values : List Expr) (trs : List (TE × TE)) (ws : List (Key × WE)) : Prop where
  pp : PPs X pos keys values trs
  ok : ∀ σ H Q, upP X.K as ws σ H Q → tPairs trs σ H Q
section
variable {X : Cx} {as : As} {e : Expr} {t : WE} {pos kp : Pos} {ks : List (Option Expr)} {vs : List Expr} {trs : List (TE × TE)} {ws : List (Key × WE)}
theorem dsnil : DsV X as pos [] [] [] [] := ⟨pps_nil, fun σ H Q ⟨Z, ρ, B, P, S, h, k⟩ => k [] ρ [] B H h (.refl B) S .nil⟩
theorem ds_one {key : Key} {ke : Expr} (hk : PE X ke (tC (kV key))) (he : PE X e (up X.K as t)) (r : DsV X as pos ks vs trs ws) : DsV X as pos (some ke :: ks) (e :: vs) ((tC (kV key), up X.K as t) :: trs) ((key, t) :: ws) :=
  ⟨pps_cons hk he r.pp, fun σ H Q ⟨Z, ρ, B, P, S, h, k⟩ => ⟨Z, ρ, B, _, S, h, fun c ρ1 v B1 H1 h1 x1 S1 o1 => by
    obtain ⟨y, rfl, h2⟩ := h1
    exact r.ok _ _ _ ⟨Z, ρ1, B1, _, S1, h2, fun kvs ρ2 us B2 H2 h3 x2 S2 r2 => k _ ρ2 ((key, v) :: us) B2 H2 h3 (x1.trans x2) S2 (.cons (Dq.ext x2 o1) r2)⟩⟩⟩
theorem dsint {i : Int} {j : Nat} (he : PE X e (up X.K as t)) (r : DsV X as pos ks vs trs ws) : DsV X as pos (some (.Constant (.int i) j kp) :: ks) (e :: vs) ((tC (kV (.inl i)), up X.K as t) :: trs) ((.inl i, t) :: ws) := ds_one (key := .inl i) pe_int he r
theorem dsstr {x : Str} {j : Nat} (he : PE X e (up X.K as t)) (r : DsV X as pos ks vs trs ws) : DsV X as pos (some (.Constant (.str x) j kp) :: ks) (e :: vs) ((tC (kV (.inr x)), up X.K as t) :: trs) ((.inr x, t) :: ws) := ds_one (key := .inr x) pe_str he r
/-- {}, {k: e, ..} as data -/
def wDisp0 : WE := fun ρ P => P (.d (.dict [])) ρ
def wDisp (ws : List (Key × WE)) : WE := fun ρ P => wPairs ws ρ fun kvs ρ' => kvs.length ≤ 15 ∧ P (.d (.dict ((mergeD [] kvs).map fun kv => (keyD kv.1, kv.2)))) ρ'
theorem vdisp0 : PE X (.Dict [] [] pos) (up X.K as wDisp0) :=
  pe_imp pe_dnewK fun σ H Q ⟨Z, ρ, B, P, S, h, k⟩ => fun p hp => k _ _ _ _ _ h (.new (S.free hp)) (S.al hp) (.dct (.inl upd_same) .nil)
theorem vdisp (h : DsV X as pos ks vs trs ws) (hall : ks.all (·.isSome) = true := by rfl) (hl : ks.length = vs.length := by rfl) (h0 : ks ≠ [] := by exact fun z => by cases z) (h15 : ks.length ≤ 15 := by decide) : PE X (.Dict ks vs pos) (up X.K as (wDisp ws)) := by
  refine pe_imp (pe_disp h.pp hall hl h0 h15) fun σ H Q ⟨Z, ρ, B, P, S, h1, k⟩ => fun p hp => ?_
  have Zp := S.nZ hp
  refine h.ok _ _ _ ⟨_, ρ, B, _, S.hideD (kvs := []) hp, h1, fun kvs ρ' us B' H' h2 x S' r => ?_⟩
  obtain ⟨H0, S0, hp0, rfl⟩ := S'.unhide Zp
  have rl := r.len
  refine ⟨upd_same, us, rfl, by rw [rl]; exact h2.1, ?_⟩
  have e : upd (upd H0 p (.dK [])) p (.dK (mergeK [] us)) = upd H0 p (.dK (mergeK [] us)) := by
    funext a
    by_cases z : a = p
    · rw [z, upd_same, upd_same]
    · rw [upd_ne z, upd_ne z, upd_ne z]
  rw [e]
  have x2 : ExT B' (upd B' p (.dK (mergeK [] us))) := .new (S0.free hp0)
  exact k _ _ _ _ _ h2.2 (x.trans x2) (S0.al hp0) (.dct (.inl upd_same) (DqKV.ps (DqKV.merge (r.ext x2) .nil)))
end
end VL

end

/-! #### VS -/
section
set_option autoImplicit false
set_option maxRecDepth 100000
set_option maxHeartbeats 2000000
/-! math.lcm -/
namespace VL
open PySem PySem.Spec PyProof.Rows L2
def rLcm : List V → Hp → VK → Prop := fun vs H Q => ∃ a b : Int, vs = [.int a, .int b] ∧ a.natAbs < 2 ^ 64 ∧ b.natAbs < 2 ^ 64 ∧ Q (.int ((Int.lcm a b : Nat) : Int)) H
theorem cr_lcm {X : Cx} : CallR X (.builtin "math.lcm") rLcm := by
  intro pins s σ H vs us Q I r h
  obtain ⟨a, b, rfl, ha, hb, q⟩ := h
  obtain ⟨t, u, rfl⟩ := Vals.int2 r
  have e : (((Nat.lcm 1 a.natAbs).lcm b.natAbs : Nat) : Int) = ((Int.lcm a b : Nat) : Int) := by
    rw [Nat.lcm_one_left]
    rfl
  refine PySem.W.mg_lcm_v ha hb e ?_ ⟨.int _, H, I.tok _, ⟨_, rfl⟩, q⟩
  have l : Int.lcm a b ≤ a.natAbs * b.natAbs := by
    have := Nat.gcd_mul_lcm a.natAbs b.natAbs
    by_cases z : Nat.gcd a.natAbs b.natAbs = 0
    · have z1 := Nat.eq_zero_of_gcd_eq_zero_left z
      show Nat.lcm a.natAbs b.natAbs ≤ _
      rw [z1, Nat.lcm_zero_left]
      exact Nat.zero_le _
    · show Nat.lcm a.natAbs b.natAbs ≤ _
      rw [← this]
      exact Nat.le_mul_of_pos_left _ (Nat.pos_of_ne_zero z)
  have m : a.natAbs * b.natAbs < 2 ^ 64 * 2 ^ 64 := Nat.mul_lt_mul'' ha hb
  rw [Int.natAbs_natCast]
  by_cases z : Int.lcm a b = 0
  · rw [z]
    decide
  · have : (Int.lcm a b).log2 < 128 := (Nat.log2_lt z).mpr (Nat.lt_of_le_of_lt l (Nat.lt_of_lt_of_le m (by decide)))
    exact Nat.lt_of_lt_of_le this (by decide)
def oLcm : DC := fun ds P => match ds with
  | [.int i, .int j] => i.natAbs < 2 ^ 64 ∧ j.natAbs < 2 ^ 64 ∧ P (.int ((Int.lcm i j : Nat) : Int))
  | _ => False
theorem cv_lcm {K : Fg} : CallV K rLcm oLcm := by
  intro B H vs ds P Q e a c k
  unfold oLcm at c
  split at c
  · obtain ⟨v, u, rfl, b1, b2⟩ := a.two
    cases b1.int
    cases b2.int
    exact ⟨_, _, rfl, c.1, c.2.1, k _ _ _ _ c.2.2 .no (.int _)⟩
  · exact c.elim
/-! ### x.pop(), x.reverse(), x.clear() of a list of the frame's own -/
section
variable {X : Cx} {as : As} {x : Str}
theorem DqAll.dropLast {K : Fg} {B : Hp} {xs : List V} {ds : List D} (r : DqAll K B xs ds) : DqAll K B xs.dropLast ds.dropLast := by
  rw [List.dropLast_eq_take, List.dropLast_eq_take, r.len]
  exact DqAll.take _ r
def wPop (i : Nat) : WE := fun ρ P => ∃ io ds y, ρ[i]? = some (.lst io ds) ∧ ds[ds.length - 1]? = some y ∧ P (.d y) (ρ.set i (.lst io ds.dropLast))
theorem vpop (i : Nat) {p1 p2 cpos : Pos} (hN : X.N[i]? = some x := by rfl) (hv : Vis X.env.scope x := by first | exact Or.inl rfl | exact Or.inr (Or.inl rfl) | exact Or.inr (Or.inr rfl)) (hd : (x == ("__debug__" : Str)) = false := by decide) (hcd : (x == ("__classdict__" : Str)) = false := by decide)
    (hbase : attributeBase (.Name x p1) "pop" X.env (eval (.Name x p1) X.env) = eval (.Name x p1) X.env := by rfl) (hline : (p2.endLine == cpos.line) = true := by rfl) : PE X (.Call (.Attribute (.Name x p1) "pop" p2) [] [] cpos) (up X.K as (wPop i)) := by
  refine pe_imp (pe_bm0 PySem.F.plainAttrs_list PySem.F.slot_list_pop PySem.F.type_list_pop mt_pop (pe_var hN hv hd hcd) hbase hline) fun σ H Q ⟨Z, ρ, B, P, S, h, k⟩ => ?_
  obtain ⟨io, ds, y, h0, hy, h⟩ := h
  obtain ⟨p, xs, q1, q2, q3⟩ := own_at S h0
  obtain ⟨v, g1, g2⟩ := q3.get hy
  refine ⟨.ref p, q1, .inl ⟨rfl, xs, .inl (.inl q2)⟩, p, xs, v, rfl, rfl, q2, by rw [q3.len]; exact g1, k _ _ v B _ h (.refl B) (S.store h0 q1 q3.dropLast) g2⟩
def wRevM (i : Nat) : WE := fun ρ P => ∃ io ds, ρ[i]? = some (.lst io ds) ∧ P (.d .none) (ρ.set i (.lst io ds.reverse))
theorem vrevm (i : Nat) {p1 p2 cpos : Pos} (hN : X.N[i]? = some x := by rfl) (hv : Vis X.env.scope x := by first | exact Or.inl rfl | exact Or.inr (Or.inl rfl) | exact Or.inr (Or.inr rfl)) (hd : (x == ("__debug__" : Str)) = false := by decide) (hcd : (x == ("__classdict__" : Str)) = false := by decide)
    (hbase : attributeBase (.Name x p1) "reverse" X.env (eval (.Name x p1) X.env) = eval (.Name x p1) X.env := by rfl) (hline : (p2.endLine == cpos.line) = true := by rfl) : PE X (.Call (.Attribute (.Name x p1) "reverse" p2) [] [] cpos) (up X.K as (wRevM i)) := by
  refine pe_imp (pe_bm0 PySem.F.plainAttrs_list PySem.F.slot_list_reverse PySem.F.type_list_reverse mt_reverse (pe_var hN hv hd hcd) hbase hline) fun σ H Q ⟨Z, ρ, B, P, S, h, k⟩ => ?_
  obtain ⟨io, ds, h0, h⟩ := h
  obtain ⟨p, xs, q1, q2, q3⟩ := own_at S h0
  exact ⟨.ref p, q1, .inl ⟨rfl, xs, .inl (.inl q2)⟩, p, xs, rfl, rfl, q2, k _ _ _ B _ h (.refl B) (S.store h0 q1 q3.rev) .non⟩
def wClearM (i : Nat) : WE := fun ρ P => ∃ io ds, ρ[i]? = some (.lst io ds) ∧ P (.d .none) (ρ.set i (.lst io []))
theorem vclearm (i : Nat) {p1 p2 cpos : Pos} (hN : X.N[i]? = some x := by rfl) (hv : Vis X.env.scope x := by first | exact Or.inl rfl | exact Or.inr (Or.inl rfl) | exact Or.inr (Or.inr rfl)) (hd : (x == ("__debug__" : Str)) = false := by decide) (hcd : (x == ("__classdict__" : Str)) = false := by decide)
    (hbase : attributeBase (.Name x p1) "clear" X.env (eval (.Name x p1) X.env) = eval (.Name x p1) X.env := by rfl) (hline : (p2.endLine == cpos.line) = true := by rfl) : PE X (.Call (.Attribute (.Name x p1) "clear" p2) [] [] cpos) (up X.K as (wClearM i)) := by
  refine pe_imp (pe_bm0 PySem.F.plainAttrs_list PySem.F.slot_list_clear PySem.F.type_list_clear mt_clear (pe_var hN hv hd hcd) hbase hline) fun σ H Q ⟨Z, ρ, B, P, S, h, k⟩ => ?_
  obtain ⟨io, ds, h0, h⟩ := h
  obtain ⟨p, xs, q1, q2, q3⟩ := own_at S h0
  exact ⟨.ref p, q1, .inl ⟨rfl, xs, .inl (.inl q2)⟩, p, xs, rfl, rfl, q2, k _ _ _ B _ h (.refl B) (S.store h0 q1 .nil) .non⟩
end
end VL

end

/-! #### VT -/
section
set_option autoImplicit false
set_option maxRecDepth 100000
set_option maxHeartbeats 2000000
/-! tuple(range(..)), list(range(..)) -/
namespace VL
open PySem PySem.Spec PyProof.Rows L2
abbrev WR := En → (Int → Int → En → Prop) → Prop
def upR (K : Fg) (as : As) (t : WR) : L2.St → Hp → (Int → Int → Hp → Prop) → Prop := fun σ H Q => ∃ Z ρ B P, Sv K as Z ρ σ B H ∧ t ρ P ∧ ∀ a b ρ' B' H', P a b ρ' → ExT B B' → Sv K as Z ρ' σ B' H' → Q a b H'
def wR1 (t : WE) : WR := fun ρ P => t ρ fun c ρ' => ∃ i, c = .d (.int i) ∧ P 0 i ρ'
def wR2 (t u : WE) : WR := fun ρ P => t ρ fun c ρ' => ∃ i, c = .d (.int i) ∧ u ρ' fun c' ρ2 => ∃ j, c' = .d (.int j) ∧ P i j ρ2
theorem rg_all {K : Fg} {B : Hp} (a b : Int) : DqAll K B (rgV a b) (rngD a b) := by
  have g : ∀ l : List Nat, DqAll K B (l.map fun i => V.int (a + (i : Nat))) (l.map fun (i : Nat) => PyData.int (a + i)) := fun l => by
    induction l with
    | nil => exact .nil
    | cons i r ih => exact .cons (.int _) ih
  exact g _
section
variable {X : Cx} {as : As} {a b e : Expr} {t u : WE} {r : WR} {p pos : Pos}
theorem rg1 (hm : X.mg "range" = none) (ha : PE X a (up X.K as t)) (hg : Gl X "range" := by rfl) (na : starEach [a] X.env = (false, eval a X.env) :: starEach [] X.env := by rfl) : PRg X (.Call (.Name "range" p) [a] [] pos) (upR X.K as (wR1 t)) :=
  fun pins s σ H Q I ⟨Z, ρ, B, P, S, h, k⟩ => prg_1 hg hm ha na pins s σ H Q I ⟨Z, ρ, B, _, S, h, fun c ρ' v B' H' h1 x S' o1 => by
    obtain ⟨i, rfl, h1⟩ := h1
    have o : Dq X.K B' v (.int i) := o1
    cases o
    exact ⟨i, rfl, k 0 i ρ' B' H' h1 x S'⟩⟩
theorem rg2 (hm : X.mg "range" = none) (ha : PE X a (up X.K as t)) (hb : PE X b (up X.K as u)) (hg : Gl X "range" := by rfl) (na : starEach [a, b] X.env = (false, eval a X.env) :: starEach [b] X.env := by rfl) (nb : starEach [b] X.env = (false, eval b X.env) :: starEach [] X.env := by rfl)
    (hp : (backTo pos (starEach [b] X.env)).any (·.1) = false := by rfl) : PRg X (.Call (.Name "range" p) [a, b] [] pos) (upR X.K as (wR2 t u)) :=
  fun pins s σ H Q I ⟨Z, ρ, B, P, S, h, k⟩ => prg_2 hg hm ha hb na nb hp pins s σ H Q I ⟨Z, ρ, B, _, S, h, fun c ρ' v B' H' h1 x S' o1 => by
    obtain ⟨i, rfl, h1⟩ := h1
    have o : Dq X.K B' v (.int i) := o1
    cases o
    refine ⟨Z, ρ', B', _, S', h1, fun c2 ρ2 v2 B2 H2 h2 x2 S2 o2 => ?_⟩
    obtain ⟨j, rfl, h2⟩ := h2
    have o' : Dq X.K B2 v2 (.int j) := o2
    cases o'
    exact ⟨i, j, rfl, rfl, k i j ρ2 B2 H2 h2 (x.trans x2) S2⟩⟩
def wTupRg (r : WR) : WE := fun ρ P => r ρ fun i j ρ' => RgOk i j ∧ P (.d (.tuple (rngD i j))) ρ'
def wListRg (r : WR) : WN := fun ρ P => r ρ fun i j ρ' => RgOk i j ∧ P (rngD i j) ρ'
theorem vtupRg (hm : X.mg "tuple" = none) (hr : PRg X e (upR X.K as r)) (hc : X.calm = true := by rfl) (hg : Gl X "tuple" := by rfl) (na : starEach [e] X.env = (false, eval e X.env) :: starEach [] X.env := by rfl) : PE X (.Call (.Name "tuple" p) [e] [] pos) (up X.K as (wTupRg r)) :=
  pe_imp (pe_tupRg hc hg hm hr na) fun σ H Q ⟨Z, ρ, B, P, S, h, k⟩ => ⟨Z, ρ, B, _, S, h, fun i j ρ' B' H' h1 x S' => ⟨h1.1, fun q hq => k _ _ _ _ _ h1.2 (x.trans (.new (S'.free hq))) (S'.al hq) (.tup (.inl (.inl upd_same)) (rg_all i j))⟩⟩
theorem vlistRg (hm : X.mg "list" = none) (hr : PRg X e (upR X.K as r)) (hc : X.calm = true := by rfl) (hg : Gl X "list" := by rfl) (na : starEach [e] X.env = (false, eval e X.env) :: starEach [] X.env := by rfl) : PE X (.Call (.Name "list" p) [e] [] pos) (upN X.K as (wListRg r)) :=
  pe_imp (pe_listRg hc hg hm hr na) fun σ H Q ⟨Z, ρ, B, P, S, h, k⟩ => ⟨Z, ρ, B, _, S, h, fun i j ρ' B' H' h1 x S' => ⟨h1.1, fun q hq => k _ ρ' q _ B' H' h1.2 x S' hq (rg_all i j)⟩⟩
end
end VL

end

/-! #### VU -/
section
set_option autoImplicit false
set_option maxRecDepth 100000
set_option maxHeartbeats 2000000
/-! a comprehension stored as data -/
namespace VL
open PySem PySem.Spec PyProof.Rows L2
section
variable {X : Cx} {as : As} {elt iter tg : Expr} {pos : Pos}
theorem ssetLc {ifs : List Expr} {scope : Scope} {wi : WN} {g : WG} {sl : List Nat} {tt : WT} {te : WE} {i : Nat} {y : Str} {py spos : Pos} (vs : List (Str × Nat)) (hc : X.calm = true) (hN : X.N.Nodup)
    (hsw : swapsWith (.ListComp elt [⟨tg, iter, ifs, 0⟩] scope pos) (some (.Name y py)) spos.line X.env = pure true) (hi : PI X tg iter (upI X.K as wi))
    (hg : ∀ (s : Shared) (H : Hp) (C : Addr) (cl : List (Str × Addr)) (fp : List Addr), PG (X.blk s H scope (compEnvC scope cl C X.env) fp) tg (gU X.K as g sl)) (ht : ∀ (s : Shared) (H : Hp) (C : Addr) (cl : List (Str × Addr)) (fp : List Addr), PTs (X.blk s H scope (compEnvC scope cl C X.env) fp) ifs (upT X.K as tt))
    (he : ∀ (s : Shared) (H : Hp) (C : Addr) (cl : List (Str × Addr)) (fp : List Addr), PE (X.blk s H scope (compEnvC scope cl C X.env) fp) elt (up X.K as te)) (ok : BlkOk X.N X.env.scope scope vs) (hsl : ∀ j ∈ sl, j ∈ vs.map (·.2)) (hy : X.N[i]? = some y := by rfl) (hyl : X.env.scope.names.lookup y = some .local := by rfl) (hs : ∀ x, foldedSetIterable iter X.env x = pure x := by intro _; rfl) :
    PS X (.Assign [.Name y py] (.ListComp elt [⟨tg, iter, ifs, 0⟩] scope pos) spos) (upS X.K as (wAsg (wStay (wLc wi g tt te (vs.map (·.2)))) (wSet i))) := by
  refine ps_imp (ps_setLc hc hN hy hyl hsw hi ok hg ht he hs) fun E σ H ⟨Z, ρ, B, w, S, h, m⟩ => ?_
  refine up_lc (fun _ _ _ h => h) gU_ok hsl ⟨Z, ρ, B, _, S, h, fun ds ρ' p xs B' H' h1 x S' hp r => ?_⟩
  have x2 : ExT B' (upd B' p (.lst xs)) := .new (S'.free hp)
  obtain ⟨B3, e3, S3, _⟩ := (S'.al (o := .lst xs) hp).drop i
  have hd : Dq X.K B3 (.ref p) (.list ds) := Dq.ext e3 (.lst (.inl (.inl upd_same)) (DqAll.ext x2 r))
  exact m.nx _ _ B3 _ h1 ((x.trans x2).trans e3) (S3.put hd)
/-! ### xs[::-1], a new list -/
def wRevN (t : WE) : WN := fun ρ P => t ρ fun c ρ1 => match der ρ1 c with
  | some (.list ds) => P ds.reverse ρ1
  | _ => False
theorem vrevN {e : Expr} {t : WE} {k : Nat} {p1 p2 p3 : Pos} (ha : PE X e (up X.K as t)) : PE X (.Subscript e (.Slice none none (some (.UnaryOp .USub (.Constant (.int 1) k p1) p2)) p3) pos) (upN X.K as (wRevN t)) := by
  refine pe_imp (pe_revL ha) fun σ H Q ⟨Z, ρ, B, P, S, h, k⟩ => ⟨Z, ρ, B, _, S, h, fun c ρ1 v B1 H1 h1 x1 S1 o1 => ?_⟩
  split at h1
  · rename_i ds q
    obtain ⟨l', xs, rfl, t1, r1⟩ := (rv_of S1 o1 q).list S1.subE
    exact ⟨l', xs, rfl, t1, fun p hp => k _ ρ1 p _ B1 H1 h1 x1 S1 hp r1.rev⟩
  · exact h1.elim
end
end VL

end

/-! #### VV -/
section
set_option autoImplicit false
set_option maxRecDepth 100000
set_option maxHeartbeats 2000000
/-! a tuple times an int -/
namespace VL
open PySem PySem.Spec PyProof.Rows L2
open PySem.AutoSeq1 PySem.MeetsSeq in
theorem tuple_mul1 (l : Addr) (items : Array Value) (n : Nat) (dd : Option Addr) (sl : Array (Option Value)) (u : Tok) :
    PySem.Meets (Builtin.«tuple.__mul__» ⟨[.ref l, .int 1 u], []⟩) (fun _ R s => s.heap.get? l = some { cls := .type "tuple", dict := dd, data := .seq items n, slots := sl } ∧ R (.ok (.ret (.ref l))) s) :=
  .of_wp fun prog w A R s h => by
    obtain ⟨hp, g, d, tk, os⟩ := s
    obtain ⟨hl, h⟩ := h
    have f1 := PySem.AutoSeq1.idx_int
    have c1 : (items.isEmpty || (1 : Int) == 1) = true := by simp
    wp_walk using wpAny_loadPart' hl
    exact ⟨_, rfl, h⟩
def rRepT1 (K : Fg) : R2 := fun x y H Q => ∃ l xs, x = .ref l ∧ y = .int 1 ∧ SqT K H l xs ∧ Q (.ref l) H
theorem op_repT1 {X : Cx} : OpR X (binaryOp .Mult) (rRepT1 X.K) := by
  intro pins s σ H x y v u Q I rx ry h
  obtain ⟨l, xs, rfl, rfl, hT, q⟩ := h
  cases rx
  obtain ⟨t, rfl⟩ := ry
  obtain ⟨its, r, ⟨⟨cls, dd, data, sl⟩, ho, hc, n, hd⟩, hs⟩ := I.tuple hT
  simp only at hc hd
  subst hc hd
  refine wpAny_binaryOp_repeat_ref (T := "tuple") (U := "int") (by decide) ⟨_, ho, rfl⟩ (fun s' => typeIs_int s' 1 t) noFill_tuple_mul PySem.F.fills_int_mul PySem.F.slot_int_rmul repeat_tuple PySem.F.slot_int_index.lookup
    (call_meets PySem.F.slot_int_rmul (typeIs_int s 1 t) PySem.F.entry_int_rmul (PySem.F.args_int_rmul_2 _ _) (int_rmul_tuple 1 t l its.toArray n dd sl)
      ⟨ho, rfl, ⟨_, ho, rfl⟩, call_meets PySem.F.slot_tuple_mul ⟨_, ho, rfl⟩ PySem.F.entry_tuple_mul (PySem.F.args_tuple_mul_2 _ _) (tuple_mul1 l its.toArray n dd sl t) ⟨ho, .ref l, H, I, rfl, q⟩⟩)
/-- a tuple (not empty) times 1 .. 1000 -/
def oRepT : DO := fun x y P => match x, y with
  | .tuple ds, .int k => ds ≠ [] ∧ ds.length ≤ 1000 ∧ 1 ≤ k ∧ k ≤ 1000 ∧ P (.tuple (List.replicate k.toNat ds).flatten)
  | _, _ => False
theorem DqAll.rep {K : Fg} {B : Hp} {xs : List V} {ds : List D} (r : DqAll K B xs ds) : ∀ m : Nat, DqAll K B (List.replicate m xs).flatten (List.replicate m ds).flatten
  | 0 => .nil
  | m + 1 => by
    rw [List.replicate_succ, List.replicate_succ, List.flatten_cons, List.flatten_cons]
    exact DqAll.app r (DqAll.rep r m)
theorem op_repT' {X : Cx} : OpR X (binaryOp .Mult) (ror (rRepT1 X.K) (rRepT X.K)) := op_or op_repT1 op_repT
theorem opv_repT {K : Fg} : OpV K (ror (rRepT1 K) (rRepT K)) oRepT := by
  intro B H x y dx dy P Q e a b c k
  cases dx <;> cases dy <;> (try (exact (show False from c).elim))
  rename_i ds i
  cases b.int
  obtain ⟨h0, h1, h2, h3, h4⟩ := c
  by_cases z : i = 1
  · subst z
    cases a with
    | dp h =>
      cases h with
      | tup hq hr =>
        have e1 : (List.replicate (1 : Int).toNat ds).flatten = ds := by
          show (ds ++ []) = ds
          rw [List.append_nil]
        rw [e1] at h4
        exact .inl ⟨_, _, rfl, rfl, sqT_ext (.of e) hq, k _ _ _ _ h4 .no (.tup hq hr)⟩
  · obtain ⟨l, xs, rfl, q1, r1⟩ := a.tup e
    refine .inr ⟨l, i, xs, rfl, rfl, q1, fun z2 => ?_, by omega, h3, by rw [r1.len]; exact h1, fun p hp => ?_⟩
    · have := r1.len
      rw [z2] at this
      exact h0 (List.eq_nil_of_length_eq_zero this.symm)
    · exact k _ _ _ _ h4 (.new hp) (.tup (.inl (.inl upd_same)) (DqAll.ext (.new (free_of e hp)) (r1.rep _)))
/-! ### a list times an int -/
open PySem.AutoSeq1 PySem.MeetsSeq in
theorem list_mul_any (l : Addr) (items : Array Value) (n : Nat) (sl : Array (Option Value)) (x : Int) (u : Tok) (hc0 : ¬(!Builtin.List.listFitsIndex x) = true) (hc1 : ¬items.size * x.toNat > (2 ^ 63 - 1) / 8) (hc2 : ¬Builtin.List.listTooLong (items.size * x.toNat) = true)
    (hsz : (List.foldl (fun x1 x2 => x1 ++ x2) #[] (List.replicate (if items.isEmpty = true then 0 else x.toNat) items)).size ≤ sizeLine) :
    PySem.Meets (Builtin.«list.__mul__» ⟨[.ref l, .int x u], []⟩) (fun _ R s => s.heap.get? l = some { cls := .type "list", dict := none, data := .seq items n, slots := sl } ∧
      R (.ok (.ret (Value.ref s.heap.objs.size))) { s with heap := s.heap.push { cls := Value.type "list", data := Data.seq (List.foldl (fun x1 x2 => x1 ++ x2) #[] (List.replicate (if items.isEmpty = true then 0 else x.toNat) items)) }, toks := s.toks }) :=
  .of_wp fun prog w A R s h => by
    obtain ⟨hp, g, d, tk, os⟩ := s
    obtain ⟨hl, h⟩ := h
    wp_walk using wpAny_loadPart' hl
    refine wpAny_ite_false (decide_eq_false (Nat.not_lt.mpr hsz)) ?_
    wp_walk using wpAny_loadPart' hl
    exact ⟨_, rfl, h⟩
open PySem.AutoSeq1 PySem.MeetsSeq in
theorem int_rmul_any (a : Int) (t : Tok) (l : Addr) (items : Array Value) (n : Nat) (sl : Array (Option Value)) :
    PySem.Meets (Builtin.«int.__rmul__» ⟨[.int a t, .ref l], []⟩) (fun _ R s => s.heap.get? l = some { cls := .type "list", dict := none, data := .seq items n, slots := sl } ∧ R (.ok (.ret Value.notImplemented)) s) :=
  .of_wp fun prog w A R s h => by
    obtain ⟨hp, g, d, tk, os⟩ := s
    obtain ⟨hl, h⟩ := h
    wp_walk using wpAny_loadPart' hl
    exact ⟨_, rfl, h⟩
def rRepL (K : Fg) : R2 := fun x y H Q => ∃ l k xs, x = .ref l ∧ y = .int k ∧ SqL K H l xs ∧ 0 ≤ k ∧ k < 2 ^ 62 ∧ xs.length * k.toNat ≤ sizeLine ∧ ∀ p, H p = none → Q (.ref p) (upd H p (.lst (List.replicate k.toNat xs).flatten))
theorem flat_arr (its : List Value) (m : Nat) : List.foldl (fun x1 x2 => x1 ++ x2) #[] (List.replicate (if its.toArray.isEmpty = true then 0 else m) its.toArray) = (List.replicate m its).flatten.toArray := by
  have g := foldl_rep its m []
  rw [List.nil_append] at g
  by_cases e : its = []
  · subst e
    rw [if_pos (show (#[] : Array Value).isEmpty = true from rfl)]
    simp
  · rw [if_neg (by simpa using e)]
    exact g
theorem op_repL {X : Cx} : OpR X (binaryOp .Mult) (rRepL X.K) := by
  intro pins s σ H x y v u Q I rx ry h
  obtain ⟨l, k, xs, rfl, rfl, hH, h1, h2, hz, q⟩ := h
  cases rx
  obtain ⟨t, rfl⟩ := ry
  obtain ⟨its, n, sl, r, hl, e, _⟩ := rd_obj I hH
  have z1 : its.toArray.size * k.toNat ≤ sizeLine := by
    rw [List.size_toArray, ← hl]
    exact hz
  have fl : (List.replicate k.toNat its).flatten.length ≤ sizeLine := by
    rw [PyProof.Rows.lm_len_rep_flat, Nat.mul_comm, ← hl]
    exact hz
  have c0 : ¬(!Builtin.List.listFitsIndex k) = true := by
    rw [fitsIndex_both (by omega) (by omega)]
    exact Bool.false_ne_true
  have c1 : ¬its.toArray.size * k.toNat > (2 ^ 63 - 1) / 8 := Nat.not_lt.mpr (Nat.le_trans z1 (by decide))
  have c2 : ¬Builtin.List.listTooLong (its.toArray.size * k.toNat) = true := by
    rw [notLongL z1]
    exact Bool.false_ne_true
  have c3 : (List.foldl (fun x1 x2 => x1 ++ x2) #[] (List.replicate (if its.toArray.isEmpty = true then 0 else k.toNat) its.toArray)).size ≤ sizeLine := by
    rw [flat_arr, List.size_toArray]
    exact fl
  refine wpAny_binaryOp_repeat_ref (T := "list") (U := "int") (by decide) ⟨_, e, rfl⟩ (fun s' => typeIs_int s' k t) noFill_list_mul PySem.F.fills_int_mul PySem.F.slot_int_rmul repeat_list PySem.F.slot_int_index.lookup
    (call_meets PySem.F.slot_int_rmul (typeIs_int s k t) PySem.F.entry_int_rmul (PySem.F.args_int_rmul_2 _ _) (int_rmul_any k t l its.toArray n sl) ⟨e, rfl, ⟨_, e, rfl⟩, ?_⟩)
  refine call_meets PySem.F.slot_list_mul ⟨_, e, rfl⟩ PySem.F.entry_list_mul (PySem.F.args_list_mul_2 _ _) (list_mul_any l its.toArray n sl k t c0 c1 c2 c3) ⟨e, ?_⟩
  rw [flat_arr]
  have rl : (List.replicate k.toNat xs).flatten.length ≤ sizeLine := by
    rw [PyProof.Rows.lm_len_rep_flat, Nat.mul_comm]
    exact hz
  exact ⟨.ref _, _, I.lnew (t' := s.toks) (r.rep k.toNat) rl, rfl, q _ I.fresh⟩
def oRepL : DO := fun x y P => match x, y with
  | .list ds, .int k => 0 ≤ k ∧ k < 2 ^ 62 ∧ ds.length * k.toNat ≤ sizeLine ∧ P (.list (List.replicate k.toNat ds).flatten)
  | _, _ => False
theorem opv_repL {K : Fg} : OpV K (rRepL K) oRepL := by
  intro B H x y dx dy P Q e a b c k
  cases dx <;> cases dy <;> (try (exact (show False from c).elim))
  rename_i ds i
  cases b.int
  obtain ⟨h1, h2, h3, h4⟩ := c
  obtain ⟨l, xs, rfl, q1, r1⟩ := a.list e
  exact ⟨l, i, xs, rfl, rfl, q1, h1, h2, by rw [r1.len]; exact h3, fun p hp => k _ _ _ _ h4 (.new hp) (.lst (.inl (.inl upd_same)) (DqAll.ext (.new (free_of e hp)) (r1.rep _)))⟩
end VL

end

/-! #### VZ -/
section
set_option autoImplicit false
/-! the readings, worked out: a shorthand (join.py writes it out) -/
namespace VL
open PySem PySem.Spec PyProof.Rows L2
end VL

end

/-! #### VX -/
section
set_option autoImplicit false
set_option maxRecDepth 100000
set_option maxHeartbeats 2000000
/-! generator expressions: the run -/
namespace VL
open PySem PySem.Spec PyProof.Rows L2 GenW GxR

/-- while the generator sleeps its consumer changes its own objects; all else is kept -/
structure Woke (P P' : List (Addr × Obj)) (s s' : Shared) : Prop where
  os : s'.os = s.os
  bare : AllBare s'.gens
  keep : ∀ b o, b ∉ P.map (·.1) → s.heap.get? b = some o → s'.heap.get? b = some o
  adr : P'.map (·.1) = P.map (·.1)
  own : ∀ p ∈ P', s'.heap.get? p.1 = some p.2 ∧ ∀ v, p.2.data ≠ .cell v

theorem inv_woken {X : Cx} {P P' pins : List (Addr × Obj)} {σ : L2.St} {H : Hp} {s s' : Shared} (hA : ∀ p ∈ P, X.s_0.heap.objs.size ≤ p.1 ∧ ∀ q ∈ X.pn ++ pins, q.1 ≠ p.1) (I : Inv X (P ++ pins) σ H s) (z : Woke P P' s s') : Inv X (P' ++ pins) σ H s' := by
  have pP : ∀ b ∈ P.map (·.1), H b = none ∧ b ≠ X.env.locals ∧ b ∉ X.fs ∧ (∀ x c, X.env.cells.lookup x = some c → c ≠ b) ∧ X.s_0.heap.objs.size ≤ b ∧ ∀ q ∈ X.pn ++ pins, q.1 ≠ b := fun b hb => by
    obtain ⟨p, hp, rfl⟩ := List.mem_map.mp hb
    obtain ⟨h1, h2, h3, h4, h5⟩ := I.pin p (List.mem_append_right _ (List.mem_append_left _ hp))
    refine ⟨h2, h3, h4, fun x c e q => ?_, (hA p hp).1, (hA p hp).2⟩
    obtain ⟨v, ob, ho, hd⟩ := I.cell x c e
    rw [q, h1] at ho
    cases ho
    exact h5 _ hd
  have I0 : Inv X pins σ H s := I.pins_of fun p hp => I.pin p (List.mem_append_right _ (List.mem_append_right _ hp))
  have nt : ∀ b u, H b = some u → b ∉ P.map (·.1) := fun b u q hb => by
    rw [(pP b hb).1] at q
    cases q
  have nL : X.env.locals ∉ P.map (·.1) := fun hb => (pP _ hb).2.1 rfl
  obtain ⟨z1, z2, z3, z4, z5⟩ := z
  obtain ⟨hh, g, d, t, o⟩ := s'
  have ho : o = s.os := z1
  subst ho
  have J : Inv X pins σ H { s with heap := hh, gens := g, drawn := d, toks := t } := by
    refine I0.step (g' := g) (t' := t) (d' := d) (ch := P.map (·.1)) (fun b hb => ?_)
      (fun b ob _ _ hc q _ => z3 b ob hc q) (fun b ob _ _ hc q _ => ⟨ob.slots, z3 b ob hc q⟩) (fun _ _ _ _ n => n) (fun b ob hc q => ⟨ob, z3 b ob hc q⟩)
      (fun _ _ q => q) (fun _ _ _ q => q) (fun b ps q => ⟨#[], by rw [q]; simp⟩) (fun m hm => ?_) (fun b u q => ?_) z2
    · obtain ⟨_, p2, _, p4, p5, p6⟩ := pP b hb
      exact ⟨.inr p5, p2, p4, p6⟩
    · obtain ⟨ob, es, ep, ho, r⟩ := hm
      exact ⟨ob, es, ep, z3 _ ob nL ho, r⟩
    · refine (I0.hok b u q).stay (fun c v hc y => z3 c v ?_ y) (fun _ y => y) fun _ _ y => y
      rcases hc with y | y
      · rw [y]; exact nt b u q
      · exact nt c _ y
  refine J.pins_of fun p hp => ?_
  rcases List.mem_append.mp hp with hp | hp
  · have hb : p.1 ∈ P.map (·.1) := by rw [← z4]; exact List.mem_map_of_mem hp
    obtain ⟨p1, p2, p3, _⟩ := pP _ hb
    exact ⟨(z5 p hp).1, p1, p2, p3, (z5 p hp).2⟩
  · exact J.pin p (List.mem_append_right _ hp)

/-- the context of a generator expression's body: it starts at s (ahead of its frame), its iterator's objects at fp, its own object in pn -/
abbrev _root_.L2.Cx.gx (X : Cx) (s : Shared) (H : Hp) (cenv : Env) (A : Around) (fp : List Addr) (pn : List (Addr × Obj)) : Cx :=
  { X with A := A, s_0 := s, H_0 := H, env := cenv, outer := X.stack, stack := cenv :: X.stack, ex := fp, fn := fun _ => false, pn := pn, xe := fun _ _ => False }

theorem gx_start {X : Cx} {pins P : List (Addr × Obj)} {σ : L2.St} {H : Hp} {s4 s6 : Shared} {scope : Scope} {own : List (Str × Nat)} {fp : List Addr} {A : Around} {code : Value} {cenv : Env} {m0 : Str → Option Value} {a : Addr} {go : Obj}
    (I : Inv X pins σ H s4) (ok : BlkOk X.N X.env.scope scope own) (hcell : ∀ y ∈ scope.names, y.2 ≠ .cell) (hN : X.N.Nodup) (hfp : ∀ b ∈ fp, FpOk X pins H b ∧ b < s4.heap.objs.size)
    (hC : cenv = genEnv scope (cloFrom X.env.cells scope.names []) s4.heap.objs.size code builtinsNs X.env) (hA : A.handled = none) (hAf : A.frames = some (cenv :: X.stack))
    (hn : s6.heap.Ns s4.heap.objs.size m0) (kp : ∀ b o, s4.heap.get? b = some o → s6.heap.get? b = some o) (os6 : s6.os = s4.os) (ba : AllBare s6.gens)
    (hP : ∀ p ∈ (a, go) :: P, s6.heap.get? p.1 = some p.2 ∧ s4.heap.objs.size < p.1 ∧ ∀ v, p.2.data ≠ .cell v) :
    Inv (X.gx s4 H cenv A fp [(a, go)]) P (wipe σ (own.map (·.2))) H s6 := by
  have hfree : ∀ y ∈ scope.names, y.2 = .free → ∃ c, X.env.cells.lookup y.1 = some c := fun y hy e => by
    rcases ok.free y hy e with k | k
    · exact I.ok.has _ (.inl k)
    · exact I.ok.has _ (.inr k)
  have hL : cenv.locals = s4.heap.objs.size := by rw [hC]; rfl
  have hcl : cenv.cells = cloFrom X.env.cells scope.names [] := by rw [hC]; rfl
  have hsc : cenv.scope = scope := by rw [hC]; rfl
  have cm : ∀ {y c}, cenv.cells.lookup y = some c → X.env.cells.lookup y = some c ∧ c < s4.heap.objs.size := fun {y c} e => by
    rw [hcl] at e
    rcases cloFrom_mem (PySem.mem_of_lookup e) with hm | ⟨h1, rfl⟩
    · cases hm
    · obtain ⟨c, hc⟩ := hfree _ h1 rfl
      rw [hc]
      obtain ⟨w, z⟩ := I.cell _ _ hc
      exact ⟨rfl, z.lt⟩
  have look : ∀ {y}, scope.names.lookup y = some .free → ∃ c, cenv.cells.lookup y = some c ∧ X.env.cells.lookup y = some c := fun {y} hl => by
    have hy : (y, NameKind.free) ∈ scope.names := PySem.mem_of_lookup hl
    obtain ⟨c', e'⟩ := mem_lookup (cloFrom_has (cells := X.env.cells) (acc := []) hy)
    rw [← hcl] at e'
    exact ⟨c', e', (cm e').1⟩
  have kind : ∀ {y k}, cenv.scope.names.lookup y = some k → scope.names.lookup y = some k := fun {y k} e => by rw [hsc] at e; exact e
  have nocell : ∀ {y}, cenv.scope.names.lookup y ≠ some .cell := fun {y} e => hcell _ (PySem.mem_of_lookup (kind e)) rfl
  have okB : (X.gx s4 H cenv A fp [(a, go)]).Ok := by
    refine ⟨I.ok.mod, by show cenv.scope.kind = _; rw [hsc]; exact ok.kind, by show cenv.globals = _; rw [hC]; exact I.ok.glob, by show cenv.builtins = _; rw [hC]; rfl, by show s4.heap.objs.size ≤ cenv.locals; rw [hL]; exact Nat.le_refl _,
      fun y z c e1 e2 => I.ok.inj y z c (cm e1).1 (cm e2).1, fun y hy => ?_, fun y c z e => absurd (show false = true from z) Bool.false_ne_true, fun _ => hA, hAf, .inr ⟨rfl, by show cenv.frame = some cenv.locals; rw [hC]; rfl⟩, fun b hb => ⟨?_, fun y c e z => ?_⟩, I.bs, Nat.le_trans I.ok.bsz I.sz, fun b o e hb => ?_, fun b hb z => ?_, I.stack, I.stkFree⟩
    · rcases hy with hy | hy
      · exact absurd (show cenv.scope.names.lookup y = some .cell from hy) nocell
      · obtain ⟨c, h1, _⟩ := look (kind (show cenv.scope.names.lookup y = some .free from hy))
        exact ⟨c, h1⟩
    · show b ≠ cenv.locals
      rw [hL]; exact Nat.ne_of_lt (hfp b hb).2
    · exact (hfp b hb).1.2.2.2.2.1 y c (cm e).1 z
    · rcases (hfp b hb).1.2.2.2.1 with z | z
      · exact I.ok.noex b o e z
      · exact absurd (Nat.lt_of_lt_of_le (Heap.lt_size e) (Nat.le_trans I.ok.bsz z)) (Nat.lt_irrefl _)
    · rcases List.mem_cons.mp (I.stkSub b z) with z | z
      · exact (hfp b hb).1.2.1 z
      · exact (hfp b hb).1.2.2.1 z
  refine ⟨okB, os6, ba, Un.kept kp, ⟨m0, by show Heap.Ns _ cenv.locals _; rw [hL]; exact hn, fun i y av e1 e2 e3 => ?_⟩, fun y c e => ?_, ?_, fun y c e => ?_, fun p hp => ?_, I.hok.kept kp, by rw [wipe_length]; exact I.len⟩
  · obtain ⟨e2, hne⟩ := wipe_some e2
    have e3 : Vis cenv.scope y := e3
    have no : ¬ (scope.names.lookup y = some .local ∨ scope.names.lookup y = some .cell) := fun hh => by
      have w : y ∈ own.map (·.1) ∨ y ∉ X.N := by
        rcases hh with q | q
        · exact ok.own _ (PySem.mem_of_lookup q) (.inl rfl)
        · exact ok.own _ (PySem.mem_of_lookup q) (.inr rfl)
      rcases w with e' | e'
      · obtain ⟨p, hp, hpy⟩ := List.mem_map.mp e'
        have e3 := ok.ix p hp
        have : p.1 = y := hpy
        rw [this] at e3
        exact hne (List.mem_map.mpr ⟨p, hp, nodup_ix hN e3 e1⟩)
      · exact e' (List.mem_of_getElem? e1)
    have hfr : scope.names.lookup y = some .free := by
      rcases e3 with e3 | e3 | e3
      · exact absurd (.inl (kind e3)) no
      · exact absurd (.inr (kind e3)) no
      · exact kind e3
    obtain ⟨m, hn, hl⟩ := I.loc
    have hvis : Vis X.env.scope y := (ok.free _ (PySem.mem_of_lookup hfr) rfl).elim (fun k => .inr (.inl k)) (fun k => .inr (.inr k))
    obtain ⟨w, r, q⟩ := hl i y av e1 e2 hvis
    refine ⟨w, r, .inr ⟨.inr (by show cenv.scope.names.lookup y = _; rw [hsc]; exact hfr), ?_⟩⟩
    obtain ⟨c, h1, h2⟩ := look hfr
    rcases q with ⟨k, _⟩ | ⟨_, c', e', z⟩
    · have k : X.env.scope.names.lookup y = some .local := k
      rcases ok.free _ (PySem.mem_of_lookup hfr) rfl with k' | k' <;> rw [show X.env.scope.names.lookup y = _ from k'] at k <;> cases k
    · rw [h2] at e'; cases e'
      exact ⟨c, h1, z.keeps kp⟩
  · obtain ⟨w, z⟩ := I.cell y c (cm e).1
    exact ⟨w, z.keeps kp⟩
  · show H cenv.locals = none
    rw [hL]; exact I.hok.fresh (Nat.le_refl _)
  · exact I.freeC y c (cm e).1
  · obtain ⟨p1, p2, p3⟩ := hP p hp
    refine ⟨p1, I.hok.fresh (Nat.le_of_lt p2), by show p.1 ≠ cenv.locals; rw [hL]; exact Nat.ne_of_gt p2, fun z => ?_, p3⟩
    have z : p.1 ∈ frs X.stack := z
    rcases List.mem_cons.mp (I.stkSub _ z) with z | z
    · rw [z] at p2
      exact absurd (Nat.lt_trans p2 I.lt) (Nat.lt_irrefl _)
    · exact I.nofs (Nat.le_of_lt p2) z

/-! ### the protocol -/
abbrev CPt := List V → List (Addr × Obj) → Prop
/-- the end -/
def GXR (GB : List (Addr × Obj) → Hp → Shared → Prop) (CP : CPt) (QE : List V → Hp → Prop) : GenEnd := fun _ s₀ r s => r = .ok .next ∧ ∃ ys P H, CP ys P ∧ GB P H s ∧ QE ys H ∧ ∀ p ∈ P, s₀.heap.get? p.1 = some p.2
/-- an item is handed out -/
def GXY (GB : List (Addr × Obj) → Hp → Shared → Prop) (CP : CPt) (okY : List V → V → Hp → Prop) (stp : V → Bool) (QE : List V → Hp → Prop) : Protocol := fun _ s₀ v s kap =>
  ∃ ys y P H, RelV y v ∧ CP ys P ∧ GB P H s ∧ okY ys y H ∧ (∀ p ∈ P, s₀.heap.get? p.1 = some p.2) ∧ (stp y = true → QE (ys ++ [y]) H) ∧ (stp y = false → ∀ P' s', Woke P P' s s' → CP (ys ++ [y]) P' → kap (.send .none) s')
/-- a turn of the generator -/
def GTurn (J : It) (g : TG) (tt : TT) (te : TE) (vs : List Nat) (σ : L2.St) (okY : List V → V → Hp → Prop) (stp : V → Bool) (QE : List V → Hp → Prop) (W : Nat → Nat → List V → Hp → Prop) : Prop :=
  ∀ i m ys H, W i m ys H → (J.stop i H ∧ QE ys H) ∨ (0 < m ∧ J.go i H ∧ ∃ Nx : List V → Hp → Prop, (∀ ys' H', Nx ys' H' → ∃ m', m' < m ∧ W (i + 1) m' ys' H') ∧
    ∀ x H', J.yld i H x H' → g x (wipe σ vs) H' fun σ2 H2 => wipe σ2 vs = wipe σ vs ∧ tt σ2 H2 fun b H3 =>
      if b = true then te σ2 H3 fun y H4 => okY ys y H4 ∧ (if stp y = true then QE (ys ++ [y]) H4 else Nx (ys ++ [y]) H4) else Nx ys H3)

theorem seg_gx {X : Cx} {A : Around} {elt tg iter : Expr} {ifs : List Expr} {scope : Scope} {gpos : Pos} {it : Addr} {fp : List Addr} {tn : Nat → Heap → Prop} {J : It} {g : TG} {tt : TT} {te : TE} {vs : List Nat} {σ : L2.St}
    {GB : List (Addr × Obj) → Hp → Shared → Prop} {CP : CPt} {okY : List V → V → Hp → Prop} {stp : V → Bool} {QE : List V → Hp → Prop} {lo : Nat} {W : Nat → Nat → List V → Hp → Prop}
    (hc : X.calm = true) (hx : X.xe = fun _ _ => False) (hXA : A.over (.compLoop (.GeneratorExp elt [⟨tg, iter, ifs, 0⟩] scope gpos) 0 (.ref it) .none X.env) [] = X.A) (hco : X.env.scope.isCoroutine = false)
    (T : Turn X.prog X.w X.K tg J fp it tn) (hfx : ∀ b ∈ fp, b ∈ X.ex ∧ b < lo ∧ ∀ p ∈ X.pn, p.1 ≠ b) (hpn : ∀ p ∈ X.pn, p.1 < lo) (hs0 : X.s_0.heap.objs.size ≤ lo) (hCP : ∀ ys P, CP ys P → ∀ p ∈ P, lo ≤ p.1)
    (pg : PG X tg g) (pt : PTs X ifs tt) (pe : PE X elt te) (hGB : ∀ P σ H s, Inv X P σ H s → GB P H s) (turn : GTurn J g tt te vs σ okY stp QE W) :
    ∀ (m n i : Nat) (ys : List V) (P : List (Addr × Obj)) (s₀ s : Shared) (H : Hp), m ≤ n → W i m ys H → CP ys P → Inv X P (wipe σ vs) H s → tn i s.heap → (∀ b ∈ fp, H b = none) → (∀ p ∈ P, s₀.heap.get? p.1 = some p.2) →
      Seg (model X.prog X.w) A (GXR GB CP QE) (GXY GB CP okY stp QE) n s₀ (.compLoop (.GeneratorExp elt [⟨tg, iter, ifs, 0⟩] scope gpos) 0 (.ref it) .none X.env)
        ((model X.prog X.w).den (.compLoop (.GeneratorExp elt [⟨tg, iter, ifs, 0⟩] scope gpos) 0 (.ref it) .none X.env)) [] s := by
  have stat : ∀ {P : List (Addr × Obj)} {ys : List V} {σ' : L2.St} {H' : Hp} {s' : Shared}, CP ys P → Inv X P σ' H' s' → (∀ b ∈ fp, H' b = none) → ∀ b ∈ fp, FpOk X P H' b := fun {P ys σ' H' s'} cp I' hn b hb =>
    ⟨hn b hb, (I'.ok.exf b (hfx b hb).1).1, I'.ok.exfs b (hfx b hb).1, .inl (hfx b hb).1, fun x c e => (I'.ok.exf b (hfx b hb).1).2 x c e, fun p hp => by
      rcases List.mem_append.mp hp with z | z
      · exact (hfx b hb).2.2 p z
      · exact Nat.ne_of_gt (Nat.lt_of_lt_of_le (hfx b hb).2.1 (hCP ys P cp p z))⟩
  have thx : ∀ {α : Type} {t : Sem α} {Q Q' : α → Shared → Prop} {M : Model} {E : Value → Shared → Prop} {s : Shared}, wpAny M X.A t Q X.xe s → (∀ a s, Q a s → Q' a s) → wpAny M X.A t Q' E s := fun {α t Q Q' M E s} h hQ => by
    rw [hx] at h
    exact thnF h hQ
  intro m
  induction m using Nat.strongRecOn with
  | ind m ih =>
    intro n i ys P s₀ s H hmn hw hcp I st nfp hP0
    show Seg _ A _ _ n s₀ _ ((compTurn (.GeneratorExp elt [⟨tg, iter, ifs, 0⟩] scope gpos) 0 (.ref it) .none X.env).onRaise (leaving X.env)) [] s
    rw [compTurn_gen, Sem.onRaise_eq_wrap]
    refine seg_bind_wrap (wpAny_standAt ?_)
    rcases turn i m ys H hw with ⟨stop, qq⟩ | ⟨hm0, go, Nx, hNx, step⟩
    · refine seg_bind_wrap ?_
      rw [hXA]
      refine thnF (T.done X rfl rfl rfl hc i P s _ H (fun _ _ => False) I (stat hcp I nfp) st stop) fun r s6 ⟨hr, I6⟩ => ?_
      subst hr
      exact seg_end (.ok .next) ⟨rfl, ys, P, H, hcp, hGB _ _ _ _ I6, qq, hP0⟩
    · refine seg_bind_wrap ?_
      rw [hXA]
      refine thnF (T.item X rfl rfl rfl hc i P s _ H (fun _ _ => False) I (stat hcp I nfp) st go) fun r s6 ⟨u, hr, h6⟩ => ?_
      subst hr
      refine seg_bind_wrap ?_
      rw [hXA]
      refine thnF h6 fun _ s7 ⟨x, H7, I7, r7, y7, st7, n7⟩ => ?_
      have I7' := I7.pinned (stat hcp I7 n7) (T.obj _ _ st7)
      refine seg_bind_wrap ?_
      rw [hXA]
      refine thx (pg.run _ s7 _ H7 x u _ I7' r7 (step x H7 y7)) fun _ s8 ⟨σ8, H8, I8, hw8, q8⟩ => ?_
      refine seg_bind_wrap ?_
      rw [hXA]
      refine thx (pt.run _ s8 σ8 H8 _ I8 q8) fun b s9 ⟨H9, I9, q9⟩ => ?_
      -- the turn's end
      have fin : ∀ {n : Nat} {s₀ s' : Shared} {H' : Hp} {ys' : List V} {P' : List (Addr × Obj)}, Inv X (P' ++ pinsAt fp s7.heap) σ8 H' s' → CP ys' P' → (∀ m', m' < m → m' ≤ n) → Nx ys' H' → (∀ p ∈ P', s₀.heap.get? p.1 = some p.2) →
          Seg (model X.prog X.w) A (GXR GB CP QE) (GXY GB CP okY stp QE) n s₀ (.compLoop (.GeneratorExp elt [⟨tg, iter, ifs, 0⟩] scope gpos) 0 (.ref it) .none X.env)
            (.pure (.again (.compLoop (.GeneratorExp elt [⟨tg, iter, ifs, 0⟩] scope gpos) 0 (.ref it) .none X.env))) [] s' := fun {n s₀ s' H' ys' P'} I' cp' hn nx hP0' => by
        obtain ⟨m', hm, w'⟩ := hNx ys' H' nx
        have pin' : ∀ b ∈ fp, ∀ o, s7.heap.get? b = some o → s'.heap.get? b = some o ∧ H' b = none := fun b hb o e =>
          let z := I'.pin (b, o) (List.mem_append_right _ (List.mem_append_right _ (mem_pinsAt hb e)))
          ⟨z.1, z.2.1⟩
        have hl : (wipe σ vs).length = σ8.length := by rw [← hw8, wipe_length]
        refine seg_again rfl (ih m' hm n (i + 1) ys' P' s₀ s' H' (hn m' hm) w' cp' ((I'.unpinned (pins := P')).weak hl (fun j v e => ?_)) (T.keep _ _ _ st7 fun b hb o e => (pin' b hb o e).1) (fun b hb => ?_) hP0')
        · rw [← hw8] at e
          exact (wipe_some e).1
        · obtain ⟨o, e, _⟩ := T.obj _ _ st7 b hb
          exact (pin' b hb o e).2
      cases b with
      | false =>
        simp only [Bool.false_eq_true, if_false] at q9 ⊢
        exact fin I9 hcp (fun m' h => by omega) q9 hP0
      | true =>
        simp only [if_true] at q9 ⊢
        have hy : ∀ v, yieldOut X.env v = yieldValue v := fun v => by simp only [yieldOut, hco, Bool.false_eq_true, if_false]
        simp only [hy]
        rw [Sem.bind_eq_wrap', Sem.bind_eq_wrap', Sem.wrap_wrap, Sem.wrap_wrap]
        refine seg_wrap ?_
        rw [hXA]
        refine thx (pe.run _ s9 σ8 H9 _ I9 q9) fun z s10 ⟨yv, H10, I10, r10, hok, nx⟩ => ?_
        obtain ⟨k, rfl⟩ : ∃ k, n = k + 1 := ⟨n - 1, by omega⟩
        refine seg_at (seg_yield rfl rfl rfl ⟨ys, yv, P, H10, r10, hcp, hGB _ _ _ _ I10.unpinned, hok, hP0, fun h => ?_, fun h P' s' wk cp' => ?_⟩)
        · rw [if_pos h] at nx
          exact nx
        · rw [if_neg (by rw [h]; exact Bool.false_ne_true)] at nx
          refine fin (inv_woken (fun p hp => ?_) I10 wk) cp' (fun m' h => by omega) nx fun p hp => (wk.own p hp).1
          have lp := hCP ys P hcp p hp
          refine ⟨Nat.le_trans hs0 lp, fun q hq => ?_⟩
          rcases List.mem_append.mp hq with q1 | q1
          · exact Nat.ne_of_lt (Nat.lt_of_lt_of_le (hpn q q1) lp)
          · exact Nat.ne_of_lt (Nat.lt_of_lt_of_le (hfx q.1 (of_pinsAt q1).1).2.1 lp)
end VL

end

/-! #### VX2 -/
section
set_option autoImplicit false
set_option maxRecDepth 100000
set_option maxHeartbeats 2000000
/-! generator expressions: the making -/
namespace VL
open PySem PySem.Spec PyProof.Rows L2 GenW GxR

theorem over_gx {A : Around} {elt : Expr} {gs : List Comprehension} {scope : Scope} {p : Pos} {it acc : Value} {env : Env} : A.over (.compLoop (.GeneratorExp elt gs scope p) 0 it acc env) [] = A.deeper env := by
  first
    | rfl
    | (obtain ⟨hd, d, fr, gs, u⟩ := A; simp [Around.over, Around.deeper, marksOver, frameCount, unitsOf, envsOf, guardsOf, pushEnvs, pushGuards, Code.envs, Code.env?, Code.isFrame, Code.guards, Code.isGuard, Code.weight, Code.frames, Code.isCreation, Code.isCaller, Code.cUnits])

/-- as it stands when an item is out, or at the end -/
def GBo (X : Cx) (s4 : Shared) (H4 : Hp) (fp : List Addr) (a : Addr) (g : Nat) (P : List (Addr × Obj)) (H : Hp) (s : Shared) : Prop :=
  s.os = s4.os ∧ AllBare s.gens ∧ Un (frs X.stack) fp H4 H s4.heap s.heap ∧ HOk X.prog X.w H s.heap ∧ s.heap.IsGen a g ∧ s.heap.NoLimit ∧ ∀ p ∈ P, s.heap.get? p.1 = some p.2 ∧ H p.1 = none

/-- what a generator expression gives: a generator that has not begun -/
def GMadeX (X : Cx) (k : Nat) (pins : List (Addr × Obj)) (σ : L2.St) (okY : List V → V → Hp → Prop) (stp : V → Bool) (QE : List V → Hp → Prop) (u : Value) (s5 : Shared) : Prop :=
  ∃ (a : Addr) (g : Nat) (c : Code) (s4 : Shared) (H4 : Hp) (fp : List Addr), u = .ref a ∧ Inv X pins σ H4 s4 ∧ (∀ b ∈ fp, FpOk X pins H4 b) ∧ a < s5.heap.objs.size ∧ s5.heap.IsGen a g ∧ s5.gens[g]? = some (.fresh c) ∧ s5.os = s4.os ∧ AllBare s5.gens ∧ s5.heap.NoLimit ∧
    (∀ b o, s4.heap.get? b = some o → s5.heap.get? b = some o) ∧ s4.heap.objs.size < s5.heap.objs.size ∧
    ∀ (A : Around) (CP : CPt) (P : List (Addr × Obj)) (s6 : Shared), Room (k + 1) A → A.frames = some X.stack → (∀ ys P, CP ys P → ∀ p ∈ P, s5.heap.objs.size ≤ p.1) → CP [] P → (∀ p ∈ P, s6.heap.get? p.1 = some p.2 ∧ ∀ v, p.2.data ≠ .cell v) →
      (∀ b o, s5.heap.get? b = some o → s6.heap.get? b = some o) → s6.os = s5.os → AllBare s6.gens →
      ∃ n, Seg (model X.prog X.w) A (GXR (GBo X s4 H4 fp a g) CP QE) (GXY (GBo X s4 H4 fp a g) CP okY stp QE) n s6 c ((model X.prog X.w).den c) [] s6

def tGx (P : Addr) (wi : TI) (g : TG) (tt : TT) (te : TE) (vs : List Nat) (okY : List V → V → Hp → Prop) (stp : V → Bool) (QE : List V → Hp → Prop) : L2.St → Hp → Prop := fun σ H =>
  wi σ H fun J H1 => TabG H1 P ∧ ∀ H2, Tabbed P H1 H2 → ∃ W : Nat → Nat → List V → Hp → Prop, (∃ m, W 0 m [] H2) ∧ GTurn J g tt te vs σ okY stp QE W

theorem gx_make {X : Cx} {pins : List (Addr × Obj)} {σ : L2.St} {H : Hp} {s : Shared} {c P : Addr} {k : Nat} {elt tg iter : Expr} {ifs : List Expr} {scope : Scope} {own : List (Str × Nat)} {gpos : Pos} {wi : TI} {g : TG} {tt : TT} {te : TE}
    {okY : List V → V → Hp → Prop} {stp : V → Bool} {QE : List V → Hp → Prop}
    (hc : X.calm = true) (hN : X.N.Nodup) (hd : X.A.handled = none) (hdp : X.A.depth < recursionLimit) (TB : TabB X.base X.mg c P) (hcode : X.env.code = .ref c) (ok : BlkOk X.N X.env.scope scope own) (hcell : ∀ y ∈ scope.names, y.2 ≠ .cell) (hdot : scope.names.lookup (".0" : Str) = some NameKind.local)
    (hco : scope.isCoroutine = false) (hi : PI X tg iter wi)
    (hg : ∀ (s : Shared) (H : Hp) (cl : List (Str × Addr)) (C : Addr) (cd : Value) (A : Around) (fp : List Addr) (pn : List (Addr × Obj)), PG (X.gx s H (genEnv scope cl C cd builtinsNs X.env) A fp pn) tg g)
    (ht : ∀ (s : Shared) (H : Hp) (cl : List (Str × Addr)) (C : Addr) (cd : Value) (A : Around) (fp : List Addr) (pn : List (Addr × Obj)), Room k A → PTs (X.gx s H (genEnv scope cl C cd builtinsNs X.env) A fp pn) ifs tt)
    (he : ∀ (s : Shared) (H : Hp) (cl : List (Str × Addr)) (C : Addr) (cd : Value) (A : Around) (fp : List Addr) (pn : List (Addr × Obj)), Room k A → PE (X.gx s H (genEnv scope cl C cd builtinsNs X.env) A fp pn) elt te)
    (hs : ∀ v, genFold iter X.env v = pure v) (I : Inv X pins σ H s) (h : tGx P wi g tt te (own.map (·.2)) okY stp QE σ H) :
    wpAny (model X.prog X.w) X.A (eval (.GeneratorExp elt [⟨tg, iter, ifs, 0⟩] scope gpos) X.env) (GMadeX X k pins σ okY stp QE) X.xe s := by
  have hfree : ∀ y ∈ scope.names, y.2 = .free → ∃ c, X.env.cells.lookup y.1 = some c := fun y hy e => by
    rcases ok.free y hy e with k | k
    · exact I.ok.has _ (.inl k)
    · exact I.ok.has _ (.inr k)
  refine wpAny_GeneratorExp_make hco (closure_ok hfree) hcell hdot ok.kind hdp (thn (hi.run pins s σ H _ I h) fun xv s1 hx => thn hx fun itv s2 h2 => ?_) hs
  obtain ⟨it, fp, tn, J, H1, e, I1, T, st1, f1, ⟨ps, hP, htr⟩, q⟩ := h2
  subst e
  refine ⟨I1.nolimit, ?_⟩
  have hPs : s2.heap.get? P = some { cls := .none, data := .fields ps } := I1.hok P _ hP
  have cd : PySem.W.CodeHd s2.heap c P := TB.code.keeps fun b u e => I1.bk b u e
  have fpP : ∀ b ∈ fp, b ≠ P := fun b hb z => by
    have := (f1 b hb).1
    rw [z, hP] at this
    cases this
  have cont : ∀ (code : Value) (h3 : Heap) (tk : Nat) (more : Array Value), Heap.ExtBut P s2.heap h3 → h3.get? P = some { cls := .none, data := .fields (ps ++ more) } → TriplesOk (ps ++ more).toList →
      wpAny (model X.prog X.w) X.A (builtinsFor X.env.globals X.env.builtins) (fun bi s₄ =>
        ∀ h', h'.Ns s₄.heap.objs.size (fun y => if y = ".0" then some (.ref it) else none) → Heap.SameBut s₄.heap.objs.size (s₄.heap.push { cls := .type "frame", data := .dict #[] }) h' →
          GMadeX X k pins σ okY stp QE (.ref h'.objs.size) { s₄ with
            gens := s₄.gens.push (.fresh (.compStart (.GeneratorExp elt [⟨tg, iter, ifs, 0⟩] scope gpos) 0 (.ref it) .none (genEnv scope (cloFrom X.env.cells scope.names []) s₄.heap.objs.size code bi X.env))),
            toks := s₄.toks + 1 + 1 + 1,
            heap := h'.push { cls := .type "generator", data := .fields #[.int s₄.gens.size 0, .str "<genexpr>" (s₄.toks + 1), .str (X.env.qual ++ "<genexpr>") (s₄.toks + 1 + 1)] } }) X.xe { s2 with heap := h3, toks := tk } := by
    intro code h3 tk more hx hP3 ht3
    obtain ⟨bm, ob, e1, e2, e3, e4, e5, e6, e7, e8⟩ := TB.bm
    have keep3 : ∀ b u, b ≠ P → s2.heap.get? b = some u → h3.get? b = some u := fun b u hb e => hx b u hb e
    refine wpAny_builtinsFor (m := X.mg) (by rw [I1.ok.glob]; exact (I1.mod.glob.keeps I1.bk).extBut hx TB.gP) e1 e2 (keep3 _ _ e4 (I1.bk _ _ e5)) e6 e7 e8 ?_
    intro h' hn' hs'
    have I4 : Inv X pins σ (upd H1 P (.tbl (ps ++ more))) { s2 with heap := h3, toks := tk } := by
      have J := inv_tab (more := more) (h' := h3) (g' := s2.gens) (d' := s2.drawn) (t' := tk) I1 hP keep3 hP3 I1.bare
      exact J
    have fpo : ∀ b ∈ fp, FpOk X pins (upd H1 P (.tbl (ps ++ more))) b := fun b hb => ⟨by rw [upd_ne (fpP b hb)]; exact (f1 b hb).1, (f1 b hb).2⟩
    have st4 : tn 0 h3 := T.keep _ _ _ st1 fun b hb o e => keep3 b o (fpP b hb) e
    have flt : ∀ b ∈ fp, b < h3.objs.size := fun b hb => by
      obtain ⟨o, e, _⟩ := T.obj _ _ st4 b hb
      exact Heap.lt_size e
    have hsz : h'.objs.size = h3.objs.size + 1 := by rw [hs'.1, Heap.size_push]
    have hlt3 : h3.objs.size < h'.objs.size := by rw [hsz]; exact Nat.lt_succ_self _
    have keep' : ∀ b o, h3.get? b = some o → h'.get? b = some o := fun b o e => hs'.extBut b o (Nat.ne_of_lt (Heap.lt_size e)) (Heap.get?_push_of_some _ e)
    have keep5 : ∀ go b o, h3.get? b = some o → (h'.push go).get? b = some o := fun go b o e => Heap.get?_push_of_some _ (keep' b o e)
    obtain ⟨W, ⟨m0, w0⟩, turn⟩ := q _ ⟨⟨ps ++ more, upd_same, ht3⟩, fun b hb => upd_ne hb⟩
    generalize hgo : ({ cls := .type "generator", data := .fields #[.int s2.gens.size 0, .str "<genexpr>" (tk + 1), .str (X.env.qual ++ "<genexpr>") (tk + 1 + 1)] } : Obj) = go
    have hat : (h'.push go).get? h'.objs.size = some go := Heap.get?_push_size _ (by rw [← hgo]; rfl)
    have hisg : ∀ hh : Heap, hh.get? h'.objs.size = some go → hh.IsGen h'.objs.size s2.gens.size := fun hh e => ⟨go, _, _, e, by rw [← hgo], by rw [← hgo], by rw [← hgo]⟩
    have hgc : ∀ v, go.data ≠ .cell v := fun v z => by
      rw [← hgo] at z
      cases z
    show GMadeX X k pins σ okY stp QE (.ref h'.objs.size) { s2 with gens := s2.gens.push (.fresh (.compStart (.GeneratorExp elt [⟨tg, iter, ifs, 0⟩] scope gpos) 0 (.ref it) .none (genEnv scope (cloFrom X.env.cells scope.names []) h3.objs.size code builtinsNs X.env))), toks := tk + 1 + 1 + 1, heap := h'.push go }
    refine ⟨h'.objs.size, s2.gens.size, _, { s2 with heap := h3, toks := tk }, _, fp, rfl, I4, fpo, ?_, hisg _ hat, Array.getElem?_push_size .., rfl, I1.bare.push rfl, I4.nolimit.keeps fun b o e => keep5 go b o e, fun b o e => keep5 go b o e, ?_, ?_⟩
    · show h'.objs.size < (h'.push go).objs.size
      rw [Heap.size_push]
      exact Nat.lt_succ_self _
    · show h3.objs.size < (h'.push go).objs.size
      rw [Heap.size_push]
      omega
    intro A CP Pc s6 hr6 hf6 hlow hcp0 hPc kp6 os6 ba6
    have kp6' : ∀ b o, (h'.push go).get? b = some o → s6.heap.get? b = some o := kp6
    have low : ∀ {ys : List V} {P' : List (Addr × Obj)}, CP ys P' → ∀ p ∈ P', h'.objs.size + 1 ≤ p.1 := fun {ys P'} cp p hp => by
      have q1 : (h'.push go).objs.size ≤ p.1 := hlow ys P' cp p hp
      rw [Heap.size_push] at q1
      exact q1
    generalize hce : genEnv scope (cloFrom X.env.cells scope.names []) h3.objs.size code builtinsNs X.env = ce
    have hR : Room k (A.deeper ce) := hr6.deeper ce
    have I6 : Inv (X.gx { s2 with heap := h3, toks := tk } (upd H1 P (.tbl (ps ++ more))) ce (A.deeper ce) fp [(h'.objs.size, go)]) Pc (wipe σ (own.map (·.2))) (upd H1 P (.tbl (ps ++ more))) s6 := by
      refine gx_start (code := code) I4 ok hcell hN (fun b hb => ⟨fpo b hb, flt b hb⟩) hce.symm hR.hd (Around.frames_deeper hf6) (hn'.keeps fun b o e => kp6' b o (Heap.get?_push_of_some _ e)) (fun b o e => kp6' b o (keep5 go b o e)) os6 ba6 fun p hp => ?_
      rcases List.mem_cons.mp hp with z | z
      · rw [z]
        exact ⟨kp6' _ _ hat, hlt3, hgc⟩
      · have := low hcp0 p z
        exact ⟨(hPc p z).1, Nat.lt_trans hlt3 this, (hPc p z).2⟩
    have st6 : tn 0 s6.heap := T.keep _ _ _ st4 fun b _ o e => kp6' b o (keep5 go b o e)
    have pg := hg { s2 with heap := h3, toks := tk } (upd H1 P (.tbl (ps ++ more))) (cloFrom X.env.cells scope.names []) h3.objs.size code (A.deeper ce) fp [(h'.objs.size, go)]
    have pt := ht { s2 with heap := h3, toks := tk } (upd H1 P (.tbl (ps ++ more))) (cloFrom X.env.cells scope.names []) h3.objs.size code (A.deeper ce) fp [(h'.objs.size, go)] hR
    have pe := he { s2 with heap := h3, toks := tk } (upd H1 P (.tbl (ps ++ more))) (cloFrom X.env.cells scope.names []) h3.objs.size code (A.deeper ce) fp [(h'.objs.size, go)] hR
    rw [hce] at pg pt pe
    have hces : ce.scope = scope := by rw [← hce]; rfl
    have gb : ∀ P' σ' H' s', Inv (X.gx { s2 with heap := h3, toks := tk } (upd H1 P (.tbl (ps ++ more))) ce (A.deeper ce) fp [(h'.objs.size, go)]) P' σ' H' s' → GBo X { s2 with heap := h3, toks := tk } (upd H1 P (.tbl (ps ++ more))) fp h'.objs.size s2.gens.size P' H' s' := fun P' σ' H' s' I' => by
      refine ⟨I'.os, I'.bare, I'.base, I'.hok, hisg _ (I'.pin (h'.objs.size, go) (List.mem_append_left _ (List.mem_singleton.mpr rfl))).1, I'.nolimit, fun p hp => ?_⟩
      obtain ⟨h1, h2, _⟩ := I'.pin p (List.mem_append_right _ hp)
      exact ⟨h1, h2⟩
    have loop := fun s₀ => seg_gx (X := X.gx { s2 with heap := h3, toks := tk } (upd H1 P (.tbl (ps ++ more))) ce (A.deeper ce) fp [(h'.objs.size, go)]) (A := A) (iter := iter) (scope := scope) (gpos := gpos) (GB := GBo X { s2 with heap := h3, toks := tk } (upd H1 P (.tbl (ps ++ more))) fp h'.objs.size s2.gens.size) (CP := CP) (lo := h'.objs.size + 1)
      hc rfl over_gx (by show ce.scope.isCoroutine = false; rw [hces]; exact hco) T (fun b hb => ⟨hb, Nat.lt_succ_of_lt (Nat.lt_trans (flt b hb) hlt3), fun p hp => by
        rw [List.mem_singleton.mp hp]
        exact Nat.ne_of_gt (Nat.lt_trans (flt b hb) hlt3)⟩) (fun p hp => by rw [List.mem_singleton.mp hp]; exact Nat.lt_succ_self _) (Nat.le_succ_of_le (Nat.le_of_lt hlt3)) (fun ys P' cp p hp => low cp p hp) pg pt pe gb turn m0 m0 0 [] Pc s₀ s6 _ (Nat.le_refl _) w0 hcp0 I6 st6 (fun b hb => (fpo b hb).1)
    refine ⟨m0, ?_⟩
    · show Seg _ A _ _ m0 s6 _ ((compStart (.GeneratorExp elt [⟨tg, iter, ifs, 0⟩] scope gpos) 0 (.ref it) .none ce).onRaise (leaving ce)) [] s6
      unfold compStart
      rw [Sem.onRaise_eq_wrap]
      show Seg _ A _ _ _ s6 _ ((ask >>= _).wrap _ _ _ _) [] s6
      refine seg_bind_wrap (wpAny_askSetting ?_)
      split
      · exact seg_again rfl (loop s6 fun p hp => (hPc p hp).1)
      · first
          | exact seg_bind_wrap (wpAny_rule (seg_bind_wrap (wpAny_standAt (seg_bind_wrap (T.self _ 0 s6 _ _ st6 (seg_again rfl (loop s6 fun p hp => (hPc p hp).1)))))))
          | (refine seg_bind_wrap (wpAny_rule ?_); show Seg _ A _ _ _ s6 _ ((standAt iter.pos >>= _).wrap _ _ _ _) [] s6; exact seg_bind_wrap (wpAny_standAt (seg_bind_wrap (T.self _ 0 s6 _ _ st6 (seg_again rfl (loop s6 fun p hp => (hPc p hp).1))))))
  cases hf : codeAmong gpos ps.toList with
  | none =>
    refine wpAny_genexprCodeX hcode (cd.code hPs htr) (cd.tab hPs) hf fun c' h' tk hx hge hlt hco' _ htab' _ => ?_
    obtain ⟨o1, vs, f1, tf, fl, tg, inF, tx, tt, op, _, _, _, _, _, _, _, _, _, htr', _⟩ := hco'
    exact cont _ h' tk _ hx htab'.2 htr'
  | some cv =>
    refine wpAny_genexprCode_hit hcode (cd.code hPs htr) hf ?_
    exact cont cv s2.heap s2.toks #[] (Heap.ExtBut.refl _ _) (by rw [Array.append_empty]; exact hPs) (by rw [Array.append_empty]; exact htr)
end VL

end

/-! #### VX3 -/
section
set_option autoImplicit false
set_option maxRecDepth 100000
set_option maxHeartbeats 2000000
/-! generator expressions: all, any, tuple -/
namespace VL
open PySem PySem.Spec PyProof.Rows L2 GenW GxR

theorem GBo.ext {X : Cx} {s4 : Shared} {H4 : Hp} {fp : List Addr} {a : Addr} {g : Nat} {P : List (Addr × Obj)} {H : Hp} {s s' : Shared} (h : GBo X s4 H4 fp a g P H s) (os : s'.os = s.os) (b : AllBare s'.gens) (k : ∀ b o, s.heap.get? b = some o → s'.heap.get? b = some o) : GBo X s4 H4 fp a g P H s' := by
  obtain ⟨h1, _, h3, h4, h5, h6, h7⟩ := h
  exact ⟨os.trans h1, b, h3.trans (Un.kept k), h4.kept k, h5.keeps k, h6.keeps k, fun p hp => ⟨k _ _ (h7 p hp).1, (h7 p hp).2⟩⟩
/-- back in the def's context -/
theorem GBo.back {X : Cx} {pins P : List (Addr × Obj)} {σ : L2.St} {s4 s : Shared} {H4 H : Hp} {fp : List Addr} {a : Addr} {g : Nat} (I : Inv X pins σ H4 s4) (hf : ∀ b ∈ fp, FpOk X pins H4 b) (h : GBo X s4 H4 fp a g P H s) : Inv X pins σ H s := by
  obtain ⟨h1, h2, h3, h4, h5, h6, h7⟩ := h
  exact I.call' (ch := fp) h1 h3 h4 h2 fun b hb => ⟨(hf b hb).2.2.2.1, (hf b hb).2.1, (hf b hb).2.2.2.2.1, (hf b hb).2.2.2.2.2⟩

/-- next -/
theorem gx_pull {P : Program} {w : World} {A : Around} {E : Value → Shared → Prop} {s : Shared} {X : Cx} {s4 : Shared} {H4 : Hp} {fp : List Addr} {a : Addr} {g n : Nat} {gs : GenState} {CP : CPt} {okY : List V → V → Hp → Prop} {stp : V → Bool} {QE : List V → Hp → Prop} {Q : Option Value → Shared → Prop}
    (hh : A.handled = none) (hroom : A.depth < recursionLimit) (hl : s.heap.NoLimit) (hg : s.heap.IsGen a g) (hgs : s.gens[g]? = some gs)
    (hgo : gs.Goes (model P w) A.in1 (GXR (GBo X s4 H4 fp a g) CP QE) (GXY (GBo X s4 H4 fp a g) CP okY stp QE) n (.send .none) (s.setGen g .running))
    (hY : ∀ v s' gs' ys y Pc H, RelV y v → CP ys Pc → GBo X s4 H4 fp a g Pc H s' → s'.gens[g]? = some gs' → okY ys y H → (∀ p ∈ Pc, s.heap.get? p.1 = some p.2) → (stp y = true → QE (ys ++ [y]) H) →
      (stp y = false → ∀ P' s'', Woke Pc P' s' s'' → CP (ys ++ [y]) P' → ∃ m, m < n ∧ gs'.Goes (model P w) A.in1 (GXR (GBo X s4 H4 fp a g) CP QE) (GXY (GBo X s4 H4 fp a g) CP okY stp QE) m (.send .none) s'') → Q (some v) s')
    (hP : ∀ s' ys Pc H, CP ys Pc → GBo X s4 H4 fp a g Pc H s' → QE ys H → (∀ p ∈ Pc, s.heap.get? p.1 = some p.2) → Q none s') : wpAny (model P w) A (pyNext (.ref a)) Q E s := by
  have hgl : g < s.gens.size := (Array.getElem?_eq_some_iff.mp hgs).1
  refine wpAny_gsz (n := g + 1) hgl (wpAny_pyNext_genexpQ (P := fun _ s₀ s₁ => ∃ ys Pc H, CP ys Pc ∧ GBo X s4 H4 fp a g Pc H s₁ ∧ QE ys H ∧ ∀ p ∈ Pc, s₀.heap.get? p.1 = some p.2) hh hl hroom hg hgs hgo (fun v s₁ gs' hb hv => ?_) (fun s₁ hp h' hk => ?_))
  · intro hsz
    have hsz1 : g < s₁.gens.size := by
      have q : (s₁.setGen g gs').gens.size = s₁.gens.size := setGen_size _ _ _
      have hsz' : g + 1 ≤ (s₁.setGen g gs').gens.size := hsz
      omega
    obtain ⟨ys, y, Pc, H, rv, cp, gb, oky, hP0, q1, q2⟩ := hv
    refine hY v _ gs' ys y Pc H rv cp (gb.ext rfl (allBare_setGen gb.2.1 hb) fun _ _ e => e) (setGen_at hsz1) oky hP0 q1 fun hst P' s'' wk cp' => ?_
    have q3 := q2 hst P' s'' ⟨wk.os, wk.bare, wk.keep, wk.adr, wk.own⟩ cp'
    cases n with
    | zero => exact q3.elim
    | succ m => exact ⟨m, Nat.lt_succ_self m, q3⟩
  · intro _
    obtain ⟨ys, Pc, H, cp, gb, q, hP0⟩ := hp
    exact hP _ ys Pc H cp (gb.ext rfl (allBare_setGen gb.2.1 rfl) hk) q hP0

/-! ### all, any -/
def isT : V → Bool
  | .bl true => true
  | _ => false
def isF : V → Bool
  | .bl false => true
  | _ => false
def okB : List V → V → Hp → Prop := fun _ y _ => ∃ b, y = .bl b
def cpB (stp : V → Bool) : CPt := fun ys P => P = [] ∧ ∀ y ∈ ys, stp y = false
theorem all_loop {P : Program} {w : World} {A : Around} {R : Result → Shared → Prop} {X : Cx} {s4 : Shared} {H4 : Hp} {fp : List Addr} {a : Addr} {g : Nat} {QE : List V → Hp → Prop} (hh : A.handled = none) (hroom : A.depth < recursionLimit)
    (hR : ∀ s' ys Pc H, GBo X s4 H4 fp a g Pc H s' → QE ys H → R (.ok (.ret (.bool (!(ys.any isF))))) s') :
    ∀ (n : Nat) (s : Shared), s.heap.IsGen a g → s.heap.NoLimit →
      (∃ gs, s.gens[g]? = some gs ∧ gs.Goes (model P w) A.in1.in1 (GXR (GBo X s4 H4 fp a g) (cpB isF) QE) (GXY (GBo X s4 H4 fp a g) (cpB isF) okB isF QE) n (.send .none) (s.setGen g .running)) →
      codeAny (model P w) A (.builtin "all.loop" ⟨[.ref a], []⟩) R s := by
  intro n
  induction n using Nat.strongRecOn with
  | ind n ih =>
    intro s hg hl ⟨gs, hgs, hgo⟩
    refine codeAny_builtin F.entry_all_loop ?_
    rw [Around.under_plainId F.plain_all_loop _]
    show wpAny _ A.in1 (pyNext (.ref a) >>= _) _ _ s
    refine wpAny_bind (gx_pull (A := A.in1) hh hroom hl hg hgs hgo (fun v s' gs' ys y Pc H rv cp gb hgs' oky _ q1 q2 => ?_) fun s' ys Pc H cp gb q _ => ?_)
    · obtain ⟨b, rfl⟩ := oky
      obtain rfl : v = Value.bool b := rv
      refine wpAny_bind (wpAny_holding (wpAny_truthy_bool ?_))
      refine wpAny_bind (wpAny_letGo ?_)
      cases b with
      | true =>
        simp only [if_true]
        obtain ⟨rfl, hall⟩ := cp
        have gbr : GBo X s4 H4 fp a g [] H (s'.setGen g .running) := gb.ext rfl (allBare_setGen gb.2.1 rfl) fun _ _ e => e
        obtain ⟨m, hm, go⟩ := q2 rfl [] (s'.setGen g .running) ⟨rfl, gbr.2.1, fun _ _ _ e => e, rfl, fun p hp => by simp at hp⟩ ⟨rfl, fun z hz => by
          rcases List.mem_append.mp hz with hz | hz
          · exact hall z hz
          · rw [List.mem_singleton.mp hz]
            rfl⟩
        exact wpAny_pure ⟨plainId_quiet F.plain_all_loop _, ih m hm s' gb.2.2.2.2.1 gb.2.2.2.2.2.1 ⟨gs', hgs', go⟩⟩
      | false =>
        simp only [Bool.false_eq_true, if_false]
        refine wpAny_bind (wpAny_rule (wpAny_pure ?_))
        have := hR s' _ Pc H gb (q1 rfl)
        rw [List.any_append] at this
        have e : [V.bl false].any isF = true := rfl
        rw [e, Bool.or_true] at this
        exact this
    · refine wpAny_bind (wpAny_rule (wpAny_pure ?_))
      have := hR s' ys Pc H gb q
      have e : ys.any isF = false := by
        rw [List.any_eq_false]
        intro y hy
        rw [cp.2 y hy]
        exact Bool.false_ne_true
      rw [e] at this
      exact this
theorem any_loop {P : Program} {w : World} {A : Around} {R : Result → Shared → Prop} {X : Cx} {s4 : Shared} {H4 : Hp} {fp : List Addr} {a : Addr} {g : Nat} {QE : List V → Hp → Prop} (hh : A.handled = none) (hroom : A.depth < recursionLimit)
    (hR : ∀ s' ys Pc H, GBo X s4 H4 fp a g Pc H s' → QE ys H → R (.ok (.ret (.bool (ys.any isT)))) s') :
    ∀ (n : Nat) (s : Shared), s.heap.IsGen a g → s.heap.NoLimit →
      (∃ gs, s.gens[g]? = some gs ∧ gs.Goes (model P w) A.in1.in1 (GXR (GBo X s4 H4 fp a g) (cpB isT) QE) (GXY (GBo X s4 H4 fp a g) (cpB isT) okB isT QE) n (.send .none) (s.setGen g .running)) →
      codeAny (model P w) A (.builtin "any.loop" ⟨[.ref a], []⟩) R s := by
  intro n
  induction n using Nat.strongRecOn with
  | ind n ih =>
    intro s hg hl ⟨gs, hgs, hgo⟩
    refine codeAny_builtin F.entry_any_loop ?_
    rw [Around.under_plainId F.plain_any_loop _]
    show wpAny _ A.in1 (pyNext (.ref a) >>= _) _ _ s
    refine wpAny_bind (gx_pull (A := A.in1) hh hroom hl hg hgs hgo (fun v s' gs' ys y Pc H rv cp gb hgs' oky _ q1 q2 => ?_) fun s' ys Pc H cp gb q _ => ?_)
    · obtain ⟨b, rfl⟩ := oky
      obtain rfl : v = Value.bool b := rv
      refine wpAny_bind (wpAny_holding (wpAny_truthy_bool ?_))
      refine wpAny_bind (wpAny_letGo ?_)
      cases b with
      | false =>
        simp only [Bool.false_eq_true, if_false]
        obtain ⟨rfl, hall⟩ := cp
        have gbr : GBo X s4 H4 fp a g [] H (s'.setGen g .running) := gb.ext rfl (allBare_setGen gb.2.1 rfl) fun _ _ e => e
        obtain ⟨m, hm, go⟩ := q2 rfl [] (s'.setGen g .running) ⟨rfl, gbr.2.1, fun _ _ _ e => e, rfl, fun p hp => by simp at hp⟩ ⟨rfl, fun z hz => by
          rcases List.mem_append.mp hz with hz | hz
          · exact hall z hz
          · rw [List.mem_singleton.mp hz]
            rfl⟩
        exact wpAny_pure ⟨plainId_quiet F.plain_any_loop _, ih m hm s' gb.2.2.2.2.1 gb.2.2.2.2.2.1 ⟨gs', hgs', go⟩⟩
      | true =>
        simp only [if_true]
        refine wpAny_bind (wpAny_rule (wpAny_pure ?_))
        have := hR s' _ Pc H gb (q1 rfl)
        rw [List.any_append] at this
        have e : [V.bl true].any isT = true := rfl
        rw [e, Bool.or_true] at this
        exact this
    · refine wpAny_bind (wpAny_rule (wpAny_pure ?_))
      have := hR s' ys Pc H gb q
      have e : ys.any isT = false := by
        rw [List.any_eq_false]
        intro y hy
        rw [cp.2 y hy]
        exact Bool.false_ne_true
      rw [e] at this
      exact this
section
variable {X : Cx} {c P : Addr} {k : Nat} {elt tg iter : Expr} {ifs : List Expr} {scope : Scope} {own : List (Str × Nat)} {gpos p pos : Pos} {wi : TI} {g : TG} {tt : TT} {te : TE}
/-- how the generator's own parts are read -/
structure GxOk (X : Cx) (k : Nat) (c P : Addr) (elt tg iter : Expr) (ifs : List Expr) (scope : Scope) (own : List (Str × Nat)) (wi : TI) (g : TG) (tt : TT) (te : TE) : Prop where
  hc : X.calm = true
  hN : X.N.Nodup
  hr : Room (k + 2) X.A
  TB : TabB X.base X.mg c P
  hcode : X.env.code = .ref c
  ok : BlkOk X.N X.env.scope scope own
  hcell : ∀ y ∈ scope.names, y.2 ≠ .cell
  hdot : scope.names.lookup (".0" : Str) = some NameKind.local
  hco : scope.isCoroutine = false
  hi : PI X tg iter wi
  hg : ∀ (s : Shared) (H : Hp) (cl : List (Str × Addr)) (C : Addr) (cd : Value) (A : Around) (fp : List Addr) (pn : List (Addr × Obj)), PG (X.gx s H (genEnv scope cl C cd builtinsNs X.env) A fp pn) tg g
  ht : ∀ (s : Shared) (H : Hp) (cl : List (Str × Addr)) (C : Addr) (cd : Value) (A : Around) (fp : List Addr) (pn : List (Addr × Obj)), Room k A → PTs (X.gx s H (genEnv scope cl C cd builtinsNs X.env) A fp pn) ifs tt
  he : ∀ (s : Shared) (H : Hp) (cl : List (Str × Addr)) (C : Addr) (cd : Value) (A : Around) (fp : List Addr) (pn : List (Addr × Obj)), Room k A → PE (X.gx s H (genEnv scope cl C cd builtinsNs X.env) A fp pn) elt te
  hs : ∀ v, genFold iter X.env v = pure v
theorem GxOk.make {pins : List (Addr × Obj)} {σ : L2.St} {H : Hp} {s : Shared} {okY : List V → V → Hp → Prop} {stp : V → Bool} {QE : List V → Hp → Prop} (G : GxOk X k c P elt tg iter ifs scope own wi g tt te) (I : Inv X pins σ H s) (h : tGx P wi g tt te (own.map (·.2)) okY stp QE σ H) :
    wpAny (model X.prog X.w) X.A (eval (.GeneratorExp elt [⟨tg, iter, ifs, 0⟩] scope gpos) X.env) (GMadeX X k pins σ okY stp QE) X.xe s :=
  gx_make G.hc G.hN G.hr.hd (by have := G.hr.dp; omega) G.TB G.hcode G.ok G.hcell G.hdot G.hco G.hi G.hg G.ht G.he G.hs I h
def tGAll (P : Addr) (wi : TI) (g : TG) (tt : TT) (te : TE) (vs : List Nat) : TE := fun σ H Q => tGx P wi g tt te vs okB isF (fun ys H' => Q (.bl (!(ys.any isF))) H') σ H
def tGAny (P : Addr) (wi : TI) (g : TG) (tt : TT) (te : TE) (vs : List Nat) : TE := fun σ H Q => tGx P wi g tt te vs okB isT (fun ys H' => Q (.bl (ys.any isT)) H') σ H
theorem room2 {A : Around} (r : Room (k + 2) A) : Room (k + 1) A.in1.in1 := ⟨r.hd, by have := r.dp; show A.depth + 3 * (k + 1) + 5 < _; omega, by have := r.un; show A.units + 1 + 1 + 16 * (k + 1) + 200 < _; omega⟩
theorem pe_gall (G : GxOk X k c P elt tg iter ifs scope own wi g tt te) (hgl : Gl X "all") (hm : X.mg "all" = none) (hb : bootBuiltins "all" = some (.builtin "all"))
    (hst : starEach [.GeneratorExp elt [⟨tg, iter, ifs, 0⟩] scope gpos] X.env = (false, eval (.GeneratorExp elt [⟨tg, iter, ifs, 0⟩] scope gpos) X.env) :: starEach [] X.env := by rfl) :
    PE X (.Call (.Name "all" p) [.GeneratorExp elt [⟨tg, iter, ifs, 0⟩] scope gpos] [] pos) (tGAll P wi g tt te (own.map (·.2))) := by
  refine ⟨fun pins s σ H Q I h => ?_⟩
  refine wpAny_Call_Name_kw (ld_blt I hgl hm hb ?_)
  refine PyProof.Rows.callWith_builtin1 ?_ hst (by rfl)
  rw [hst]
  show wpAny _ _ (spliced ((false, eval (.GeneratorExp elt [⟨tg, iter, ifs, 0⟩] scope gpos) X.env) :: backTo pos (starEach [] X.env))) _ _ s
  refine Calls.spliced_cons (thn (G.make I h) fun u s5 hG => ?_)
  obtain ⟨a, gn, cd, s4, H4, fp, rfl, I4, hf, ha, hg, hgs, os, ba, hl, kp, sz, wake⟩ := hG
  refine Calls.spliced_nil ?_
  refine call_function_tree F.kind_all F.plain_all F.entry_all (F.args_all1 _) ?_
  unfold Builtin.«all»
  refine wpAny_bind (m := oneArg "all" _) (wpAny_pure ?_)
  refine wpAny_bind (wpAny_pyIter_gen hg ?_)
  have bar : AllBare (s5.setGen gn .running).gens := allBare_setGen ba rfl
  obtain ⟨n, sg⟩ := wake X.A.in1.in1 (cpB isF) [] (s5.setGen gn .running) (room2 G.hr) I4.ok.frames (fun ys P' cp p hp => by rw [cp.1] at hp; simp at hp) ⟨rfl, fun y hy => by simp at hy⟩ (fun p hp => by simp at hp) (fun _ _ e => e) rfl bar
  refine wpAny_pure ⟨plainId_quiet F.plain_all_loop _, all_loop G.hr.hd (by have := G.hr.dp; omega) (fun s' ys Pc H' gb q => ?_) n s5 hg hl ⟨_, hgs, rfl, sg⟩⟩
  exact ⟨.bl _, H', gb.back I4 hf, rfl, q⟩
theorem pe_gany (G : GxOk X k c P elt tg iter ifs scope own wi g tt te) (hgl : Gl X "any") (hm : X.mg "any" = none)
    (hst : starEach [.GeneratorExp elt [⟨tg, iter, ifs, 0⟩] scope gpos] X.env = (false, eval (.GeneratorExp elt [⟨tg, iter, ifs, 0⟩] scope gpos) X.env) :: starEach [] X.env := by rfl) :
    PE X (.Call (.Name "any" p) [.GeneratorExp elt [⟨tg, iter, ifs, 0⟩] scope gpos] [] pos) (tGAny P wi g tt te (own.map (·.2))) := by
  refine ⟨fun pins s σ H Q I h => ?_⟩
  refine wpAny_Call_Name_kw (ld_blt I hgl hm boot_any ?_)
  refine PyProof.Rows.callWith_builtin1 ?_ hst (by rfl)
  rw [hst]
  show wpAny _ _ (spliced ((false, eval (.GeneratorExp elt [⟨tg, iter, ifs, 0⟩] scope gpos) X.env) :: backTo pos (starEach [] X.env))) _ _ s
  refine Calls.spliced_cons (thn (G.make I h) fun u s5 hG => ?_)
  obtain ⟨a, gn, cd, s4, H4, fp, rfl, I4, hf, ha, hg, hgs, os, ba, hl, kp, sz, wake⟩ := hG
  refine Calls.spliced_nil ?_
  refine call_function_tree F.kind_any F.plain_any F.entry_any (F.args_any1 _) ?_
  unfold Builtin.«any»
  refine wpAny_bind (m := oneArg "any" _) (wpAny_pure ?_)
  refine wpAny_bind (wpAny_pyIter_gen hg ?_)
  have bar : AllBare (s5.setGen gn .running).gens := allBare_setGen ba rfl
  obtain ⟨n, sg⟩ := wake X.A.in1.in1 (cpB isT) [] (s5.setGen gn .running) (room2 G.hr) I4.ok.frames (fun ys P' cp p hp => by rw [cp.1] at hp; simp at hp) ⟨rfl, fun y hy => by simp at hy⟩ (fun p hp => by simp at hp) (fun _ _ e => e) rfl bar
  refine wpAny_pure ⟨plainId_quiet F.plain_any_loop _, any_loop G.hr.hd (by have := G.hr.dp; omega) (fun s' ys Pc H' gb q => ?_) n s5 hg hl ⟨_, hgs, rfl, sg⟩⟩
  exact ⟨.bl _, H', gb.back I4 hf, rfl, q⟩
end
end VL

end

/-! #### VX4 -/
section
set_option autoImplicit false
set_option maxRecDepth 100000
set_option maxHeartbeats 2000000
/-! generator expressions: tuple -/
namespace VL
open PySem PySem.Spec PyProof.Rows L2 GenW GxR

def cpL (S : Addr) : CPt := fun ys P => ∃ acc c, P = [(S, lstObj acc c)] ∧ Vals ys acc.toList
def okL : List V → V → Hp → Prop := fun ys _ _ => ys.length < sizeLine
def goOn : V → Bool := fun _ => false
theorem ext_loop {P : Program} {w : World} {A : Around} {R : Result → Shared → Prop} {X : Cx} {s4 : Shared} {H4 : Hp} {fp : List Addr} {S a : Addr} {g : Nat} {QE : List V → Hp → Prop} {res : Value} (hh : A.handled = none) (hroom : A.depth < recursionLimit) (hSa : S ≠ a) (hSc : S ≠ cStatics)
    (hR : ∀ (s' : Shared) (ys : List V) (acc : Array Value) (c : Nat) (H : Hp), GBo X s4 H4 fp a g [(S, lstObj acc c)] H s' → Vals ys acc.toList → QE ys H → R (.ok (.ret res)) s') :
    ∀ (n : Nat) (s : Shared), s.heap.IsGen a g → s.heap.NoLimit →
      (∃ gs, s.gens[g]? = some gs ∧ gs.Goes (model P w) A.in1.in1 (GXR (GBo X s4 H4 fp a g) (cpL S) QE) (GXY (GBo X s4 H4 fp a g) (cpL S) okL goOn QE) n (.send .none) (s.setGen g .running)) →
      codeAny (model P w) A (.builtin "list.extend.loop" ⟨[.ref S, .ref a, res], []⟩) R s := by
  intro n
  induction n using Nat.strongRecOn with
  | ind n ih =>
    intro s hg hl ⟨gs, hgs, hgo⟩
    refine codeAny_builtin F.entry_extend_loop ?_
    rw [Around.under_plainId F.plain_extend_loop _]
    show wpAny _ A.in1 (pyNext (.ref a) >>= _) _ _ s
    refine wpAny_bind (gx_pull (A := A.in1) hh hroom hl hg hgs hgo (fun v s' gs' ys y Pc H rv cp gb hgs' oky _ q1 q2 => ?_) fun s' ys Pc H cp gb q _ => ?_)
    · obtain ⟨acc, c, rfl, rl⟩ := cp
      have hS1 : s'.heap.get? S = some (lstObj acc c) := (gb.2.2.2.2.2.2 (S, lstObj acc c) (List.mem_singleton.mpr rfl)).1
      have hasz : acc.size < sizeLine := by
        have e1 := rl.length
        have e2 : acc.toList.length = acc.size := by simp
        have e3 : ys.length < sizeLine := oky
        omega
      show wpAny _ A.in1 (updateSeq S (·.push v) >>= _) _ _ _
      refine wpAny_bind ?_
      refine wpAny_updateSeq hS1 rfl (wpAny_pure ⟨plainId_quiet F.plain_extend_loop _, ?_⟩) (Nat.le_of_lt hasz) (by show (acc.push v).size ≤ sizeLine + 1; rw [Array.size_push]; omega)
      have keep3 : ∀ b o, b ≠ S → s'.heap.get? b = some o → (s'.heap.update S (Obj.mapSeq (·.push v))).get? b = some o := fun b o hbS e => (Heap.get?_update_other _ _ (Ne.symm hbS)).trans e
      obtain ⟨_, hb1, _, _, hg1, hl1, _⟩ := gb
      obtain ⟨m, hm, go⟩ := q2 rfl [(S, lstObj (acc.push v) _)] ({ s' with heap := s'.heap.update S (Obj.mapSeq (·.push v)) }.setGen g .running) ⟨rfl, allBare_setGen hb1 rfl, fun b o hb e => keep3 b o (fun z => hb (by rw [z]; exact List.mem_singleton.mpr rfl)) e, rfl, fun p hp => by
        rw [List.mem_singleton.mp hp]
        exact ⟨Heap.get?_update_self _ hS1 rfl, fun v z => by cases z⟩⟩ ⟨acc.push v, _, rfl, by
          rw [Array.toList_push]
          exact rl.append (.cons rv .nil)⟩
      refine ih m hm { s' with heap := s'.heap.update S (Obj.mapSeq (·.push v)) } ?_ ?_ ⟨gs', hgs', go⟩
      · obtain ⟨o, nm, qn, ho, r⟩ := hg1
        exact ⟨o, nm, qn, keep3 a o (Ne.symm hSa) ho, r⟩
      · obtain ⟨mc, hns, hnn⟩ := hl1
        exact ⟨mc, hns.at' fun o e => keep3 _ o (Ne.symm hSc) e, hnn⟩
    · obtain ⟨acc, c, rfl, rl⟩ := cp
      exact wpAny_pure (hR s' ys acc c H gb rl q)

theorem collect_gx {X : Cx} {A : Around} {pins : List (Addr × Obj)} {σ : L2.St} {k : Nat} {u : Value} {s : Shared} {QE : List V → Hp → Prop} {Q : List Value → Shared → Prop} {E : Value → Shared → Prop}
    (hr : Room (k + 1) A.in1.in1) (hfr : A.frames = some X.stack) (h : GMadeX X k pins σ okL goOn QE u s)
    (hQ : ∀ (s' : Shared) (ys : List V) (acc : Array Value) (H' : Hp), Vals ys acc.toList → Inv X pins σ H' s' → QE ys H' → Q acc.toList s') : wpAny (model X.prog X.w) A (collect u) Q E s := by
  obtain ⟨a, g, c, s4, H4, fp, rfl, I4, hf, ha, hg, hgs, os, ba, hl, kp, sz, wake⟩ := h
  have hSa : s.heap.objs.size ≠ a := Nat.ne_of_gt ha
  have hcl : cStatics < s.heap.objs.size := let ⟨_, hn, _⟩ := hl; hn.lt
  have hSc : s.heap.objs.size ≠ cStatics := Nat.ne_of_gt hcl
  have hd : A.depth < recursionLimit := by
    have := hr.dp
    have e : A.in1.in1.depth = A.depth := rfl
    omega
  unfold collect
  refine wpAny_bind (wpAny_runValue (codeAny_builtin F.entry_proto_collect ?_))
  rw [Around.under_plainId F.plain_proto_collect _]
  show wpAny _ A.in1 (newList [] >>= fun l => again (.builtin "list.__iadd__" ⟨[l, .ref a], []⟩)) _ _ s
  refine wpAny_bind (wpAny_newObj_type ?_)
  refine wpAny_pure ⟨plainId_quiet F.plain_list_iadd _, codeAny_builtin F.entry_list_iadd ?_⟩
  rw [Around.under_plainId F.plain_list_iadd _]
  have k1 : ∀ b o, s.heap.get? b = some o → (s.heap.push { cls := .type "list", data := .seq ([] : List Value).toArray }).get? b = some o := fun b o e => Heap.get?_push_of_some _ e
  have gty : ∀ {h : Heap}, (∀ b o, s.heap.get? b = some o → h.get? b = some o) → h.IsGen a g := fun {h} q => hg.keeps q
  show wpAny _ A.in1 (Builtin.List.listExtendWith (.ref s.heap.objs.size) (.ref a) (.ref s.heap.objs.size)) _ _ _
  unfold Builtin.List.listExtendWith
  refine wpAny_bind (wpAny_typeOf (Heap.IsGen.typeIs (s := { s with heap := _ }) (gty k1)) ?_)
  have h1 : Builtin.List.listSameRef (.ref s.heap.objs.size) (.ref a) = false := by simp [Builtin.List.listSameRef, hSa]
  have h2 : (Value.type "generator" == Value.type "list") = false := by decide
  have h3 : (Value.type "generator" == Value.type "tuple") = false := by decide
  simp only [h1, h2, h3, Bool.or_false, Bool.false_eq_true, if_false]
  refine wpAny_bind (wpAny_pyIter_gen (s := { s with heap := _ }) (gty k1) ?_)
  refine wpAny_bind (wpAny_holding ?_)
  unfold Builtin.List.listLengthHint
  refine wpAny_bind (wpAny_specialOf (Heap.IsGen.typeIs (s := { s with heap := _ }) (gty k1)) F.gen_no_len ?_)
  show wpAny _ A.in1 (specialOf (Value.ref a) (Str.ofString "__length_hint__") >>= _) _ _ _
  refine wpAny_bind (wpAny_specialOf (Heap.IsGen.typeIs (s := { s with heap := _ }) (gty k1)) F.gen_no_hint ?_)
  refine wpAny_pure ?_
  show wpAny _ A.in1 (rule "list.extend.makes-room" >>= fun _ => Builtin.List.listTouch (.ref s.heap.objs.size) >>= fun _ =>
    again (.builtin "list.extend.loop" ⟨[.ref s.heap.objs.size, .ref a, .ref s.heap.objs.size], []⟩)) _ _ _
  refine wpAny_bind (wpAny_rule ?_)
  have hS₁ : (s.heap.push { cls := .type "list", data := .seq ([] : List Value).toArray }).get? s.heap.objs.size = some { cls := .type "list", data := .seq ([] : List Value).toArray } := Heap.get?_push_size _ rfl
  refine wpAny_bind ?_
  show wpAny _ A.in1 (updateSeq s.heap.objs.size (·.push .none) >>= fun _ => updateSeq s.heap.objs.size (·.pop)) _ _ _
  refine wpAny_bind (wpAny_updateSeq hS₁ rfl ?_)
  have hS₂ := Heap.get?_update_self (Obj.mapSeq (·.push Value.none)) hS₁ rfl
  refine wpAny_updateSeq hS₂ rfl ?_
  have hS₃ := Heap.get?_update_self (Obj.mapSeq (·.pop)) hS₂ rfl
  have oth : ∀ b o, s.heap.get? b = some o →
      (((s.heap.push { cls := .type "list", data := .seq ([] : List Value).toArray }).update s.heap.objs.size (Obj.mapSeq (·.push Value.none))).update s.heap.objs.size (Obj.mapSeq (·.pop))).get? b = some o :=
    fun b o e => have hb : b ≠ s.heap.objs.size := Nat.ne_of_lt (Heap.lt_size e)
      (Heap.get?_update_other _ _ (Ne.symm hb)).trans ((Heap.get?_update_other _ _ (Ne.symm hb)).trans (k1 b o e))
  obtain ⟨n, sg⟩ := wake A.in1.in1 (cpL s.heap.objs.size) [(s.heap.objs.size, lstObj #[] _)] ({ s with heap := _ }.setGen g .running) hr hfr (fun ys P' cp p hp => by
    obtain ⟨acc, c, rfl, _⟩ := cp
    rw [List.mem_singleton.mp hp]
    exact Nat.le_refl _) ⟨#[], _, rfl, .nil⟩ (fun p hp => by
      rw [List.mem_singleton.mp hp]
      exact ⟨hS₃, fun v z => by cases z⟩) oth rfl (allBare_setGen ba rfl)
  refine wpAny_pure ⟨plainId_quiet F.plain_extend_loop _, ext_loop (P := X.prog) (w := X.w) (A := A) (show A.handled = none from hr.hd) hd hSa hSc (fun s' ys acc c H' gb rl q => ?_) n _ (gty oth) (hl.keeps oth) ⟨_, hgs, rfl, sg⟩⟩
  show wpAny _ A (load s.heap.objs.size >>= _) _ _ s'
  refine wpAny_bind (wpAny_load (gb.2.2.2.2.2.2 _ (List.mem_singleton.mpr rfl)).1 ?_)
  exact wpAny_pure (hQ s' ys acc H' rl (gb.back I4 hf) q)

theorem GMadeX.typ {X : Cx} {k : Nat} {pins : List (Addr × Obj)} {σ : L2.St} {okY : List V → V → Hp → Prop} {stp : V → Bool} {QE : List V → Hp → Prop} {u : Value} {s : Shared} (h : GMadeX X k pins σ okY stp QE u s) : ∃ a, u = .ref a ∧ s.TypeIs (.ref a) "generator" := by
  obtain ⟨a, g, c, s4, H4, fp, rfl, I4, hf, ha, hg, _⟩ := h
  exact ⟨a, rfl, hg.typeIs⟩
theorem code_tuple_gx {X : Cx} {A : Around} {pins : List (Addr × Obj)} {σ : L2.St} {k : Nat} {I : Addr} {s : Shared} {QE : List V → Hp → Prop} {Q₁ : Value → Shared → Prop} {E : Value → Shared → Prop}
    (hr : Room (k + 1) A.in1.in1.in1) (hfr : A.frames = some X.stack) (hG : GMadeX X k pins σ okL goOn QE (.ref I) s)
    (h : ∀ (s' : Shared) (ys : List V) (acc : Array Value) (H' : Hp), Vals ys acc.toList → acc.size ≤ sizeLine → Inv X pins σ H' s' → QE ys H' → Q₁ (.ref s'.heap.objs.size) { s' with heap := s'.heap.push { cls := .type "tuple", data := .seq acc } }) (hz : ∀ ys H, QE ys H → ys.length ≤ sizeLine) :
    codeAny (model X.prog X.w) A (.call (.builtin "tuple.__new__") ⟨[.type "tuple", .ref I], []⟩) (wants Q₁ E) s := by
  refine codeAny_of_tree ?_
  show wpAny _ A.in1 (do checkBuiltinCall "tuple.__new__" ⟨[.type "tuple", .ref I], []⟩; again (.builtin "tuple.__new__" ⟨[.type "tuple", .ref I], []⟩)) _ _ s
  refine wpAny_bind (wpAny_of_eq (F.newCall_tuple_1 _) (wpAny_pure ⟨plainId_quiet F.plain_tuple_new _, codeAny_builtin F.entry_tuple_new ?_⟩))
  rw [Around.under_plainId F.plain_tuple_new _]
  have hsub := sub_tuple_self
  have hinit := init_tuple_lookup
  have hmh := madeHere_tuple
  have hTI : s.TypeIs (.ref I) "generator" := by
    obtain ⟨a, e, t⟩ := hG.typ
    cases e
    exact t
  wp_walk using wpAny_typeOf hTI, collect_gx (A := A.in1) hr hfr hG
  intro s' ys acc H' rl I' q
  have hsz : acc.size ≤ sizeLine := by
    have e1 := rl.length
    have e2 : acc.toList.length = acc.size := by simp
    have e3 := hz ys H' q
    omega
  show wpAny _ _ (Builtin.Tuple.tupleExact acc.toList.toArray >>= fun v => ret v) _ _ _
  unfold Builtin.Tuple.tupleExact
  refine wpAny_bind (wpAny_newObj_type ?_ (by show acc.toList.toArray.size ≤ sizeLine; simp only [Array.toArray_toList]; exact hsz))
  refine wpAny_pure ?_
  have e : acc.toList.toArray = acc := by simp
  rw [e]
  exact h s' ys acc H' rl hsz I' q
theorem call_tuple_gx {X : Cx} {A : Around} {pins : List (Addr × Obj)} {σ : L2.St} {k : Nat} {u : Value} {s : Shared} {QE : List V → Hp → Prop} {Q : Value → Shared → Prop} {E : Value → Shared → Prop}
    (hr : Room (k + 1) A.in1.in1.in1.in1) (hfr : A.frames = some X.stack) (hG : GMadeX X k pins σ okL goOn QE u s)
    (hQ : ∀ (s' : Shared) (ys : List V) (acc : Array Value) (H' : Hp), Vals ys acc.toList → acc.size ≤ sizeLine → Inv X pins σ H' s' → QE ys H' → Q (.ref s'.heap.objs.size) { s' with heap := s'.heap.push { cls := .type "tuple", data := .seq acc } }) (hz : ∀ ys H, QE ys H → ys.length ≤ sizeLine) :
    wpAny (model X.prog X.w) A (call (.type "tuple") [u]) Q E s := by
  obtain ⟨a, rfl, _⟩ := hG.typ
  refine callType_codes (Q₁ := fun obj s₁ => s₁.TypeIs obj "tuple" ∧ Q obj s₁) F.called_tuple (F.typeCall_tuple_1 _) F.entry_object_init
    (code_tuple_gx hr hfr hG (fun s' ys acc H' rl hsz I' q => ⟨⟨_, Heap.get?_push_size _ rfl, rfl⟩, hQ s' ys acc H' rl hsz I' q⟩) hz) fun obj s₁ h₁ => ?_
  exact ⟨h₁.1, F.args_object_init_2 obj _, object_init_meets F.called_tuple.init.lookup F.called_tuple.made (by decide) X.prog X.w A.in1 _ s₁ ⟨h₁.1, rfl, h₁.2⟩⟩
def tGTup (P : Addr) (wi : TI) (g : TG) (tt : TT) (te : TE) (vs : List Nat) : TE := fun σ H Q => tGx P wi g tt te vs okL goOn (fun ys H' => ys.length ≤ sizeLine ∧ ∀ p, H' p = none → Q (.ref p) (upd H' p (.tup ys))) σ H
theorem pe_gtup {X : Cx} {c P : Addr} {k : Nat} {elt tg iter : Expr} {ifs : List Expr} {scope : Scope} {own : List (Str × Nat)} {gpos p pos : Pos} {wi : TI} {g : TG} {tt : TT} {te : TE} (G : GxOk X k c P elt tg iter ifs scope own wi g tt te) (hgl : Gl X "tuple") (hm : X.mg "tuple" = none)
    (hst : starEach [.GeneratorExp elt [⟨tg, iter, ifs, 0⟩] scope gpos] X.env = (false, eval (.GeneratorExp elt [⟨tg, iter, ifs, 0⟩] scope gpos) X.env) :: starEach [] X.env := by rfl) :
    PE X (.Call (.Name "tuple" p) [.GeneratorExp elt [⟨tg, iter, ifs, 0⟩] scope gpos] [] pos) (tGTup P wi g tt te (own.map (·.2))) := by
  refine ⟨fun pins s σ H Q I h => ?_⟩
  refine wpAny_Call_Name_kw (ld_blt I hgl hm boot_tuple ?_)
  refine PyProof.Rows.callWith_type1 ?_ hst (by rfl)
  rw [hst]
  show wpAny _ _ (spliced ((false, eval (.GeneratorExp elt [⟨tg, iter, ifs, 0⟩] scope gpos) X.env) :: backTo pos (starEach [] X.env))) _ _ s
  refine Calls.spliced_cons (thn (G.make I h) fun u s5 hG => ?_)
  refine Calls.spliced_nil ?_
  have hr4 : Room (k + 1) X.A.in1.in1.in1.in1 := ⟨G.hr.hd, by have := G.hr.dp; show X.A.depth + 3 * (k + 1) + 5 < _; omega, by have := G.hr.un; show X.A.units + 1 + 1 + 1 + 1 + 16 * (k + 1) + 200 < _; omega⟩
  refine call_tuple_gx hr4 I.ok.frames hG (fun s' ys acc H' rl hsz I' q => ?_) fun ys H' q => q.1
  have hf : H' s'.heap.objs.size = none := I'.hok.fresh (Nat.le_refl _)
  refine ⟨.ref s'.heap.objs.size, upd H' s'.heap.objs.size (.tup ys), I'.laid (t' := s'.toks) (fun b u e => Heap.get?_push_of_some _ e) (Nat.le_refl _) ⟨q.1, acc.toList, rl, by
    have e : acc.toList.toArray = acc := by simp
    rw [e]
    exact IsTup.new _ _⟩, rfl, q.2 _ hf⟩
end VL

end

/-! #### VX5 -/
section
set_option autoImplicit false
set_option maxRecDepth 100000
set_option maxHeartbeats 2000000
/-! generator expressions by values -/
namespace VL
open PySem PySem.Spec PyProof.Rows L2 GenW GxR

def wGx (wi : WN) (g : WG) (tt : WT) (te : WE) (vs : List Nat) (okd : List D → D → Prop) (stp : D → Bool) : WN := fun ρ P => wi ρ fun ds ρ1 => ∃ W : Nat → List D → En → Prop, W 0 [] (wipeE ρ1 vs) ∧
  (∀ i acc ρ d, W i acc ρ → ds[i]? = some d → g d ρ fun ρ2 => tt ρ2 fun b ρ3 => if b = true then te ρ3 fun c ρ4 => ∃ y, c = .d y ∧ okd acc y ∧ (if stp y = true then P (acc ++ [y]) (wipeE ρ4 vs) else W (i + 1) (acc ++ [y]) (wipeE ρ4 vs)) else W (i + 1) acc (wipeE ρ3 vs)) ∧
  ∀ acc ρ, W ds.length acc ρ → P acc ρ
/-- the table has grown -/
theorem Sv.tabbed {K : Fg} {as : As} {Z : Hp} {ρ : En} {σ : L2.St} {B H H2 : Hp} {P : Addr} (S : Sv K as Z ρ σ B H) (hP : TabG B P) (t : Tabbed P H H2) : ∃ B2, ExT B B2 ∧ Sv K as Z ρ σ B2 H2 := by
  obtain ⟨⟨ps2, e2, tr⟩, off⟩ := t
  obtain ⟨ps, e1, _⟩ := hP
  have x : ExT B (upd B P (.tbl ps2)) := by
    refine ⟨fun a o h n => ?_, fun Q ⟨qs, h1, h2⟩ => ?_⟩
    · have na : a ≠ P := fun z => by
        rw [z, e1] at h
        cases h
        cases n
      rw [upd_ne na]
      exact h
    · by_cases z : Q = P
      · rw [z]
        exact ⟨ps2, upd_same, tr⟩
      · exact ⟨qs, by rw [upd_ne z]; exact h1, h2⟩
  refine ⟨_, x, S.grow x (fun a w => ?_) fun a w wz => ?_⟩
  · have nB : B a = none := by
      rcases w with w | w
      · exact (S.ow w).1
      · cases q : Z a with
        | none => exact (w q).elim
        | some o => exact (S.hid a o q).2.1
    have na : a ≠ P := fun z => by
      rw [z, e1] at nB
      cases nB
    exact ⟨by rw [upd_ne na]; exact nB, off a na⟩
  · by_cases z : a = P
    · rw [z, e2, upd_same]
    · rw [off a z, upd_ne z]
      exact S.off a w wz
theorem up_gx {K : Fg} {as : As} {P : Addr} {wi : WN} {g : WG} {gt : TG} {sl vs : List Nat} {tt : WT} {te : WE} {tt' : TT} {okd : List D → D → Prop} {stp : D → Bool} {okY : List V → V → Hp → Prop} {stpV : V → Bool} (htt : ∀ σ H Q, upT K as tt σ H Q → tt' σ H Q)
    (fg : GOk K as gt g sl) (hsl : ∀ j ∈ sl, j ∈ vs) (hP : P ∈ as.2) (hok : ∀ {B H : Hp} {xs : List V} {acc : List D} {v : V} {y : D}, DqAll K B xs acc → Dq K B v y → okd acc y → okY xs v H ∧ stpV v = stp y)
    {σ : L2.St} {H : Hp} {QE : List V → Hp → Prop} (h : ∃ Z ρ B Pk, Sv K as Z ρ σ B H ∧ wGx wi g tt te vs okd stp ρ Pk ∧ ∀ acc ρ' xs B' H', Pk acc ρ' → ExT B B' → Sv K as Z ρ' σ B' H' → DqAll K B' xs acc → QE xs H') :
    tGx P (upI K as wi) gt tt' (up K as te) vs okY stpV QE σ H := by
  obtain ⟨Z, ρ, B, Pk, S, h, k⟩ := h
  refine ⟨Z, ρ, B, _, S, h, fun ds ρ1 B1 H1 J h1 x1 S1 wk => ?_⟩
  obtain ⟨W, w0, turn, fin⟩ := h1
  have tB := S1.tab P hP
  refine ⟨S1.ext.tabs P tB, fun H2 htb => ?_⟩
  obtain ⟨B1', xb, S1'⟩ := S1.tabbed tB htb
  have wk : Wk K J B1' ds := ⟨fun i B2 H3 x s l => wk.go i B2 H3 (xb.trans x) s l, fun i B2 H3 x s l => wk.stop i B2 H3 (xb.trans x) s l, fun i B2 H3 v H' x s l y => wk.yld i B2 H3 v H' (xb.trans x) s l y⟩
  obtain ⟨B2, x2, S2⟩ := S1'.wiped vs (σ' := wipe σ vs) wipe_wipe.symm
  have back : ∀ {ρ0 : En} {B' H' : Hp}, Sv K as Z (wipeE ρ0 vs) (wipe σ vs) B' H' → Sv K as Z (wipeE ρ0 vs) σ B' H' := fun {ρ0 B' H'} S => S.irr (by rw [wipe_length]) fun i c e n => by
    rw [wipe_at (wipeE_at e n).1]
  refine ⟨fun i m xs H => i + m = ds.length ∧ ∃ ρ B' acc, (∃ ρ0, ρ = wipeE ρ0 vs) ∧ ExT B1' B' ∧ Sv K as Z ρ (wipe σ vs) B' H ∧ DqAll K B' xs acc ∧ W i acc ρ, ⟨ds.length, by omega, _, B2, [], ⟨_, rfl⟩, x2, S2, .nil, w0⟩, fun i m xs H ⟨hn, ρ, B', acc, ⟨ρ0, eρ⟩, x, S, r, hw⟩ => ?_⟩
  by_cases l : i < ds.length
  · refine .inr ⟨by omega, wk.go i B' H x S.subE l, fun xs' H' => ∃ ρ B' acc, (∃ ρ0, ρ = wipeE ρ0 vs) ∧ ExT B1' B' ∧ Sv K as Z ρ (wipe σ vs) B' H' ∧ DqAll K B' xs' acc ∧ W (i + 1) acc ρ, fun xs' H' hN => ⟨m - 1, by omega, by omega, hN⟩, fun v H' y => ?_⟩
    obtain ⟨d, B3, hd, al, dq⟩ := wk.yld i B' H v H' x S.subE l y
    obtain ⟨S3, x3⟩ := S.alc al
    refine fg _ ρ _ B3 H' v d _ _ S3 dq (turn i acc ρ d hw hd) fun ρ4 σ4 B4 H4 h4 x4 S4 o4 => ?_
    have weq : wipe σ4 vs = wipe σ vs := (wipe_eq o4.1 fun j hj => o4.2 j fun z => hj (hsl j z)).trans wipe_wipe
    refine ⟨weq, htt _ _ _ ⟨_, ρ4, B4, _, S4, h4, fun b ρ5 B5 H5 h5 x5 S5 => ?_⟩⟩
    have xx : ExT B' B5 := (x3.trans x4).trans x5
    cases b with
    | true =>
      rw [if_pos rfl] at h5
      refine iteT ?_
      refine ⟨_, ρ5, B5, _, S5, h5, fun c ρ6 v6 B6 H6 h6 x6 S6 o6 => ?_⟩
      obtain ⟨y, rfl, hok6, hW⟩ := h6
      have o6' : Dq K B6 v6 y := o6
      have r6 := DqAll.ext (xx.trans x6) r
      obtain ⟨ok1, ok2⟩ := hok (H := H6) r6 o6' hok6
      obtain ⟨B8, x8, S8⟩ := S6.wiped vs (σ' := wipe σ vs) (weq.trans wipe_wipe.symm)
      have r8 := DqAll.ext x8 (DqAll.app r6 (.cons o6' .nil))
      have x9 := ((x.trans xx).trans x6).trans x8
      refine ⟨ok1, ?_⟩
      rw [ok2]
      by_cases hs : stp y = true
      · rw [if_pos hs] at hW ⊢
        exact k _ _ _ B8 H6 hW ((x1.trans xb).trans x9) (back S8) r8
      · rw [if_neg hs] at hW ⊢
        exact ⟨_, B8, acc ++ [y], ⟨_, rfl⟩, x9, S8, r8, hW⟩
    | false =>
      rw [if_neg Bool.false_ne_true] at h5
      refine iteF ?_
      obtain ⟨B8, x8, S8⟩ := S5.wiped vs (σ' := wipe σ vs) (weq.trans wipe_wipe.symm)
      exact ⟨_, B8, acc, ⟨_, rfl⟩, (x.trans xx).trans x8, S8, DqAll.ext (xx.trans x8) r, h5⟩
  · have e : i = ds.length := by omega
    subst e
    subst eρ
    exact .inl ⟨wk.stop _ B' H x S.subE (Nat.le_refl _), k acc _ xs B' H (fin acc _ hw) ((x1.trans xb).trans x) (back S) r⟩
/-! ### all, any, tuple -/
def isFd : D → Bool
  | .bool b => !b
  | _ => false
def isTd : D → Bool
  | .bool b => b
  | _ => false
def okBd : List D → D → Prop := fun _ y => ∃ b, y = .bool b
def okLd : List D → D → Prop := fun acc _ => acc.length < sizeLine
theorem ok_all {K : Fg} {B H : Hp} {xs : List V} {acc : List D} {v : V} {y : D} (_ : DqAll K B xs acc) (o : Dq K B v y) (h : okBd acc y) : okB xs v H ∧ isF v = isFd y := by
  obtain ⟨b, rfl⟩ := h
  cases o
  exact ⟨⟨b, rfl⟩, by cases b <;> rfl⟩
theorem ok_any {K : Fg} {B H : Hp} {xs : List V} {acc : List D} {v : V} {y : D} (_ : DqAll K B xs acc) (o : Dq K B v y) (h : okBd acc y) : okB xs v H ∧ isT v = isTd y := by
  obtain ⟨b, rfl⟩ := h
  cases o
  exact ⟨⟨b, rfl⟩, by cases b <;> rfl⟩
theorem ok_tup {K : Fg} {B H : Hp} {xs : List V} {acc : List D} {v : V} {y : D} (r : DqAll K B xs acc) (_ : Dq K B v y) (h : okLd acc y) : okL xs v H ∧ goOn v = false := by
  have l := r.len
  exact ⟨by show xs.length < sizeLine; have h' : acc.length < sizeLine := h; omega, rfl⟩
theorem any_isF {K : Fg} {B : Hp} : ∀ {xs : List V} {acc : List D}, DqAll K B xs acc → xs.any isF = acc.any isFd
  | _, _, .nil => rfl
  | _, _, .cons h r => by
    rw [List.any_cons, List.any_cons, any_isF r]
    cases h with
    | bl b => cases b <;> rfl
    | _ => rfl
theorem any_isT {K : Fg} {B : Hp} : ∀ {xs : List V} {acc : List D}, DqAll K B xs acc → xs.any isT = acc.any isTd
  | _, _, .nil => rfl
  | _, _, .cons h r => by
    rw [List.any_cons, List.any_cons, any_isT r]
    cases h with
    | bl b => cases b <;> rfl
    | _ => rfl
/-- all(elt for tg in iter if ..) -/
def wGAll (wi : WN) (g : WG) (tt : WT) (te : WE) (vs : List Nat) : WE := fun ρ P => wGx wi g tt te vs okBd isFd ρ fun acc ρ' => P (.d (.bool (!(acc.any isFd)))) ρ'
def wGAny (wi : WN) (g : WG) (tt : WT) (te : WE) (vs : List Nat) : WE := fun ρ P => wGx wi g tt te vs okBd isTd ρ fun acc ρ' => P (.d (.bool (acc.any isTd))) ρ'
/-- tuple(elt for tg in iter if ..) -/
def wGTup (wi : WN) (g : WG) (tt : WT) (te : WE) (vs : List Nat) : WE := fun ρ P => wGx wi g tt te vs okLd (fun _ => false) ρ fun acc ρ' => acc.length ≤ sizeLine ∧ P (.d (.tuple acc)) ρ'
section
variable {X : Cx} {as : As} {c P : Addr} {k : Nat} {elt tg iter : Expr} {ifs : List Expr} {scope : Scope} {gpos p pos : Pos} {wi : WN} {g : WG} {sl : List Nat} {tt : WT} {te : WE}
/-- a def with generator expressions: its code, the table -/
structure GxT (X : Cx) (as : As) (c P : Addr) : Prop where
  hP : P ∈ as.2
  TB : TabB X.base X.mg c P
  hcode : X.env.code = .ref c
def scC (scope : Scope) : Bool := (scope.names.all fun y => match y.2 with
  | .cell => false
  | _ => true) && (match scope.names.lookup (".0" : Str) with
  | some .local => true
  | _ => false) && !scope.isCoroutine
theorem scC_cell (h : scC scope = true) : ∀ y ∈ scope.names, y.2 ≠ .cell := fun y hy e => by
  unfold scC at h
  simp only [Bool.and_eq_true, List.all_eq_true] at h
  have := h.1.1 y hy
  rw [e] at this
  cases this
theorem scC_dot (h : scC scope = true) : scope.names.lookup (".0" : Str) = some NameKind.local := by
  unfold scC at h
  simp only [Bool.and_eq_true] at h
  have := h.1.2
  split at this
  · assumption
  · cases this
theorem scC_co (h : scC scope = true) : scope.isCoroutine = false := by
  unfold scC at h
  simp only [Bool.and_eq_true, Bool.not_eq_true'] at h
  exact h.2
theorem gx_ok (vs : List (Str × Nat)) (hc : X.calm = true) (hN : X.N.Nodup) (hr : Room (k + 2) X.A) (T : GxT X as c P) (hi : PI X tg iter (upI X.K as wi))
    (hg : ∀ (s : Shared) (H : Hp) (cl : List (Str × Addr)) (C : Addr) (cd : Value) (A : Around) (fp : List Addr) (pn : List (Addr × Obj)), PG (X.gx s H (genEnv scope cl C cd builtinsNs X.env) A fp pn) tg (gU X.K as g sl))
    (ht : ∀ (s : Shared) (H : Hp) (cl : List (Str × Addr)) (C : Addr) (cd : Value) (A : Around) (fp : List Addr) (pn : List (Addr × Obj)), Room k A → PTs (X.gx s H (genEnv scope cl C cd builtinsNs X.env) A fp pn) ifs (upT X.K as tt))
    (he : ∀ (s : Shared) (H : Hp) (cl : List (Str × Addr)) (C : Addr) (cd : Value) (A : Around) (fp : List Addr) (pn : List (Addr × Obj)), Room k A → PE (X.gx s H (genEnv scope cl C cd builtinsNs X.env) A fp pn) elt (up X.K as te))
    (ok : BlkOk X.N X.env.scope scope vs) (hsc : scC scope = true) (hs : ∀ v, genFold iter X.env v = pure v) : GxOk X k c P elt tg iter ifs scope vs (upI X.K as wi) (gU X.K as g sl) (upT X.K as tt) (up X.K as te) :=
  ⟨hc, hN, hr, T.TB, T.hcode, ok, scC_cell hsc, scC_dot hsc, scC_co hsc, hi, hg, ht, he, hs⟩
theorem vgall (vs : List (Str × Nat)) (hm : X.mg "all" = none) (hc : X.calm = true) (hN : X.N.Nodup) (hr : Room (k + 2) X.A) (T : GxT X as c P) (hi : PI X tg iter (upI X.K as wi))
    (hg : ∀ (s : Shared) (H : Hp) (cl : List (Str × Addr)) (C : Addr) (cd : Value) (A : Around) (fp : List Addr) (pn : List (Addr × Obj)), PG (X.gx s H (genEnv scope cl C cd builtinsNs X.env) A fp pn) tg (gU X.K as g sl))
    (ht : ∀ (s : Shared) (H : Hp) (cl : List (Str × Addr)) (C : Addr) (cd : Value) (A : Around) (fp : List Addr) (pn : List (Addr × Obj)), Room k A → PTs (X.gx s H (genEnv scope cl C cd builtinsNs X.env) A fp pn) ifs (upT X.K as tt))
    (he : ∀ (s : Shared) (H : Hp) (cl : List (Str × Addr)) (C : Addr) (cd : Value) (A : Around) (fp : List Addr) (pn : List (Addr × Obj)), Room k A → PE (X.gx s H (genEnv scope cl C cd builtinsNs X.env) A fp pn) elt (up X.K as te))
    (ok : BlkOk X.N X.env.scope scope vs) (hsc : scC scope = true) (hsl : ∀ j ∈ sl, j ∈ vs.map (·.2)) (hgl : Gl X "all" := by rfl) (hs : ∀ v, genFold iter X.env v = pure v := by intro _; rfl)
    (hst : starEach [.GeneratorExp elt [⟨tg, iter, ifs, 0⟩] scope gpos] X.env = (false, eval (.GeneratorExp elt [⟨tg, iter, ifs, 0⟩] scope gpos) X.env) :: starEach [] X.env := by rfl) :
    PE X (.Call (.Name "all" p) [.GeneratorExp elt [⟨tg, iter, ifs, 0⟩] scope gpos] [] pos) (up X.K as (wGAll wi g tt te (vs.map (·.2)))) := by
  refine pe_imp (pe_gall (gx_ok vs hc hN hr T hi hg ht he ok hsc hs) hgl hm (by decide +kernel) hst) fun σ H Q ⟨Z, ρ, B, Pk, S, h, kk⟩ => ?_
  refine up_gx (fun _ _ _ h => h) gU_ok hsl T.hP ok_all ⟨Z, ρ, B, _, S, h, fun acc ρ' xs B' H' h1 x1 S1 r => ?_⟩
  rw [any_isF r]
  exact kk _ _ _ B' H' h1 x1 S1 (.bl _)
theorem vgany (vs : List (Str × Nat)) (hm : X.mg "any" = none) (hc : X.calm = true) (hN : X.N.Nodup) (hr : Room (k + 2) X.A) (T : GxT X as c P) (hi : PI X tg iter (upI X.K as wi))
    (hg : ∀ (s : Shared) (H : Hp) (cl : List (Str × Addr)) (C : Addr) (cd : Value) (A : Around) (fp : List Addr) (pn : List (Addr × Obj)), PG (X.gx s H (genEnv scope cl C cd builtinsNs X.env) A fp pn) tg (gU X.K as g sl))
    (ht : ∀ (s : Shared) (H : Hp) (cl : List (Str × Addr)) (C : Addr) (cd : Value) (A : Around) (fp : List Addr) (pn : List (Addr × Obj)), Room k A → PTs (X.gx s H (genEnv scope cl C cd builtinsNs X.env) A fp pn) ifs (upT X.K as tt))
    (he : ∀ (s : Shared) (H : Hp) (cl : List (Str × Addr)) (C : Addr) (cd : Value) (A : Around) (fp : List Addr) (pn : List (Addr × Obj)), Room k A → PE (X.gx s H (genEnv scope cl C cd builtinsNs X.env) A fp pn) elt (up X.K as te))
    (ok : BlkOk X.N X.env.scope scope vs) (hsc : scC scope = true) (hsl : ∀ j ∈ sl, j ∈ vs.map (·.2)) (hgl : Gl X "any" := by rfl) (hs : ∀ v, genFold iter X.env v = pure v := by intro _; rfl)
    (hst : starEach [.GeneratorExp elt [⟨tg, iter, ifs, 0⟩] scope gpos] X.env = (false, eval (.GeneratorExp elt [⟨tg, iter, ifs, 0⟩] scope gpos) X.env) :: starEach [] X.env := by rfl) :
    PE X (.Call (.Name "any" p) [.GeneratorExp elt [⟨tg, iter, ifs, 0⟩] scope gpos] [] pos) (up X.K as (wGAny wi g tt te (vs.map (·.2)))) := by
  refine pe_imp (pe_gany (gx_ok vs hc hN hr T hi hg ht he ok hsc hs) hgl hm hst) fun σ H Q ⟨Z, ρ, B, Pk, S, h, kk⟩ => ?_
  refine up_gx (fun _ _ _ h => h) gU_ok hsl T.hP ok_any ⟨Z, ρ, B, _, S, h, fun acc ρ' xs B' H' h1 x1 S1 r => ?_⟩
  rw [any_isT r]
  exact kk _ _ _ B' H' h1 x1 S1 (.bl _)
theorem vgtup (vs : List (Str × Nat)) (hm : X.mg "tuple" = none) (hc : X.calm = true) (hN : X.N.Nodup) (hr : Room (k + 2) X.A) (T : GxT X as c P) (hi : PI X tg iter (upI X.K as wi))
    (hg : ∀ (s : Shared) (H : Hp) (cl : List (Str × Addr)) (C : Addr) (cd : Value) (A : Around) (fp : List Addr) (pn : List (Addr × Obj)), PG (X.gx s H (genEnv scope cl C cd builtinsNs X.env) A fp pn) tg (gU X.K as g sl))
    (ht : ∀ (s : Shared) (H : Hp) (cl : List (Str × Addr)) (C : Addr) (cd : Value) (A : Around) (fp : List Addr) (pn : List (Addr × Obj)), Room k A → PTs (X.gx s H (genEnv scope cl C cd builtinsNs X.env) A fp pn) ifs (upT X.K as tt))
    (he : ∀ (s : Shared) (H : Hp) (cl : List (Str × Addr)) (C : Addr) (cd : Value) (A : Around) (fp : List Addr) (pn : List (Addr × Obj)), Room k A → PE (X.gx s H (genEnv scope cl C cd builtinsNs X.env) A fp pn) elt (up X.K as te))
    (ok : BlkOk X.N X.env.scope scope vs) (hsc : scC scope = true) (hsl : ∀ j ∈ sl, j ∈ vs.map (·.2)) (hgl : Gl X "tuple" := by rfl) (hs : ∀ v, genFold iter X.env v = pure v := by intro _; rfl)
    (hst : starEach [.GeneratorExp elt [⟨tg, iter, ifs, 0⟩] scope gpos] X.env = (false, eval (.GeneratorExp elt [⟨tg, iter, ifs, 0⟩] scope gpos) X.env) :: starEach [] X.env := by rfl) :
    PE X (.Call (.Name "tuple" p) [.GeneratorExp elt [⟨tg, iter, ifs, 0⟩] scope gpos] [] pos) (up X.K as (wGTup wi g tt te (vs.map (·.2)))) := by
  refine pe_imp (pe_gtup (gx_ok vs hc hN hr T hi hg ht he ok hsc hs) hgl hm hst) fun σ H Q ⟨Z, ρ, B, Pk, S, h, kk⟩ => ?_
  refine up_gx (fun _ _ _ h => h) gU_ok hsl T.hP (fun {_ _ _ _ v _} r o h => ok_tup (v := v) r o h) ⟨Z, ρ, B, _, S, h, fun acc ρ' xs B' H' h1 x1 S1 r => ?_⟩
  have rl := r.len
  refine ⟨by have := h1.1; omega, fun p hp => ?_⟩
  exact kk _ _ _ _ _ h1.2 (x1.trans (.new (S1.free hp))) (S1.al hp) (.tup (.inl (.inl upd_same)) (DqAll.ext (.new (S1.free hp)) r))
end
end VL

end

/-! #### VX6 -/
section
set_option autoImplicit false
set_option maxRecDepth 100000
set_option maxHeartbeats 2000000
/-! defs with generator expressions, the law's head -/
namespace VL
open PySem PySem.Spec PyProof.Rows L2 GxR
structure GxD (base : Heap) (mg : Str → Option Value) (ts : List Addr) (cdv : Value) (c P : Addr) : Prop where
  hP : P ∈ ts
  TB : TabB base mg c P
  hc : cdv = .ref c
/-- a def of the text, its code object told -/
structure FunC (K : Fg) (x qual : Str) (st : Stmt) (f : Addr) (fd : FuncData) (cdv : Value) : Prop where
  ex : ∃ (oc : Value) (od : Option Addr) (kV doc pm : Value) (an : Option Addr) (ct : Value) (osl : Array (Option Value)),
    fd = PySem.W.fnOf x qual (defArgs st) (defBody st) (defScope st) .none kV doc pm an cdv ct ∧ K.lookup f = some ⟨oc, od, .func fd, osl⟩ ∧ PySem.W.codeIn K cdv qual = true
section
variable {P : Program} {w : World} {K : Fg} {mg : Str → Option Value} {base : Heap}
theorem fnVC {x qual : Str} {st : Stmt} {f : Addr} {fd : FuncData} {cdv : Value} {N ps : List Str} {k n : Nat} {t : WS} {S : Spec} {ts : List Addr} (F : FunC K x qual st f fd cdv) (Sc : FnScope N ps (defScope st)) (hn : ps.length = n) (hN : n ≤ N.length)
    (hbody : ∀ (A : Around) (outer : List PySem.Env) (s : Shared) (H : Hp) (E : XK) (as : List (Option V)), Room k (A.deeper (envOfC qual (defScope st) s.heap.objs.size f cdv)) →
      PSs (cxOf CX0 P w K mg base N qual (defScope st) f cdv A outer s H E).nox (defBody st) (upS K (as, ts) t))
    (hS : ∀ ρ Q, S ρ Q → t (endsV n Q) (ρ ++ List.replicate (N.length - n) .un)) : FnOk P w K mg base CX0 (k + 1) f fd ps (spV K ts n S) := by
  obtain ⟨oc, od, kV, doc, pm, an, ct, osl, rfl, lk, hcd⟩ := F.ex
  refine fn_of lk hcd Sc (fun vs H Q E h => h.1.trans hn.symm) fun A outer s H vs Q E hr h => ?_
  obtain ⟨hl, ρ, B, R, Sv0, hs, kd, kn⟩ := h
  have start_eq : start N vs = vs.map some ++ List.replicate (N.length - n) none := by rw [← hl]; rfl
  refine ⟨_, (hbody A outer s H E (start N vs) hr).nox, ?_⟩
  have S1 : Sv K (start N vs, ts) noH (ρ ++ List.replicate (N.length - n) .un) (start N vs) B H := by
    rw [start_eq]
    exact Sv0.begin _
  have asl : n ≤ (start N vs).length := by
    rw [start_eq, List.length_append, List.length_map]
    omega
  have ast : (start N vs).take n = vs.map some := by
    rw [start_eq, List.take_append_of_le_length (by rw [List.length_map]; omega), List.take_of_length_le (by rw [List.length_map]; omega)]
  refine ⟨noH, _, B, endsV n R, S1, hS ρ R hs, ⟨fun ρ' σ' B' H' h1 x1 S' => ?_, fun c ρ' σ' v B' H' h1 x1 S' o1 => ?_, fun ds ρ' σ' p xs B' H' h1 x1 S' hp r => ?_, fun _ _ _ _ h1 _ _ => h1.elim, fun _ _ _ _ h1 _ _ => h1.elim⟩⟩
  · obtain ⟨B2, e2, S2⟩ := S'.back n asl
    rw [show (start N vs, ts).1.take n = vs.map some from ast] at S2
    exact kd .none _ .non B2 H' h1 (x1.trans e2) S2 .non
  · cases c with
    | d y =>
      obtain ⟨B2, e2, S2⟩ := S'.back n asl
      rw [show (start N vs, ts).1.take n = vs.map some from ast] at S2
      exact kd y _ v B2 H' h1 (x1.trans e2) S2 (Dq.ext e2 o1)
    | loc i =>
      unfold endsV at h1
      dsimp only at h1
      split at h1
      · rename_i ds q
        obtain ⟨p, xs, H0, a1, S2, a2, a3, a4⟩ := S'.pull q
        have e := a1.symm.trans o1
        cases e
        obtain ⟨B2, e2, S3⟩ := S2.back n asl
        rw [show (start N vs, ts).1.take n = vs.map some from ast] at S3
        rw [a3]
        exact kn ds _ p xs B2 H0 h1 (x1.trans e2) S3 a2 (DqAll.ext e2 a4)
      · exact h1.elim
  · obtain ⟨B2, e2, S2⟩ := S'.back n asl
    rw [show (start N vs, ts).1.take n = vs.map some from ast] at S2
    exact kn ds _ p xs B2 H' h1 (x1.trans e2) S2 hp (DqAll.ext e2 r)
end
/-- the code of a def whose table is told -/
theorem tab_cd {K : Fg} {x : Str} {f c P : Addr} {oc : Value} {od : Option Addr} {fd : FuncData} {osl : Array (Option Value)} (a : PySem.W.nsIn K mainGlobals x = some (some (.ref f))) (l : K.lookup f = some ⟨oc, od, .func fd, osl⟩) (t : PySem.W.tabIn K x = some (c, P)) : fd.code = .ref c := by
  unfold PySem.W.tabIn at t
  rw [a] at t
  dsimp only at t
  rw [l] at t
  dsimp only at t
  split at t
  · rename_i c' hc
    split at t
    · split at t
      · cases t
        exact hc
      · cases t
    · cases t
  · cases t
theorem tab_mk {K : Fg} {x : Str} {f c P : Addr} {oc : Value} {od : Option Addr} {osl : Array (Option Value)} {name qual : Str} {params : Arguments} {body : List Stmt} {scope : Scope} {dV kV doc pm cdv ct : Value} {an : Option Addr} {ve : Value} {vd : Option Addr} {vv : Array Value} {vs : Array (Option Value)}
    (a : PySem.W.nsIn K mainGlobals x = some (some (.ref f))) (l : K.lookup f = some ⟨oc, od, .func (PySem.W.fnOf name qual params body scope dV kV doc pm an cdv ct), osl⟩) (e : cdv = .ref c) (m : K.lookup c = some ⟨ve, vd, .fields vv, vs⟩) (v : vv[11]? = some (.ref P)) : PySem.W.tabIn K x = some (c, P) := by
  unfold PySem.W.tabIn
  rw [a]
  dsimp only
  rw [l]
  dsimp only
  rw [e]
  dsimp only
  rw [m]
  dsimp only
  rw [v]
/-- the law's head with tables -/
theorem walk_ofG {l : PySem.W.OpenLaw} {n k : Nat} {q : Program} {loose : List Str} {XP : (Str → Option Value) → Heap → Prop} {YP : World → Heap → Prop} {d : DefRec} {K : Params → Fg} {x : Str} {xs : List Str} {S : VL.Spec}
    (hn : l.most = some n) (hn2 : n ≤ sizeLine) (hdf : d.params.defaults = []) (hr : Room k callerA) (hrec : (xs.all fun y => ((recsOf q).find? fun e => e.name == y).isSome) = true) (hY : ∀ (w : World) (h : Heap), YP w h → (K w.params).In h)
    (F : ∀ (w : World) (mg : Str → Option Value) (fa : Addr) (h : Heap), (K w.params).In h → h.Ns mainGlobals mg → mg d.name = some (.ref fa) →
      ∃ (cs : List (Addr × Addr)) (fd : FuncData), (∀ p ∈ cs, (∃ y ∈ xs, PySem.W.tabIn (K w.params) y = some p) ∧ (K w.params).lookup p.2 = none) ∧ (∀ (s : Shared) (u : Value), BindsTo s fd ⟨[u], []⟩ [(x, u)]) ∧
        ∀ base : Heap, (K w.params).In base → base.Ns mainGlobals mg → (∀ p ∈ cs, TabB base mg p.1 p.2) → FnOk l.prog w (K w.params) mg base CX0 k fa fd [x] (spV (K w.params) (cs.map (·.2)) 1 S))
    (top : ∀ ns : List Int, ns.length ≤ n → S [.dat (.list (ns.map .int))] fun rv _ => rv = .d (.bool true)) :
    PySem.W.WalkO q loose XP YP l.row.toRowW d [] (fun f vs => PySem.call f vs) := by
  refine Att.attach_callB hn hdf fun w s₀ s₁ mg mb fa o pm cd doc a vs ns G Y ho hd hcd hmg hobj hints hlen hbits hg => ?_
  have KX := hY w _ Y
  obtain ⟨cs, fd, hcs, hb, hF⟩ := F w mg fa _ KX G.T.g hmg
  have tb : ∀ p ∈ cs, PySem.W.CodeHd s₁.heap p.1 p.2 ∧ s₁.heap.get? p.2 = some { cls := .none, data := .fields #[] } := fun p hp => by
    obtain ⟨⟨y, hy, ht⟩, _⟩ := hcs p hp
    have hq := List.all_eq_true.mp hrec y hy
    obtain ⟨dd, hdd⟩ := Option.isSome_iff_exists.mp hq
    exact PySem.W.tab_of G.T KX hdd ht
  refine LamX.law_callTs (cs := cs) (sp := spV (K w.params) (cs.map (·.2)) 1 S) KX G.T.g G.T.b G.T.builtins G.T.nolimit hg (fun p hp => (tb p hp).2) (fun p hp => (hcs p hp).2) (fun p hp => (tb p hp).1) G.T.bmain hobj hints (Nat.le_trans hlen hn2) hr (CX := CX0) (fun base h1 h2 h3 => hF base h1 h2 fun p hp => ⟨(h3 p hp).code, (h3 p hp).bm, (h3 p hp).gP⟩) hb (fun H hH hS => ?_) fun _ _ _ h => h
  refine law_sp (fun P hP => ?_) hS (top ns hlen)
  obtain ⟨p, hp, rfl⟩ := List.mem_map.mp hP
  exact hH p hp
end VL

end

/-! #### VX7 -/
section
set_option autoImplicit false
set_option maxRecDepth 100000
set_option maxHeartbeats 2000000
/-! generator expressions: sum of ints -/
namespace VL
open PySem PySem.Spec PyProof.Rows L2 GenW GxR

abbrev sumObj (n : Int) (t : Tok) (c : Nat) : Obj := { cls := .type "list", dict := none, data := .seq #[.int n t] c, slots := #[] }
def cpS (S : Addr) : CPt := fun ys P => ∃ (ns : List Int) (t : Tok) (c : Nat), P = [(S, sumObj ns.sum t c)] ∧ ys = ns.map V.int
def okI : List V → V → Hp → Prop := fun _ y _ => ∃ n, y = .int n
theorem sum_loop {P : Program} {w : World} {A : Around} {R : Result → Shared → Prop} {X : Cx} {s4 : Shared} {H4 : Hp} {fp : List Addr} {S a : Addr} {g : Nat} {QE : List V → Hp → Prop} (hh : A.handled = none) (hroom : A.depth < recursionLimit) (hSa : S ≠ a) (hSc : S ≠ cStatics)
    (hR : ∀ (s' : Shared) (ns : List Int) (t : Tok) (Pc : List (Addr × Obj)) (H : Hp), GBo X s4 H4 fp a g Pc H s' → QE (ns.map V.int) H → R (.ok (.ret (.int ns.sum t))) s') :
    ∀ (n : Nat) (s : Shared) (acc : Int) (tA : Tok) (c : Nat) (stage : Int), (stage = 0 ∨ stage = 2) → s.heap.IsGen a g → s.heap.NoLimit → s.heap.get? S = some (sumObj acc tA c) →
      (∃ gs, s.gens[g]? = some gs ∧ gs.Goes (model P w) A.in1.in1 (GXR (GBo X s4 H4 fp a g) (cpS S) QE) (GXY (GBo X s4 H4 fp a g) (cpS S) okI goOn QE) n (.send .none) (s.setGen g .running)) →
      codeAny (model P w) A (.builtin "sum.loop" ⟨[.ref a, .ref S, rawInt stage, rawInt 0], []⟩) R s := by
  intro n
  induction n using Nat.strongRecOn with
  | ind n ih =>
    intro s acc tA c stage hst hg hl hS ⟨gs, hgs, hgo⟩
    refine codeAny_builtin F.entry_sum_loop ?_
    rw [Around.under_plainId F.plain_sum_loop _]
    show wpAny _ A.in1 (seqItems? (.ref S) >>= _) _ _ s
    refine wpAny_bind (wpAny_seqItems hS rfl ?_)
    show wpAny _ A.in1 (tryCatch (pyNext (.ref a)) _ >>= _) _ _ s
    refine wpAny_bind (wpAny_tryCatch (gx_pull (A := A.in1) hh hroom hl hg hgs hgo (fun v s' gs' ys y Pc H rv cp gb hgs' oky hP0 q1 q2 => ?_) fun s' ys Pc H cp gb q hP0 => ?_))
    · obtain ⟨ns, t, c', rfl, rfl⟩ := cp
      obtain ⟨i, rfl⟩ := oky
      obtain ⟨ti, rfl⟩ : ∃ ti, v = Value.int i ti := rv
      have e0 : sumObj acc tA c = sumObj ns.sum t c' := Option.some.inj (hS.symm.trans (hP0 _ (List.mem_singleton.mpr rfl)))
      have ed : (Data.seq #[.int acc tA] c : Data) = Data.seq #[.int ns.sum t] c' := congrArg Obj.data e0
      obtain ⟨ea, rfl⟩ : acc = ns.sum ∧ tA = t := by
        injection ed with e1 _
        have e2 := congrArg (fun x : Array Value => x[0]?) e1
        have e3 : some (Value.int acc tA) = some (Value.int ns.sum t) := e2
        cases e3
        exact ⟨rfl, rfl⟩
      subst ea
      have hS1 : s'.heap.get? S = some (sumObj ns.sum tA c') := (gb.2.2.2.2.2.2 _ (List.mem_singleton.mpr rfl)).1
      obtain ⟨_, hb1, _, _, hg1, hl1, _⟩ := gb
      have esum : ns.sum + i = (ns ++ [i]).sum := by simp
      -- on
      have on : ∀ (s2 : Shared) (t2 : Tok) (c2 : Nat) (st2 : Int), (st2 = 0 ∨ st2 = 2) → s2.os = s'.os → s2.gens = s'.gens → (∀ b o, b ≠ S → s'.heap.get? b = some o → s2.heap.get? b = some o) → s2.heap.get? S = some (sumObj (ns.sum + i) t2 c2) →
          codeAny (model P w) A (.builtin "sum.loop" ⟨[.ref a, .ref S, rawInt st2, rawInt 0], []⟩) R s2 := by
        intro s2 t2 c2 st2 hst2 os2 gens2 keep2 hS2
        obtain ⟨m, hm, go⟩ := q2 rfl [(S, sumObj (ns.sum + i) t2 c2)] (s2.setGen g .running) ⟨os2, allBare_setGen (s := s2) (by rw [gens2]; exact hb1) rfl, fun b o hb e => keep2 b o (fun z => hb (by rw [z]; exact List.mem_singleton.mpr rfl)) e, rfl, fun p hp => by
          rw [List.mem_singleton.mp hp]
          exact ⟨hS2, fun v z => by cases z⟩⟩ ⟨ns ++ [i], t2, c2, by rw [esum], by rw [List.map_append]; rfl⟩
        refine ih m hm s2 (ns.sum + i) t2 c2 st2 hst2 ?_ ?_ hS2 ⟨gs', by rw [gens2]; exact hgs', go⟩
        · obtain ⟨o, nm, qn, ho, r⟩ := hg1
          exact ⟨o, nm, qn, keep2 a o (Ne.symm hSa) ho, r⟩
        · obtain ⟨mc, hns, hnn⟩ := hl1
          exact ⟨mc, hns.at' fun o e => keep2 _ o (Ne.symm hSc) e, hnn⟩
      have oth : ∀ (f : Obj → Obj) (h : Heap), (∀ b o, b ≠ S → s'.heap.get? b = some o → h.get? b = some o) → ∀ b o, b ≠ S → s'.heap.get? b = some o → (h.update S f).get? b = some o := fun f h k b o hb e => (Heap.get?_update_other _ _ (Ne.symm hb)).trans (k b o hb e)
      have k0 : ∀ b o, b ≠ S → s'.heap.get? b = some o → s'.heap.get? b = some o := fun _ _ _ e => e
      rcases hst with rfl | rfl
      · show wpAny _ A.in1 (if (_ : Bool) = true then (mkInt (ns.sum + i) >>= _) else _) _ _ _
        split
        · refine wpAny_bind (wpAny_mkInt ?_)
          refine wpAny_bind ?_
          refine wpAny_updateSeq hS1 rfl (wpAny_pure ⟨plainId_quiet F.plain_sum_loop _, ?_⟩)
          exact on _ _ _ 0 (.inl rfl) rfl rfl (oth _ _ k0) (Heap.get?_update_self _ hS1 rfl)
        · refine wpAny_bind (wpAny_rule ?_)
          refine wpAny_bind (wpAny_attempt (wpAny_holding (PySem.P.add_int ?_)))
          refine wpAny_bind ?_
          refine wpAny_updateSeq hS1 rfl ?_
          have hS2 := Heap.get?_update_self (Obj.mapSeq fun _ => #[Value.int (ns.sum + i) s'.toks]) hS1 rfl
          refine wpAny_bind (wpAny_letGo ?_)
          refine wpAny_bind ?_
          refine wpAny_updateSeq hS2 rfl (wpAny_pure ⟨plainId_quiet F.plain_sum_loop _, ?_⟩)
          exact on _ _ _ 2 (.inr rfl) rfl rfl (oth _ _ (oth _ _ k0)) (Heap.get?_update_self _ hS2 rfl)
      · refine wpAny_bind (wpAny_attempt (wpAny_holding (PySem.P.add_int ?_)))
        refine wpAny_bind ?_
        refine wpAny_updateSeq hS1 rfl ?_
        have hS2 := Heap.get?_update_self (Obj.mapSeq fun _ => #[Value.int (ns.sum + i) s'.toks]) hS1 rfl
        refine wpAny_bind (wpAny_letGo ?_)
        refine wpAny_bind ?_
        refine wpAny_updateSeq hS2 rfl (wpAny_pure ⟨plainId_quiet F.plain_sum_loop _, ?_⟩)
        exact on _ _ _ 2 (.inr rfl) rfl rfl (oth _ _ (oth _ _ k0)) (Heap.get?_update_self _ hS2 rfl)
    · obtain ⟨ns, t, c', rfl, rfl⟩ := cp
      have e0 : sumObj acc tA c = sumObj ns.sum t c' := Option.some.inj (hS.symm.trans (hP0 _ (List.mem_singleton.mpr rfl)))
      have ed : (Data.seq #[.int acc tA] c : Data) = Data.seq #[.int ns.sum t] c' := congrArg Obj.data e0
      obtain ⟨ea, rfl⟩ : acc = ns.sum ∧ tA = t := by
        injection ed with e1 _
        have e2 := congrArg (fun x : Array Value => x[0]?) e1
        have e3 : some (Value.int acc tA) = some (Value.int ns.sum t) := e2
        cases e3
        exact ⟨rfl, rfl⟩
      subst ea
      exact wpAny_pure (hR s' ns tA _ H gb q)
section
variable {X : Cx} {c P : Addr} {k : Nat} {elt tg iter : Expr} {ifs : List Expr} {scope : Scope} {own : List (Str × Nat)} {gpos p pos : Pos} {wi : TI} {g : TG} {tt : TT} {te : TE}
def sumV (ys : List V) : Int := (ys.map fun y => match y with
  | .int n => n
  | _ => 0).sum
theorem sumV_ints (ns : List Int) : sumV (ns.map V.int) = ns.sum := by
  unfold sumV
  rw [List.map_map]
  congr 1
  exact List.map_id _
def tGSum (P : Addr) (wi : TI) (g : TG) (tt : TT) (te : TE) (vs : List Nat) : TE := fun σ H Q => tGx P wi g tt te vs okI goOn (fun ys H' => Q (.int (sumV ys)) H') σ H
theorem pe_gsum (G : GxOk X k c P elt tg iter ifs scope own wi g tt te) (hgl : Gl X "sum") (hm : X.mg "sum" = none) (hb : bootBuiltins "sum" = some (.builtin "sum"))
    (hst : starEach [.GeneratorExp elt [⟨tg, iter, ifs, 0⟩] scope gpos] X.env = (false, eval (.GeneratorExp elt [⟨tg, iter, ifs, 0⟩] scope gpos) X.env) :: starEach [] X.env := by rfl) :
    PE X (.Call (.Name "sum" p) [.GeneratorExp elt [⟨tg, iter, ifs, 0⟩] scope gpos] [] pos) (tGSum P wi g tt te (own.map (·.2))) := by
  refine ⟨fun pins s σ H Q I h => ?_⟩
  refine wpAny_Call_Name_kw (ld_blt I hgl hm hb ?_)
  refine PyProof.Rows.callWith_builtin1 ?_ hst (by rfl)
  rw [hst]
  show wpAny _ _ (spliced ((false, eval (.GeneratorExp elt [⟨tg, iter, ifs, 0⟩] scope gpos) X.env) :: backTo pos (starEach [] X.env))) _ _ s
  refine Calls.spliced_cons (thn (G.make I h) fun u s5 hG => ?_)
  obtain ⟨a, gn, cd, s4, H4, fp, rfl, I4, hf, ha, hg, hgs, os, ba, hl, kp, sz, wake⟩ := hG
  have hSa : s5.heap.objs.size ≠ a := Nat.ne_of_gt ha
  have hcl : cStatics < s5.heap.objs.size := let ⟨_, hn, _⟩ := hl; hn.lt
  refine Calls.spliced_nil ?_
  refine call_function_tree F.kind_sum F.plain_sum F.entry_sum (F.args_sum1 _) ?_
  unfold Builtin.«sum»
  simp only [List.length_cons, List.length_nil]
  rw [if_neg (by decide)]
  refine wpAny_bind (wpAny_of_eq (a := [none]) rfl ?_)
  refine wpAny_bind (wpAny_pyIter_gen hg ?_)
  refine wpAny_bind (wpAny_mkInt ?_)
  refine wpAny_bind (wpAny_pure ?_)
  simp only [List.forIn_cons, List.forIn_nil]
  refine wpAny_bind (wpAny_bind (wpAny_bind (wpAny_isInstance (T := "int") (b := false) (typeIs_int _ _ _) PySem.sub_int_str ?_)))
  simp only [Bool.false_eq_true, if_false]
  refine wpAny_pure (wpAny_bind (wpAny_bind (wpAny_isInstance (T := "int") (b := false) (typeIs_int _ _ _) PySem.sub_int_bytes ?_)))
  simp only [Bool.false_eq_true, if_false]
  refine wpAny_pure (wpAny_bind (wpAny_bind (wpAny_isInstance (T := "int") (b := false) (typeIs_int _ _ _) PySem.sub_int_bytearray ?_)))
  simp only [Bool.false_eq_true, if_false]
  refine wpAny_pure (wpAny_pure ?_)
  refine wpAny_bind (wpAny_newObj_type ?_)
  have kn : ∀ o b u, s5.heap.get? b = some u → (s5.heap.push o).get? b = some u := fun o b u e => Heap.get?_push_of_some _ e
  have hS : (s5.heap.push (sumObj 0 s5.toks 0)).get? s5.heap.objs.size = some (sumObj 0 s5.toks 0) := Heap.get?_push_size _ rfl
  obtain ⟨n, sg⟩ := wake X.A.in1.in1 (cpS s5.heap.objs.size) [(s5.heap.objs.size, sumObj 0 s5.toks 0)] ({ s5 with heap := s5.heap.push (sumObj 0 s5.toks 0), toks := s5.toks + 1 }.setGen gn .running) (room2 G.hr) I4.ok.frames (fun ys P' cp p hp => by
    obtain ⟨ns, t, c, rfl, _⟩ := cp
    rw [List.mem_singleton.mp hp]
    exact Nat.le_refl _) ⟨[], _, _, rfl, rfl⟩ (fun p hp => by
      rw [List.mem_singleton.mp hp]
      exact ⟨hS, fun v z => by cases z⟩) (kn _) rfl (allBare_setGen ba rfl)
  refine wpAny_pure ⟨plainId_quiet F.plain_sum_loop _, sum_loop (P := X.prog) (w := X.w) (A := X.A) G.hr.hd (by have := G.hr.dp; omega) hSa (Nat.ne_of_gt hcl) (fun s' ns t Pc H' gb q => ?_) n _ 0 s5.toks 0 0 (.inl rfl) (hg.keeps (kn _)) (hl.keeps (kn _)) hS ⟨_, hgs, rfl, sg⟩⟩
  refine ⟨.int ns.sum, H', gb.back I4 hf, ⟨_, rfl⟩, ?_⟩
  rw [sumV_ints] at q
  exact q
end
end VL
namespace VL
open PySem PySem.Spec PyProof.Rows L2 GenW GxR
def sumD (ds : List D) : Int := (ds.map fun d => match d with
  | .int n => n
  | _ => 0).sum
theorem sum_rel {K : Fg} {B : Hp} : ∀ {xs : List V} {acc : List D}, DqAll K B xs acc → sumV xs = sumD acc
  | _, _, .nil => rfl
  | _, _, .cons h r => by
    have ih := sum_rel r
    unfold sumV sumD at ih ⊢
    rw [List.map_cons, List.map_cons, List.sum_cons, List.sum_cons, ih]
    cases h <;> rfl
theorem sumD_snoc (acc : List D) (n : Int) : sumD (acc ++ [.int n]) = sumD acc + n := by
  unfold sumD
  rw [List.map_append, List.sum_append]
  simp
def okId : List D → D → Prop := fun _ y => ∃ n, y = .int n
theorem ok_sum {K : Fg} {B H : Hp} {xs : List V} {acc : List D} {v : V} {y : D} (_ : DqAll K B xs acc) (o : Dq K B v y) (h : okId acc y) : okI xs v H ∧ goOn v = false := by
  obtain ⟨n, rfl⟩ := h
  cases o
  exact ⟨⟨n, rfl⟩, rfl⟩
def wGSum (wi : WN) (g : WG) (tt : WT) (te : WE) (vs : List Nat) : WE := fun ρ P => wGx wi g tt te vs okId (fun _ => false) ρ fun acc ρ' => P (.d (.int (sumD acc))) ρ'
section
variable {X : Cx} {as : As} {c P : Addr} {k : Nat} {elt tg iter : Expr} {ifs : List Expr} {scope : Scope} {gpos p pos : Pos} {wi : WN} {g : WG} {sl : List Nat} {tt : WT} {te : WE}
theorem vgsum (vs : List (Str × Nat)) (hm : X.mg "sum" = none) (hc : X.calm = true) (hN : X.N.Nodup) (hr : Room (k + 2) X.A) (T : GxT X as c P) (hi : PI X tg iter (upI X.K as wi))
    (hg : ∀ (s : Shared) (H : Hp) (cl : List (Str × Addr)) (C : Addr) (cd : Value) (A : Around) (fp : List Addr) (pn : List (Addr × Obj)), PG (X.gx s H (genEnv scope cl C cd builtinsNs X.env) A fp pn) tg (gU X.K as g sl))
    (ht : ∀ (s : Shared) (H : Hp) (cl : List (Str × Addr)) (C : Addr) (cd : Value) (A : Around) (fp : List Addr) (pn : List (Addr × Obj)), Room k A → PTs (X.gx s H (genEnv scope cl C cd builtinsNs X.env) A fp pn) ifs (upT X.K as tt))
    (he : ∀ (s : Shared) (H : Hp) (cl : List (Str × Addr)) (C : Addr) (cd : Value) (A : Around) (fp : List Addr) (pn : List (Addr × Obj)), Room k A → PE (X.gx s H (genEnv scope cl C cd builtinsNs X.env) A fp pn) elt (up X.K as te))
    (ok : BlkOk X.N X.env.scope scope vs) (hsc : scC scope = true) (hsl : ∀ j ∈ sl, j ∈ vs.map (·.2)) (hgl : Gl X "sum" := by rfl) (hs : ∀ v, genFold iter X.env v = pure v := by intro _; rfl)
    (hst : starEach [.GeneratorExp elt [⟨tg, iter, ifs, 0⟩] scope gpos] X.env = (false, eval (.GeneratorExp elt [⟨tg, iter, ifs, 0⟩] scope gpos) X.env) :: starEach [] X.env := by rfl) :
    PE X (.Call (.Name "sum" p) [.GeneratorExp elt [⟨tg, iter, ifs, 0⟩] scope gpos] [] pos) (up X.K as (wGSum wi g tt te (vs.map (·.2)))) := by
  refine pe_imp (pe_gsum (gx_ok vs hc hN hr T hi hg ht he ok hsc hs) hgl hm (by decide +kernel) hst) fun σ H Q ⟨Z, ρ, B, Pk, S, h, kk⟩ => ?_
  refine up_gx (fun _ _ _ h => h) gU_ok hsl T.hP (fun {_ _ _ _ v _} r o h => ok_sum (v := v) r o h) ⟨Z, ρ, B, _, S, h, fun acc ρ' xs B' H' h1 x1 S1 r => ?_⟩
  rw [sum_rel r]
  exact kk _ _ _ B' H' h1 x1 S1 (.int _)
end
end VL

end

/-! #### VX8 -/
section
set_option autoImplicit false
set_option maxRecDepth 100000
set_option maxHeartbeats 2000000
/-! repr of a list; a new list handed to a def that changes it -/
namespace VL
open PySem PySem.Spec PyProof.Rows L2
def rRepr (K : Fg) : List V → Hp → VK → Prop := fun xs H Q => ∃ v ds, xs = [v] ∧ L2.Dp K H v (.list ds) ∧ PyData.canLay0 (.list ds) = true ∧ PyData.showable (.list ds) = true ∧ PyData.depth (.list ds) ≤ 60 ∧ (PyData.shown (.list ds)).length ≤ sizeLine ∧ Q (.str (PyData.shown (.list ds))) H
def oRepr : DC := fun ds P => match ds with
  | [.list xs] => PyData.canLay0 (.list xs) = true ∧ PyData.showable (.list xs) = true ∧ PyData.depth (.list xs) ≤ 60 ∧ (PyData.shown (.list xs)).length ≤ sizeLine ∧ P (.str (PyData.shown (.list xs)))
  | _ => False
section
variable {X : Cx}
theorem call_repr (hg : X.A.guards = some []) (hu : X.A.units + 65 < cLine) : CallR X (.builtin "repr") (rRepr X.K) := by
  intro pins s σ H xs us Q I r h
  obtain ⟨v, ds, rfl, dp, hc, hs, hd, hz, q⟩ := h
  obtain ⟨u, rfl, rv⟩ := vals1 r
  obtain ⟨as, rd⟩ := Dp.reads I _ v u dp rv
  cases rd with
  | list h1 h2 h3 h4 =>
    exact repr_of_reads' (.list h1 h2 h3 h4) hs (fun z => by rw [PyData.hasDict_of_canLay _ hc] at z; cases z) hg (by omega) (fun _ _ e => e) (fun h' u tk hk => ⟨.str _, H, I.kept (t' := tk) hk, ⟨_, rfl⟩, q⟩) hz
theorem cv_repr {K : Fg} : CallV K (rRepr K) oRepr := by
  intro B H vs ds P Q e r c k
  unfold oRepr at c
  split at c
  · rename_i xs
    obtain ⟨c1, c2, c3, c4, c5⟩ := c
    cases r with
    | cons a r =>
      cases r
      exact ⟨_, xs, rfl, (a.dpH e).dp c1, c1, c2, c3, c4, k _ _ _ _ c5 .no (.str _)⟩
  · exact c.elim
end
end VL

end

/-! #### VX9 -/
section
set_option autoImplicit false
set_option maxRecDepth 100000
set_option maxHeartbeats 2000000
/-! a new list handed to a def that changes it; defs whose guards are told -/
namespace VL
open PySem PySem.Spec PyProof.Rows L2
def wCallF (n : Nat) (S : Spec) (wn : WN) (r : WA) : WE := fun ρ P => wn ρ fun ds ρ1 => r ρ1 fun cs ρ2 => ∃ es, dats cs = some es ∧ es.length + 1 = n ∧ S (.lst true ds :: es.map .dat) fun rv _ => match rv with
  | .d x => P (.d x) ρ2
  | .new fs => P (.d (.list fs)) ρ2
theorem up_callF {K : Fg} {as : As} {n : Nat} {S : Spec} {wn : WN} {r : WA} {σ : L2.St} {H : Hp} {Q : VK} (h : up K as (wCallF n S wn r) σ H Q) : tCallP (spV K as.2 n S) (tCons (upN K as wn) (upA K as r)) σ H Q := by
  obtain ⟨Z, ρ, B, P, S0, h, kk⟩ := h
  refine ⟨Z, ρ, B, _, S0, h, fun ds ρ1 p xs B1 H1 h1 x1 S1 hp rx => ?_⟩
  have Zp : Z p = none := S1.nZ hp
  refine ⟨upd Z p (.lst xs), ρ1, B1, _, S1.hide (xs := xs) hp, h1, fun cs ρ2 ws B2 H2 h2 x2 S2 o2 => ?_⟩
  obtain ⟨es, e1, e2, hs⟩ := h2
  have ro := dats_ok o2 e1
  obtain ⟨H0, S3, z3, eH⟩ := S2.unhide Zp
  obtain ⟨k1, k2, k3, _⟩ := S2.hid p _ upd_same
  have part : Part (fun a => Ow ρ2 σ a ∨ Z a ≠ none) H2 (upd B2 p (.lst xs)) := by
    refine ⟨fun a w => ?_, fun a w => ?_⟩
    · have na : a ≠ p := w.elim (fun z y => k3 (y ▸ z)) fun z y => z (y ▸ Zp)
      obtain ⟨q1, q2⟩ := S3.part.own a w
      rw [upd_ne na]
      refine ⟨q1, ?_⟩
      rw [eH, upd_ne na]
      exact q2
    · by_cases na : a = p
      · rw [na, upd_same, k1]
      · rw [upd_ne na, eH, upd_ne na]
        exact S3.part.off a w
  have eov : ∀ H' : Hp, ovl (fun a => Ow ρ2 σ a ∨ Z a ≠ none) H2 H' = ovl (fun a => Ow ρ2 σ a ∨ Z a ≠ none) H0 H' := fun H' => by
    funext a
    by_cases w : Ow ρ2 σ a ∨ Z a ≠ none
    · have na : a ≠ p := w.elim (fun z y => k3 (y ▸ z)) fun z y => z (y ▸ Zp)
      rw [ovl_in (W := fun a => Ow ρ2 σ a ∨ Z a ≠ none) w, ovl_in (W := fun a => Ow ρ2 σ a ∨ Z a ≠ none) w, eH, upd_ne na]
    · rw [ovl_out (W := fun a => Ow ρ2 σ a ∨ Z a ≠ none) w, ovl_out (W := fun a => Ow ρ2 σ a ∨ Z a ≠ none) w]
  refine ⟨_, _, part, by rw [List.length_cons, ro.len]; exact e2, _, B2, _, dats_map1 k2 (DqAll.ext x2 rx) ro S2.tab, hs, fun y ρ' v B' H' q x3 S4 dq hW => ?_, fun fs ρ' pp ys B' H' q x3 S4 hpp dq hW => ?_⟩
  · have x4 : ExT B2 H' := x3.trans S4.ext
    have S5 := S3.called x4 hW
    rw [← eov] at S5
    exact kk _ _ v H' _ q ((x1.trans x2).trans x4) S5 (Dq.ext S4.ext dq)
  · have x5 : ExT B' (upd H' pp (.lst ys)) := S4.ext.trans (.new hpp)
    have x4 : ExT B2 (upd H' pp (.lst ys)) := x3.trans x5
    have S5 := S3.called x4 hW
    rw [← eov] at S5
    exact kk _ _ _ _ _ q ((x1.trans x2).trans x4) S5 (.lst (.inl (.inl upd_same)) (DqAll.ext x5 dq))
/-! ### guards -/
/-- a def's promise where no guard is up -/
structure FnG (P : Program) (w : World) (K : Fg) (mg : Str → Option Value) (base : Heap) (k : Nat) (f : Addr) (fd : FuncData) (ps : List Str) (sp : Sp) : Prop where
  len : ∀ vs H Q E, sp vs H Q E → vs.length = ps.length
  run : ∀ (A : Around) (outer : List PySem.Env) (s : Shared) (H : Hp) (args : Args) (us : List Value) (vs : List V) (Q : VK), A.guards = some [] → Room k A → Env0 P w K mg base A outer s H → BindsTo s fd args (ps.zip us) → Vals vs us → sp vs H Q E0 →
    codeAny (model P w) A (.call (.ref f) args) (fun r s' => match r with | .ok (.ret u) => CE outer P w H s Q u s' | _ => False) s
section
variable {P : Program} {w : World} {K : Fg} {mg : Str → Option Value} {base : Heap}
theorem FnG.of {k : Nat} {f : Addr} {fd : FuncData} {ps : List Str} {sp : Sp} (F : FnOk P w K mg base CX0 k f fd ps sp) : FnG P w K mg base k f fd ps sp :=
  ⟨F.len, fun A outer s H args us vs Q _ hr e0 hb r h => codeAny_mono (F.run A outer s H args us vs Q E0 hr e0 hb r h) fun r s' hq => by
    cases r with
    | error e => exact False.elim hq
    | ok fl => cases fl <;> exact hq⟩
/-- such a def by its body -/
theorem fnG {x qual : Str} {st : Stmt} {f : Addr} {fd : FuncData} {cdv : Value} {N ps : List Str} {k : Nat} {sp : Sp} (F : FunC K x qual st f fd cdv) (Sc : FnScope N ps (defScope st)) (len : ∀ vs H Q E, sp vs H Q E → vs.length = ps.length)
    (hbody : ∀ (A : Around) (outer : List PySem.Env) (s : Shared) (H : Hp) (vs : List V) (Q : VK), A.guards = some [] → Room k (A.deeper (envOfC qual (defScope st) s.heap.objs.size f cdv)) → sp vs H Q E0 →
      ∃ t, PSs (cxOf CX0 P w K mg base N qual (defScope st) f cdv A outer s H E0).nox (defBody st) t ∧ t { nx := fun _ H' => Q .non H', rt := Q } (start N vs) H) : FnG P w K mg base (k + 1) f fd ps sp := by
  obtain ⟨oc, od, kV, doc, pm, an, ct, osl, rfl, lk, hcd⟩ := F.ex
  refine ⟨len, fun A outer s H args us vs Q hgd room e0 binds r hsp => ?_⟩
  have kin : K.In s.heap := e0.mod.kin.keeps fun b o e => (e0.bs b o e).1
  have nl : s.heap.NoLimit := e0.mod.nolimit.keeps fun b o e => (e0.bs b o e).1
  have kinds : ∀ y ∈ ps.zip us, (defScope st).names.lookup y.1 = some .local ∨ ((defScope st).names.lookup y.1 = some .cell ∧ ((cellsFrom (s.heap.objs.size + 1) (defScope st).names []).lookup y.1).isSome = true) := by
    rintro ⟨y, u⟩ hy
    exact (Sc.par y (List.of_mem_zip hy).1).imp id fun z => ⟨z, PySem.W.cellsFrom_some _ _ _ (.inl z)⟩
  refine codeAny_call_function room.depth (kin _ _ lk) rfl Sc.co Sc.gen rfl (PySem.W.codeRec_of kin hcd) (binds _ _ _ _ ?_)
  refine wpAny_newFunctionEnv_cells Sc.kind kinds fun env henv s1 ic => ?_
  cases henv
  refine ⟨nl.keeps ic.toInCall.keep, codeAny_func ?_⟩
  obtain ⟨t, ht, hq⟩ := hbody A outer s H vs Q hgd (room.deeper _) hsp
  have J := inv_start (CX := CX0) (E := E0) Sc room.hd e0 (len _ _ _ _ hsp) r ic
  refine wpAny_mono (ht.nox.run [] s1 (start N vs) H _ J hq) (fun fl s' hs => ?_) fun e s' hs => hs
  cases fl with
  | ret u =>
    obtain ⟨v, σ', H', J', rv, q⟩ := hs
    exact ⟨v, H', J'.os, J'.bare, J'.base, J'.hok, rv, q⟩
  | next =>
    obtain ⟨σ', H', J', q⟩ := hs
    exact ⟨V.non, H', J'.os, J'.bare, J'.base, J'.hok, rfl, q⟩
  | brk =>
    obtain ⟨_, _, _, q⟩ := hs
    exact q.elim
  | cont =>
    obtain ⟨_, _, _, q⟩ := hs
    exact q.elim
end
end VL
namespace VL
open PySem PySem.Spec PyProof.Rows L2
/-- a def's reading at its start -/
theorem upS_start {K : Fg} {ts : List Addr} {N : List Str} {n : Nat} {t : WS} {S : Spec} {vs : List V} {H : Hp} {Q : VK} {E : XK} (hN : n ≤ N.length) (h : spV K ts n S vs H Q E) (hS : ∀ ρ Q, S ρ Q → t (endsV n Q) (ρ ++ List.replicate (N.length - n) .un)) :
    upS K (start N vs, ts) t { nx := fun _ H' => Q .non H', rt := Q } (start N vs) H := by
  obtain ⟨hl, ρ, B, R, Sv0, hs, kd, kn⟩ := h
  have start_eq : start N vs = vs.map some ++ List.replicate (N.length - n) none := by rw [← hl]; rfl
  have S1 : Sv K (start N vs, ts) noH (ρ ++ List.replicate (N.length - n) .un) (start N vs) B H := by
    rw [start_eq]
    exact Sv0.begin _
  have asl : n ≤ (start N vs).length := by
    rw [start_eq, List.length_append, List.length_map]
    omega
  have ast : (start N vs).take n = vs.map some := by
    rw [start_eq, List.take_append_of_le_length (by rw [List.length_map]; omega), List.take_of_length_le (by rw [List.length_map]; omega)]
  have bk : ∀ {ρ' : En} {σ' : L2.St} {B' H' : Hp}, Sv K (start N vs, ts) noH ρ' σ' B' H' → ∃ B2, ExT B' B2 ∧ Sv K (vs.map some, ts) noH (retE n ρ') (vs.map some) B2 H' := fun {ρ' σ' B' H'} S' => by
    obtain ⟨B2, e2, S2⟩ := S'.back n asl
    rw [show (start N vs, ts).1.take n = vs.map some from ast] at S2
    exact ⟨B2, e2, S2⟩
  refine ⟨noH, _, B, endsV n R, S1, hS ρ R hs, ⟨fun ρ' σ' B' H' h1 x1 S' => ?_, fun c ρ' σ' v B' H' h1 x1 S' o1 => ?_, fun ds ρ' σ' p xs B' H' h1 x1 S' hp r => ?_, fun _ _ _ _ h1 _ _ => h1.elim, fun _ _ _ _ h1 _ _ => h1.elim⟩⟩
  · obtain ⟨B2, e2, S2⟩ := bk S'
    exact kd .none _ .non B2 H' h1 (x1.trans e2) S2 .non
  · cases c with
    | d y =>
      obtain ⟨B2, e2, S2⟩ := bk S'
      exact kd y _ v B2 H' h1 (x1.trans e2) S2 (Dq.ext e2 o1)
    | loc i =>
      unfold endsV at h1
      dsimp only at h1
      split at h1
      · rename_i ds q
        obtain ⟨p, xs, H0, a1, S2, a2, a3, a4⟩ := S'.pull q
        have e := a1.symm.trans o1
        cases e
        obtain ⟨B2, e2, S3⟩ := bk S2
        rw [a3]
        exact kn ds _ p xs B2 H0 h1 (x1.trans e2) S3 a2 (DqAll.ext e2 a4)
      · exact h1.elim
  · obtain ⟨B2, e2, S2⟩ := bk S'
    exact kn ds _ p xs B2 H' h1 (x1.trans e2) S2 hp (DqAll.ext e2 r)
section
variable {P : Program} {w : World} {K : Fg} {mg : Str → Option Value} {base : Heap}
theorem fnVG {x qual : Str} {st : Stmt} {f : Addr} {fd : FuncData} {cdv : Value} {N ps : List Str} {k n : Nat} {t : WS} {S : Spec} {ts : List Addr} (F : FunC K x qual st f fd cdv) (Sc : FnScope N ps (defScope st)) (hn : ps.length = n) (hN : n ≤ N.length)
    (hbody : ∀ (A : Around) (outer : List PySem.Env) (s : Shared) (H : Hp) (E : XK) (as : List (Option V)), A.guards = some [] → Room k (A.deeper (envOfC qual (defScope st) s.heap.objs.size f cdv)) →
      PSs (cxOf CX0 P w K mg base N qual (defScope st) f cdv A outer s H E).nox (defBody st) (upS K (as, ts) t))
    (hS : ∀ ρ Q, S ρ Q → t (endsV n Q) (ρ ++ List.replicate (N.length - n) .un)) : FnG P w K mg base (k + 1) f fd ps (spV K ts n S) :=
  fnG F Sc (fun vs H Q E h => h.1.trans hn.symm) fun A outer s H vs Q hgd hr h => ⟨_, hbody A outer s H E0 (start N vs) hgd hr, upS_start hN h hS⟩
end
section
variable {X : Cx} {as : As} {k n : Nat} {f : Addr} {fd : FuncData} {ps : List Str} {sp : Sp} {S : Spec} {x : Str} {p pos : Pos} {e : Expr} {es : List Expr} {wn : WN} {r : WA}
theorem run_partG {W : Addr → Prop} {H B : Hp} {pins : List (Addr × Obj)} {σ : L2.St} {s : Shared} {Q : VK} {us : List Value} {vs : List V} (F : FnG X.prog X.w X.K X.mg X.base k f fd ps sp) (hgd : X.A.guards = some []) (hr : Room k X.A) (hb : Binds X.K fd ps []) (I : Inv X pins σ H s) (p : Part W H B) (r : Vals vs us)
    (h : sp vs B (fun v B' => (∀ a, W a → B' a = none) → Q v (ovl W H B')) E0) : wpAny (model X.prog X.w) X.A (call (.ref f) us) (EP X pins σ Q) X.xe s := by
  have hl : (us ++ []).length = ps.length := by
    rw [List.append_nil, ← r.length]
    exact F.len _ _ _ _ h
  have e0 := I.env0
  have nB : ∀ b, H b = none → B b = none := fun b n => by
    cases e : B b with
    | none => rfl
    | some o =>
      rw [p.sub e] at n
      cases n
  have e1 : Env0 X.prog X.w X.K X.mg X.base X.A X.stack s B := ⟨e0.frames, e0.mod, fun b o e => ⟨(e0.bs b o e).1, nB b (e0.bs b o e).2⟩, e0.bsz, e0.funs, fun b hb => nB b (e0.frf b hb), p.ok e0.hok, e0.bare⟩
  have b1 := hb s us I.kIn hl
  rw [List.append_nil] at b1
  refine wpAny_call (codeAny_mono (F.run X.A X.stack s B ⟨us, []⟩ us vs _ hgd hr e1 b1 r h) fun r s' hq => ?_)
  cases r with
  | error e => exact False.elim hq
  | ok fl =>
    cases fl with
    | ret u =>
      obtain ⟨v, B', os, bare, un, hok, rv, q⟩ := hq
      obtain ⟨u1, u2, u3⟩ := p.un un I.hok hok e0.frf
      exact I.after ⟨v, _, os, bare, u1, u2, rv, q u3⟩
    | next => exact False.elim hq
    | brk => exact False.elim hq
    | cont => exact False.elim hq
structure CallG (X : Cx) (ts : List Addr) (k n : Nat) (x : Str) (f : Addr) (fd : FuncData) (ps : List Str) (S : Spec) : Prop where
  fn : FnG X.prog X.w X.K X.mg X.base k f fd ps (spV X.K ts n S)
  g : X.mg x = some (.ref f)
  kp : PySem.W.keepIn X.K (.ref f) = true
  b : Binds X.K fd ps []
/-- f(new list, e, ..) -/
theorem vcallFG (F : CallG X as.2 k n x f fd ps S) (hgd : X.A.guards = some []) (hr : Room k X.A) (hn : PE X e (upN X.K as wn)) (ha : PA X es (upA X.K as r)) (hg : Gl X x := by rfl) (hdb : (x == ("__debug__" : Str)) = false := by decide) (he : starEach (e :: es) X.env = (false, eval e X.env) :: starEach es X.env := by rfl) (hpl : (backTo pos (starEach es X.env)).any (·.1) = false := by rfl) :
    PE X (.Call (.Name x p) (e :: es) [] pos) (up X.K as (wCallF n S wn r)) := by
  refine ⟨fun pins s σ H Q I h => ?_⟩
  refine wpAny_Call_Name_kw (ld_glob I hg F.g ?_ hdb)
  refine PySem.W.callWith_K (h₀ := X.base) I.ok.mod.kin F.kp (thn ((pa_cons hn ha he).run pos pins s σ H _ I (up_callF h)) fun us s1 ⟨vs, H1, I1, r, W, B, p, q⟩ => ⟨I1.kIn, ?_⟩) he hpl
  exact run_partG F.fn hgd hr F.b I1 p r q
theorem vcallF (F : CallOk X as.2 k n x f fd ps S) (hr : Room k X.A) (hn : PE X e (upN X.K as wn)) (ha : PA X es (upA X.K as r)) (hg : Gl X x := by rfl) (hdb : (x == ("__debug__" : Str)) = false := by decide) (he : starEach (e :: es) X.env = (false, eval e X.env) :: starEach es X.env := by rfl) (hpl : (backTo pos (starEach es X.env)).any (·.1) = false := by rfl) :
    PE X (.Call (.Name x p) (e :: es) [] pos) (up X.K as (wCallF n S wn r)) := pe_imp (pe_callP F.fn hr hg F.g F.kp F.b (pa_cons hn ha he) hdb he hpl) fun _ _ _ h => up_callF h
end
/-- what is handed out of a def where no guard is up -/
structure FOkG (P : Program) (w : World) (K : Fg) (ts : List Addr) (mg : Str → Option Value) (base : Heap) (k n : Nat) (x : Str) (f : Addr) (fd : FuncData) (ps : List Str) (S : Spec) : Prop where
  fn : FnG P w K mg base k f fd ps (spV K ts n S)
  g : mg x = some (.ref f)
  kp : PySem.W.keepIn K (.ref f) = true
  b : Binds K fd ps []
end VL

end

/-! #### VXA -/
section
set_option autoImplicit false
set_option maxRecDepth 100000
set_option maxHeartbeats 2000000
/-! the law's call where no guard is up -/
namespace VL
open PySem PySem.Spec PyProof.Rows L2 GxR
theorem law_callG {P : Program} {w : World} {K : Fg} {mg mb : Str → Option Value} {k : Nat} {fa a : Addr} {cs : List (Addr × Addr)} {fd : FuncData} {x : Str} {S : Spec} {s₁ : Shared} {vs : List Value} {ns : List Int}
    (KX : K.In s₁.heap) (hns : s₁.heap.Ns mainGlobals mg) (hb : s₁.heap.Ns builtinsNs mb) (hbb : ∀ x : Str, x ≠ "__name__" → mb x = bootBuiltins x) (hlim : s₁.heap.NoLimit) (hg : s₁.gens = #[])
    (hT : ∀ p ∈ cs, s₁.heap.get? p.2 = some { cls := .none, data := .fields #[] }) (nT : ∀ p ∈ cs, K.lookup p.2 = none) (C : ∀ p ∈ cs, PySem.W.CodeHd s₁.heap p.1 p.2)
    (hbm : ∃ (bm : Addr) (ob : Obj), mg "__builtins__" = some (.ref bm) ∧ bm ≠ builtinsNs ∧ s₁.heap.get? bm = some ob ∧ ob.cls = .type "module" ∧ ob.dict = some builtinsNs ∧ ob.data = .plain)
    (ha : s₁.heap.get? a = some { cls := .type "list", data := .seq vs.toArray }) (hi : IntsAre vs ns) (hl : ns.length ≤ sizeLine) (hr : Room k callerA)
    (F : ∀ base : Heap, K.In base → base.Ns mainGlobals mg → (∀ p ∈ cs, TabB base mg p.1 p.2) → FnG P w K mg base k fa fd [x] (spV K (cs.map (·.2)) 1 S)) (hbind : ∀ (s : Shared) (u : Value), BindsTo s fd ⟨[u], []⟩ [(x, u)])
    (top : S [.dat (.list (ns.map .int))] fun rv _ => rv = .d (.bool true)) :
    codeAny (model P w) callerA (.call (.ref fa) ⟨[.ref a], []⟩) (fun r s' => r = .ok (.ret (.bool true)) ∧ OldK s₁.heap s'.heap ∧ s'.os = s₁.os ∧ AllBare s'.gens) s₁ := by
  have rv := vals_ints hi
  have lenV := hi.length
  have isT : ∀ b ∈ cs.map (·.2), s₁.heap.get? b = some { cls := .none, data := .fields #[] } := by
    intro b hb
    obtain ⟨p, hp, rfl⟩ := List.mem_map.mp hb
    exact hT p hp
  have memT : ∀ p ∈ cs, p.2 ∈ cs.map (·.2) := fun p hp => List.mem_map_of_mem hp
  have notK : ∀ b ∈ cs.map (·.2), K.lookup b = none := by
    intro b hb
    obtain ⟨p, hp, rfl⟩ := List.mem_map.mp hb
    exact nT p hp
  have aT : a ∉ cs.map (·.2) := fun z => by
    have e := congrArg Obj.data (Option.some.inj ((isT a z).symm.trans ha))
    cases e
  -- what is tracked: the tables; the script, if the text does not hold it
  obtain ⟨H, HT, HA, HN⟩ : ∃ H : Hp, (∀ b ∈ cs.map (·.2), H b = some (.tbl #[])) ∧ (H a = if (K.lookup a).isNone then some (.frz { cls := .type "list", data := .seq vs.toArray } (.lst (ns.map V.int))) else none) ∧ ∀ b, b ∉ cs.map (·.2) → b ≠ a → H b = none := by
    refine ⟨fun b => if b ∈ cs.map (·.2) then some (.tbl #[]) else if b = a then (if (K.lookup a).isNone then some (.frz { cls := .type "list", data := .seq vs.toArray } (.lst (ns.map V.int))) else none) else none, fun b hb => if_pos hb, ?_, fun b h1 h2 => ?_⟩
    · exact (if_neg aT).trans (if_pos rfl)
    · exact (if_neg h1).trans (if_neg h2)
  have HK : ∀ b o, K.lookup b = some o → H b = none := by
    intro b o e
    by_cases h1 : b ∈ cs.map (·.2)
    · rw [notK b h1] at e
      cases e
    · by_cases h2 : b = a
      · rw [h2] at e ⊢
        rw [HA, e]
        rfl
      · exact HN b h1 h2
  have Hd : ∀ b o, s₁.heap.get? b = some o → (∀ vs n, o.data ≠ .seq vs n) → o.data ≠ .fields #[] → H b = none := by
    intro b o e d1 d2
    refine HN b (fun h1 => ?_) fun h2 => ?_
    · rw [isT b h1] at e
      cases e
      exact d2 rfl
    · rw [h2, ha] at e
      cases e
      exact d1 _ _ rfl
  have hS : SqL K H a (ns.map V.int) := by
    cases hk : K.lookup a with
    | some o =>
      have e := KX a o hk
      rw [ha] at e
      cases e
      exact .inr ⟨_, vs.toArray, _, hk, rfl, rfl, rfl, by rw [List.size_toArray, lenV]; exact hl, by simpa using rv⟩
    | none =>
      rw [hk] at HA
      exact .inl (.inr ⟨_, HA⟩)
  have hok : HOk P w H s₁.heap := by
    intro b u e
    by_cases h1 : b ∈ cs.map (·.2)
    · rw [HT b h1] at e
      cases e
      exact isT b h1
    · by_cases h2 : b = a
      · rw [h2, HA] at e
        split at e
        · cases e
          rw [h2]
          exact ⟨ha, by rw [List.length_map]; exact hl, vs, _, rv, ha⟩
        · cases e
      · rw [HN b h1 h2] at e
        cases e
  have dictN : ∀ {b o es ep}, s₁.heap.get? b = some o → o.data = .dict es ep → H b = none := fun {b o es ep} e d => Hd b o e (fun vs n z => by rw [d] at z; cases z) fun z => by rw [d] at z; cases z
  have ns_base : ∀ {b : Addr} {m : Str → Option Value}, s₁.heap.Ns b m → (hidT s₁.heap H).Ns b m := by
    rintro b m ⟨o, es, ep, e, d, r⟩
    exact ⟨o, es, ep, hidT_get e (dictN e d), d, r⟩
  have kinB : K.In (hidT s₁.heap H) := fun b o e => hidT_get (KX b o e) (HK b o e)
  have md : L2.Mod K mg (hidT s₁.heap H) := ⟨kinB, ns_base hns, ⟨mb, ns_base hb, hbb⟩, let ⟨mc, h1, h2⟩ := hlim; ⟨mc, ns_base h1, h2⟩⟩
  have tb : ∀ p ∈ cs, TabB (hidT s₁.heap H) mg p.1 p.2 := by
    intro p hp
    have gne : mainGlobals ≠ p.2 := fun z => by
      obtain ⟨o, es, ep, e, hd, _⟩ := hns
      rw [z, hT p hp] at e
      cases e
      cases hd
    refine ⟨?_, ?_, gne⟩
    · obtain ⟨o, us, file, tf, flags, tg, inF, text, tt, e1, r1, r2, r3, rr⟩ := C p hp
      refine ⟨o, us, file, tf, flags, tg, inF, text, tt, hidT_get e1 (Hd _ o e1 (fun vs n z => ?_) fun z => ?_), r1, r2, r3, rr⟩
      · rw [r2] at z
        cases z
      · rw [r2] at z
        cases z
        simp at r3
    · obtain ⟨bm, ob, b1, b2, b3, b4, b5, b6⟩ := hbm
      refine ⟨bm, ob, b1, b2, fun q => ?_, fun q => ?_, hidT_get b3 (Hd _ ob b3 (fun vs n z => by rw [b6] at z; cases z) fun z => by rw [b6] at z; cases z), b4, b5, b6⟩
      · obtain ⟨o, es, ep, e, hd, _⟩ := hns
        rw [q, e] at b3
        cases b3
        rw [hd] at b6
        cases b6
      · rw [q, hT p hp] at b3
        cases b3
        cases b6
  have e0 : Env0 P w K mg (hidT s₁.heap H) callerA [] s₁ H := ⟨rfl, md, fun b o e => of_hidT e, Nat.le_of_eq (hidT_size _ _), trivial, fun b hb => absurd (show b ∈ ([] : List Addr) from hb) (by simp), hok, .of_eq hg⟩
  have sp : spV K (cs.map (·.2)) 1 S [.ref a] H (fun v _ => v = V.bl true) E0 := law_sp HT hS top
  refine codeAny_mono ((F _ kinB (ns_base hns) tb).run callerA [] s₁ H ⟨[.ref a], []⟩ [.ref a] [.ref a] _ rfl hr e0 (hbind s₁ (.ref a)) (.cons rfl .nil) sp) fun r s' hq => ?_
  cases r with
  | error e => exact hq.elim
  | ok fl =>
    cases fl with
    | next => exact False.elim hq
    | brk => exact False.elim hq
    | cont => exact False.elim hq
    | ret u =>
      obtain ⟨v, H', os, bare, un, hok', r', q⟩ := hq
      have q' : v = V.bl true := q
      subst q'
      obtain rfl : u = Value.bool true := r'
      have keep : ∀ b o, b ∉ cs.map (·.2) → s₁.heap.get? b = some o → s'.heap.get? b = some o := by
        intro b o nb e
        by_cases h2 : b = a
        · rw [h2] at e ⊢
          rw [ha] at e
          cases e
          cases hk : (K.lookup a).isNone with
          | true =>
            rw [hk] at HA
            exact (hok' a _ (un.frzs a _ _ HA)).1
          | false =>
            rw [hk] at HA
            exact un.keep a _ ha HA (fun z => absurd (show a ∈ ([] : List Addr) from z) (by simp)) (by simp)
        · exact un.keep b o e (HN b nb h2) (fun z => absurd (show b ∈ ([] : List Addr) from z) (by simp)) (by simp)
      have grown : ∀ p ∈ cs, ∃ more : Array Value, s'.heap.get? p.2 = some { cls := .none, data := .fields more } := fun p hp => by
        obtain ⟨more, z⟩ := un.tbls p.2 #[] (HT _ (memT p hp))
        exact ⟨_, hok' p.2 _ z⟩
      refine ⟨rfl, ⟨fun b o e => ?_, fun b o e => ?_⟩, os, bare⟩
      · by_cases hb : b ∈ cs.map (·.2)
        · obtain ⟨p, hp, rfl⟩ := List.mem_map.mp hb
          obtain ⟨more, hm⟩ := grown p hp
          rw [hT p hp] at e
          cases e
          exact .inr (.inl ⟨((C p hp).tab (hT p hp)).isCodeTable, rfl, #[], more, rfl, by rw [Array.empty_append]; exact hm⟩)
        · exact .inl (keep b o hb e)
      · by_cases hb : b ∈ cs.map (·.2)
        · obtain ⟨p, hp, rfl⟩ := List.mem_map.mp hb
          obtain ⟨more, hm⟩ := grown p hp
          exact ⟨_, hm⟩
        · exact ⟨o, keep b o hb e⟩
theorem walk_ofGG {l : PySem.W.OpenLaw} {n k : Nat} {q : Program} {loose : List Str} {XP : (Str → Option Value) → Heap → Prop} {YP : World → Heap → Prop} {d : DefRec} {K : Params → Fg} {x : Str} {xs : List Str} {S : VL.Spec}
    (hn : l.most = some n) (hn2 : n ≤ sizeLine) (hdf : d.params.defaults = []) (hr : Room k callerA) (hrec : (xs.all fun y => ((recsOf q).find? fun e => e.name == y).isSome) = true) (hY : ∀ (w : World) (h : Heap), YP w h → (K w.params).In h)
    (F : ∀ (w : World) (mg : Str → Option Value) (fa : Addr) (h : Heap), (K w.params).In h → h.Ns mainGlobals mg → mg d.name = some (.ref fa) →
      ∃ (cs : List (Addr × Addr)) (fd : FuncData), (∀ p ∈ cs, (∃ y ∈ xs, PySem.W.tabIn (K w.params) y = some p) ∧ (K w.params).lookup p.2 = none) ∧ (∀ (s : Shared) (u : Value), BindsTo s fd ⟨[u], []⟩ [(x, u)]) ∧
        ∀ base : Heap, (K w.params).In base → base.Ns mainGlobals mg → (∀ p ∈ cs, TabB base mg p.1 p.2) → FnG l.prog w (K w.params) mg base k fa fd [x] (spV (K w.params) (cs.map (·.2)) 1 S))
    (top : ∀ ns : List Int, ns.length ≤ n → S [.dat (.list (ns.map .int))] fun rv _ => rv = .d (.bool true)) :
    PySem.W.WalkO q loose XP YP l.row.toRowW d [] (fun f vs => PySem.call f vs) := by
  refine Att.attach_callB hn hdf fun w s₀ s₁ mg mb fa o pm cd doc a vs ns G Y ho hd hcd hmg hobj hints hlen hbits hg => ?_
  have KX := hY w _ Y
  obtain ⟨cs, fd, hcs, hb, hF⟩ := F w mg fa _ KX G.T.g hmg
  have tb : ∀ p ∈ cs, PySem.W.CodeHd s₁.heap p.1 p.2 ∧ s₁.heap.get? p.2 = some { cls := .none, data := .fields #[] } := fun p hp => by
    obtain ⟨⟨y, hy, ht⟩, _⟩ := hcs p hp
    obtain ⟨dd, hdd⟩ := Option.isSome_iff_exists.mp (List.all_eq_true.mp hrec y hy)
    exact PySem.W.tab_of G.T KX hdd ht
  exact law_callG KX G.T.g G.T.b G.T.builtins G.T.nolimit hg (fun p hp => (tb p hp).2) (fun p hp => (hcs p hp).2) (fun p hp => (tb p hp).1) G.T.bmain hobj hints (Nat.le_trans hlen hn2) hr hF hb (top ns hlen)
end VL

end

/-! #### VXB -/
section
set_option autoImplicit false
set_option maxRecDepth 100000
set_option maxHeartbeats 2000000
set_option exponentiation.threshold 50000
/-! math.lcm of wide numbers -/
namespace VL
open PySem PySem.Spec PyProof.Rows L2
def rLcmW : List V → Hp → VK → Prop := fun vs H Q => ∃ a b : Int, vs = [.int a, .int b] ∧ a.natAbs < 2 ^ 6000 ∧ b.natAbs < 2 ^ 6000 ∧ Q (.int ((Int.lcm a b : Nat) : Int)) H
theorem lcm_le {a b : Int} : Int.lcm a b ≤ a.natAbs * b.natAbs := by
  have := Nat.gcd_mul_lcm a.natAbs b.natAbs
  by_cases z : Nat.gcd a.natAbs b.natAbs = 0
  · have z1 := Nat.eq_zero_of_gcd_eq_zero_left z
    show Nat.lcm a.natAbs b.natAbs ≤ _
    rw [z1, Nat.lcm_zero_left]
    exact Nat.zero_le _
  · show Nat.lcm a.natAbs b.natAbs ≤ _
    rw [← this]
    exact Nat.le_mul_of_pos_left _ (Nat.pos_of_ne_zero z)
theorem cr_lcmW {X : Cx} : CallR X (.builtin "math.lcm") rLcmW := by
  intro pins s σ H vs us Q I r h
  obtain ⟨a, b, rfl, ha, hb, q⟩ := h
  obtain ⟨t, u, rfl⟩ := Vals.int2 r
  have e : (((Nat.lcm 1 a.natAbs).lcm b.natAbs : Nat) : Int) = ((Int.lcm a b : Nat) : Int) := by
    rw [Nat.lcm_one_left]
    rfl
  have p1 : (1 : Nat) < 2 ^ 6000 := Nat.one_lt_two_pow (by decide)
  have h1 : (max 1 a.natAbs).log2 ≤ 5999 := PySem.W.mg_log (Nat.max_lt.mpr ⟨p1, ha⟩)
  have h2 : (max a.natAbs b.natAbs).log2 ≤ 5999 := PySem.W.mg_log (Nat.max_lt.mpr ⟨ha, hb⟩)
  have hsz : (((Nat.lcm 1 a.natAbs).lcm b.natAbs : Nat) : Int).natAbs.log2 < bitsLine := by
    rw [e, Int.natAbs_natCast]
    by_cases z : Int.lcm a b = 0
    · rw [z]
      decide
    · have m : a.natAbs * b.natAbs < 2 ^ 6000 * 2 ^ 6000 := Nat.mul_lt_mul'' ha hb
      rw [← Nat.pow_add] at m
      have : (Int.lcm a b).log2 < 12000 := (Nat.log2_lt z).mpr (Nat.lt_of_le_of_lt lcm_le m)
      exact Nat.lt_of_lt_of_le this (by decide)
  refine call_function_meets PySem.W.MGF.kind_lcm PySem.W.MGF.plain_lcm PySem.W.MGF.entry_lcm (PySem.W.MGF.args_lcm _ _) (PySem.W.mg_run_lcm a t b u (by omega) (by omega) hsz).meets ?_
  rw [e]
  exact ⟨.int _, H, I.tok _, ⟨_, rfl⟩, q⟩
def oLcmW : DC := fun ds P => match ds with
  | [.int i, .int j] => i.natAbs < 2 ^ 6000 ∧ j.natAbs < 2 ^ 6000 ∧ P (.int ((Int.lcm i j : Nat) : Int))
  | _ => False
theorem cv_lcmW {K : Fg} : CallV K rLcmW oLcmW := by
  intro B H vs ds P Q e a c k
  unfold oLcmW at c
  split at c
  · obtain ⟨v, u, rfl, b1, b2⟩ := a.two
    cases b1.int
    cases b2.int
    exact ⟨_, _, rfl, c.1, c.2.1, k _ _ _ _ c.2.2 .no (.int _)⟩
  · exact c.elim
end VL

end

/-! #### VXC -/
section
set_option autoImplicit false
set_option maxRecDepth 100000
set_option maxHeartbeats 2000000
/-! xs == [], xs != [], xs == (), xs != (), whatever xs holds -/
namespace VL
open PySem PySem.Spec PyProof.Rows L2
def rEmp (K : Fg) (neg : Bool) : R2 := fun x y H Q => ∃ l b xs, x = .ref l ∧ y = .ref b ∧ ((SqL K H l xs ∧ SqL K H b []) ∨ (SqT K H l xs ∧ SqT K H b [])) ∧ Q (.bl (if neg then !xs.isEmpty else xs.isEmpty)) H
section
variable {X : Cx}
open PySem.SeqAt
theorem emp_seq {pins : List (Addr × Obj)} {σ : L2.St} {H : Hp} {s : Shared} {l b : Addr} {xs : List V} (I : Inv X pins σ H s) (h : (SqL X.K H l xs ∧ SqL X.K H b []) ∨ (SqT X.K H l xs ∧ SqT X.K H b [])) :
    ∃ its : List Value, Vals xs its ∧ ((s.heap.IsList l its.toArray ∧ s.heap.IsList b #[]) ∨ (s.heap.IsTuple l its.toArray ∧ s.heap.IsTuple b #[])) := by
  rcases h with ⟨h1, h2⟩ | ⟨h1, h2⟩
  · obtain ⟨its, n, sl, r, hl, e, _⟩ := rd_obj I h1
    obtain ⟨its2, n2, sl2, r2, hl2, e2, _⟩ := rd_obj I h2
    cases r2
    exact ⟨its, r, .inl ⟨⟨_, e, rfl, _, rfl⟩, ⟨_, e2, rfl, _, rfl⟩⟩⟩
  · obtain ⟨its, r, o, _⟩ := I.tuple h1
    obtain ⟨its2, r2, o2, _⟩ := I.tuple h2
    cases r2
    obtain ⟨o, e, c, n, d⟩ := o
    obtain ⟨o2, e2, c2, n2, d2⟩ := o2
    exact ⟨its, r, .inr ⟨⟨_, e, c, _, d⟩, ⟨_, e2, c2, _, d2⟩⟩⟩
theorem op_eqE (hu : X.A.units + 64 < cLine) : OpR X (compareOp .Eq) (rEmp X.K false) := by
  intro pins s σ H x y v u Q I rx ry h
  obtain ⟨l, b, xs, rfl, rfl, hH, q⟩ := h
  cases rx
  cases ry
  obtain ⟨its, r, k⟩ := emp_seq I hH
  have hu' : X.A.units < cLine := by omega
  have fin : Q (.bl xs.isEmpty) H → EP X pins σ Q (.bool its.toArray.isEmpty) s := fun q => ⟨_, H, I, by cases r <;> rfl, q⟩
  rcases k with ⟨k1, k2⟩ | ⟨k1, k2⟩
  · by_cases z : its = []
    · subst z
      refine RcAt.lists k1 k2 rfl hu' (e := fun _ => true) (fun j h1 => absurd h1 (Nat.not_lt_zero _)) _ _ _ _ (fin q)
    · refine RcAt.lists_lengths k1 k2 (by cases its <;> first | exact absurd rfl z | rfl) hu' _ _ _ _ ?_
      have := fin q
      cases its
      · exact absurd rfl z
      · exact this
  · refine RcAt.tuples k1 k2 hu' (e := fun _ => true) (fun j _ h1 => absurd h1 (Nat.not_lt_zero _)) _ _ _ _ ?_
    have := fin q
    cases its
    · exact this
    · exact this
theorem op_neE (hu : X.A.units + 64 < cLine) : OpR X (compareOp .NotEq) (rEmp X.K true) := by
  intro pins s σ H x y v u Q I rx ry h
  obtain ⟨l, b, xs, rfl, rfl, hH, q⟩ := h
  cases rx
  cases ry
  obtain ⟨its, r, k⟩ := emp_seq I hH
  have hu' : X.A.units < cLine := by omega
  have fin : Q (.bl (!xs.isEmpty)) H → EP X pins σ Q (.bool (!its.toArray.isEmpty)) s := fun q => ⟨_, H, I, by cases r <;> rfl, q⟩
  rcases k with ⟨k1, k2⟩ | ⟨k1, k2⟩
  · by_cases z : its = []
    · subst z
      refine RcNeAt.lists k1 k2 rfl hu' (e := fun _ => true) (fun j h1 => absurd h1 (Nat.not_lt_zero _)) _ _ _ _ (fin q)
    · refine RcNeAt.lists_lengths k1 k2 (by cases its <;> first | exact absurd rfl z | rfl) hu' _ _ _ _ ?_
      have := fin q
      cases its
      · exact absurd rfl z
      · exact this
  · refine RcNeAt.tuples k1 k2 hu' (e := fun _ => true) (fun j _ h1 => absurd h1 (Nat.not_lt_zero _)) _ _ _ _ ?_
    have := fin q
    cases its
    · exact this
    · exact this
end
def oEmp (neg : Bool) : DO := fun x y P => match x, y with
  | .list ds, .list [] => P (.bool (if neg then !ds.isEmpty else ds.isEmpty))
  | .tuple ds, .tuple [] => P (.bool (if neg then !ds.isEmpty else ds.isEmpty))
  | _, _ => False
theorem opv_emp {K : Fg} {neg : Bool} : OpV K (rEmp K neg) (oEmp neg) := by
  intro B H x y dx dy P Q e a b c k
  unfold oEmp at c
  split at c
  · rename_i ds
    obtain ⟨l, xs, rfl, q1, r1⟩ := a.list e
    obtain ⟨m, ys, rfl, q2, r2⟩ := b.list e
    cases r2
    refine ⟨l, m, xs, rfl, rfl, .inl ⟨q1, q2⟩, ?_⟩
    have : xs.isEmpty = ds.isEmpty := by cases r1 <;> rfl
    rw [this]
    exact k _ _ _ _ c .no (.bl _)
  · rename_i ds
    obtain ⟨l, xs, rfl, q1, r1⟩ := a.tup e
    obtain ⟨m, ys, rfl, q2, r2⟩ := b.tup e
    cases r2
    refine ⟨l, m, xs, rfl, rfl, .inr ⟨q1, q2⟩, ?_⟩
    have : xs.isEmpty = ds.isEmpty := by cases r1 <;> rfl
    rw [this]
    exact k _ _ _ _ c .no (.bl _)
  · exact c.elim
end VL

end

/-! #### VXD -/
section
set_option autoImplicit false
set_option maxRecDepth 100000
set_option maxHeartbeats 2000000
/-! sum of a list or a tuple of ints -/
namespace VL
open PySem PySem.Spec PyProof.Rows L2
def rSumA (K : Fg) : List V → Hp → VK → Prop := fun vs H Q => ∃ (a : Addr) (ns : List Int), vs = [V.ref a] ∧ (SqL K H a (ns.map V.int) ∨ SqT K H a (ns.map V.int)) ∧ Q (.int ns.sum) H
theorem cr_sumA {X : Cx} (hc : X.calm = true) : CallR X (.builtin "sum") (rSumA X.K) := by
  intro pins s σ H vs us Q I r h
  obtain ⟨a, ns, rfl, hs | hs, q⟩ := h
  · exact cr_sum hc pins s σ H _ us Q I r ⟨a, ns, rfl, hs, q⟩
  · obtain ⟨its, rv, hl, _⟩ := I.tuple hs
    rw [Vals.ref1 r]
    have hi := rv.ints
    obtain ⟨xs, hx⟩ := hi.allInts.items
    have hn : numsOf its.toArray.toList = ns := by
      rw [show its.toArray.toList = its from rfl, hi.numsOf]
    obtain ⟨o, e, c, n, d⟩ := hl
    have ht : s.heap.IsTuple a its.toArray := ⟨o, e, c, n, d⟩
    rw [hx] at ht hn
    rw [nums_intItems] at hn
    refine PySem.W.ktm_sumG (I.ok.hd hc) ht fun h' tk t' hk => ?_
    refine ⟨.int _, H, I.kept hk, ⟨_, rfl⟩, ?_⟩
    rw [preSum_eq, List.take_of_length_le (by simp), hn]
    exact q
def oSumA : DC := fun ds P => match ds with
  | [.list xs] => ∃ ns, intsOf xs = some ns ∧ P (.int ns.sum)
  | [.tuple xs] => ∃ ns, intsOf xs = some ns ∧ P (.int ns.sum)
  | _ => False
theorem cv_sumA {K : Fg} : CallV K (rSumA K) oSumA := by
  intro B H vs ds P Q e a c k
  unfold oSumA at c
  split at c
  · obtain ⟨v, rfl, b⟩ := a.one
    obtain ⟨ns, e1, c⟩ := c
    have e2 := intsOf_map e1
    subst e2
    obtain ⟨l, xs, rfl, h1, r1⟩ := b.list e
    rw [r1.ints] at h1
    exact ⟨l, ns, rfl, .inl h1, k _ _ _ _ c .no (.int _)⟩
  · obtain ⟨v, rfl, b⟩ := a.one
    obtain ⟨ns, e1, c⟩ := c
    have e2 := intsOf_map e1
    subst e2
    obtain ⟨l, xs, rfl, h1, r1⟩ := b.tup e
    rw [r1.ints] at h1
    exact ⟨l, ns, rfl, .inr h1, k _ _ _ _ c .no (.int _)⟩
  · exact c.elim
end VL

end

/-! #### VXE -/
section
set_option autoImplicit false
set_option maxRecDepth 100000
set_option maxHeartbeats 2000000
/-! texts compared, whatever they hold -/
namespace VL
open PySem PySem.Spec PyProof.Rows L2
def rStrs (neg : Bool) : R2 := fun x y H Q => ∃ a b : Str, x = .str a ∧ y = .str b ∧ Q (.bl (if neg then !(a == b) else a == b)) H
section
variable {X : Cx}
open PySem.SeqAt
theorem op_eqS : OpR X (compareOp .Eq) (rStrs false) := by
  intro pins s σ H x y v u Q I rx ry h
  obtain ⟨a, b, rfl, rfl, q⟩ := h
  obtain ⟨t, rfl⟩ := rx
  obtain ⟨t2, rfl⟩ := ry
  exact RcAt.str_str a t b t2 _ _ _ _ ⟨.bl _, H, I, rfl, q⟩
theorem op_neS : OpR X (compareOp .NotEq) (rStrs true) := by
  intro pins s σ H x y v u Q I rx ry h
  obtain ⟨a, b, rfl, rfl, q⟩ := h
  obtain ⟨t, rfl⟩ := rx
  obtain ⟨t2, rfl⟩ := ry
  exact RcNeAt.str_str a t b t2 _ _ _ _ ⟨.bl _, H, I, rfl, q⟩
end
def oStrs (neg : Bool) : DO := fun x y P => match x, y with
  | .str a, .str b => P (.bool (if neg then !(a == b) else a == b))
  | _, _ => False
theorem opv_strs {K : Fg} {neg : Bool} : OpV K (rStrs neg) (oStrs neg) := by
  intro B H x y dx dy P Q e a b c k
  unfold oStrs at c
  split at c
  · cases a.str
    cases b.str
    exact ⟨_, _, rfl, rfl, k _ _ _ _ c .no (.bl _)⟩
  · exact c.elim
end VL

end

/-! #### VXF -/
section
set_option autoImplicit false
set_option maxRecDepth 100000
set_option maxHeartbeats 2000000
/-! t[::-1] of a tuple -/
namespace VL
open PySem PySem.Spec PyProof.Rows L2 HT PySem.W
section
variable {prog : Program} {w : World} {A : Around} {E : Value → Shared → Prop} {s : Shared}
theorem rev_applied {sl : Addr} {t : Tok} {n : Nat} {Q : Int × Int × Nat → Shared → Prop} (hs : s.heap.IsSliceOf sl .none .none (.int (-1) t))
    (h : Q ((n : Int) - 1, -1, n) s) : wpAny (model prog w) A (Builtin.Slice.sliceApplied (.ref sl) (pure (n : Int))) Q E s := by
  obtain ⟨os, hos, hcs, hds⟩ := id hs
  unfold Builtin.Slice.sliceApplied Builtin.Slice.sliceFields
  refine wpAny_bind (wpAny_bind (wpAny_field hos hds (x := .none) rfl (wpAny_bind (wpAny_field hos hds (x := .none) rfl (wpAny_bind (wpAny_field hos hds (x := .int (-1) t) rfl (wpAny_pure ?_)))))))
  refine wpAny_bind (slicePart_ (.int (-1) t) ?_)
  show wpAny _ _ (if ((-1 : Int) == 0) = true then _ else _) _ _ s
  rw [if_neg (by decide)]
  refine wpAny_bind (slicePart_ .none (wpAny_bind (slicePart_ .none (wpAny_bind (wpAny_pure ?_)))))
  have e : Builtin.Slice.slicePlaces ((n : Int) - 1) (-1) (-1) = n := by
    unfold Builtin.Slice.slicePlaces
    rw [if_neg (by decide)]
    by_cases z : n = 0
    · subst z
      rfl
    · rw [if_pos (by omega)]
      rw [show (-(-1) : Int) = 1 by decide, Int.ediv_one]
      omega
  show wpAny _ _ (pure ((n : Int) - 1, (-1 : Int), Builtin.Slice.slicePlaces ((n : Int) - 1) (-1) (-1))) _ _ s
  rw [e]
  exact wpAny_pure h
theorem fm_congr {α β : Type} {f g : α → Option β} : ∀ {l : List α}, (∀ x ∈ l, f x = g x) → l.filterMap f = l.filterMap g
  | [], _ => rfl
  | x :: r, h => by
    rw [List.filterMap_cons, List.filterMap_cons, h x (List.mem_cons_self ..), fm_congr fun y hy => h y (List.mem_cons_of_mem _ hy)]
theorem pick_rev (xs : Array Value) : ((List.range xs.size).filterMap fun (m : Nat) => xs[(((xs.size : Int) - 1) + (m : Int) * (-1)).toNat]?).toArray = xs.toList.reverse.toArray := by
  have e : (List.range xs.size).filterMap (fun (m : Nat) => xs[(((xs.size : Int) - 1) + (m : Int) * (-1)).toNat]?) = ((List.range xs.size).map fun k => xs.size - 1 - k).filterMap (xs[·]?) := by
    rw [List.filterMap_map]
    refine fm_congr fun k hk => ?_
    have := List.mem_range.mp hk
    show xs[_]? = xs[_]?
    rw [show (((xs.size : Int) - 1) + (k : Int) * (-1)).toNat = xs.size - 1 - k by omega]
  rw [e, krv_range, List.filterMap_reverse, krv_all]
theorem getItem_tuple_rev {t sl : Addr} {items : Array Value} {u : Tok} {Q : Value → Shared → Prop} (ht : IsTup s.heap t items) (hs : s.heap.IsSliceOf sl .none .none (.int (-1) u))
    (h : Q (.ref s.heap.objs.size) { s with heap := s.heap.push { cls := .type "tuple", data := .seq items.toList.reverse.toArray } })
    (hsz : items.size ≤ sizeLine) : wpAny (model prog w) A (getItem (.ref t) (.ref sl)) Q E s := by
  have htake : sizeOk (.seq items.toList.reverse.toArray) := by
    show items.toList.reverse.toArray.size ≤ sizeLine
    rw [List.size_toArray, List.length_reverse, Array.length_toList]
    omega
  obtain ⟨os, hos, hcs, hds⟩ := id hs
  have hTs : s.TypeIs (.ref sl) "slice" := ⟨os, hos, hcs⟩
  unfold getItem
  try with_reducible refine wpAny_holding ?_
  first | refine wpAny_bind (wpAny_pure ?_) | skip
  refine wpAny_bind (wpAny_sequenceKey ht.typeIs (by decide) ?_)
  refine wpAny_bind (wpAny_callSpecial?_slot (name := Str.ofString "__getitem__") ht.typeIs PyProof.Rows.slot_tuple_getitem
    (wpAny_call_entry PyProof.Rows.slot_tuple_getitem ht.typeIs entry_tuple_getitem ?_ (args_tuple_getitem _ _)))
  show wpAny _ _ (Builtin.Tuple.tupleItemsOf (.ref t) >>= _) _ _ s
  refine wpAny_bind (tupleItemsOf_ ht ?_)
  refine wpAny_bind (wpAny_typeOf hTs ?_)
  rw [if_pos (by decide)]
  refine wpAny_bind (rev_applied hs ?_)
  have hno : ¬ ((((items.size : Int) - 1) == 0 && (-1 : Int) == 1 && items.size == items.size) = true) := by
    intro q
    rw [Bool.and_eq_true, Bool.and_eq_true] at q
    exact absurd q.1.2 (by decide)
  show wpAny _ _ (if (((items.size : Int) - 1) == 0 && (-1 : Int) == 1 && items.size == items.size) = true then _ else _) _ _ s
  rw [if_neg hno, pick_rev]
  first
    | exact wpAny_bind (m := Builtin.Tuple.tupleExact _) (wpAny_newObj_type (wpAny_pure ⟨_, rfl, wpAny_pure h⟩) htake)
    | exact wpAny_bind (m := Builtin.Tuple.tupleExact _) (wpAny_newObj_type (wpAny_bind (wpAny_pure (wpAny_pure ⟨_, rfl, wpAny_pure h⟩))) htake)
    | exact wpAny_bind (wpAny_bind (m := Builtin.Tuple.tupleExact _) (wpAny_newObj_type (wpAny_pure (wpAny_pure ⟨_, rfl, wpAny_pure h⟩)) htake))
    | exact wpAny_bind (wpAny_bind (m := Builtin.Tuple.tupleExact _) (wpAny_newObj_type (wpAny_pure ⟨_, rfl, wpAny_pure h⟩) htake))
end
def tRevT (K : PySem.W.Frag) (te : TE) : TE := fun σ H Q => te σ H fun x H1 => ∃ a xs, x = .ref a ∧ SqT K H1 a xs ∧ ∀ p, H1 p = none → Q (.ref p) (upd H1 p (.tup xs.reverse))
section
variable {X : Cx} {e : Expr}
theorem pe_revT {te : TE} {k : Nat} {p1 p2 p3 pos : Pos} (he : PE X e te) : PE X (.Subscript e (.Slice none none (some (.UnaryOp .USub (.Constant (.int 1) k p1) p2)) p3) pos) (tRevT X.K te) := by
  refine ⟨fun pins s σ H Q I h => ?_⟩
  refine Subscript_ (thn (he.run pins s σ H _ I h) fun v s1 ⟨x, H1, I1, r1, q1⟩ => ?_)
  obtain ⟨a, xs, ex, hx, q⟩ := q1
  subst ex
  cases r1
  have hst : PO X (some (.UnaryOp .USub (.Constant (.int 1) k p1) p2)) (tPart (tUn (rU fun i => .int (-i)) (tC (.int 1)))) := po_some (pe_un un_neg pe_int)
  refine wpAny_Slice (thn (po_none.run pins s1 σ H1 (fun o H2 => o = none ∧ H2 = H1) I1 ⟨rfl, rfl⟩) fun vl s2 ⟨l, H2, I2, pl, el, e2⟩ => ?_)
  subst el e2
  refine thn (po_none.run pins s2 σ H2 (fun o H3 => o = none ∧ H3 = H2) I2 ⟨rfl, rfl⟩) fun vu s3 ⟨u, H3, I3, pu, eu, e3⟩ => ?_
  subst eu e3
  refine thn (hst.run pins s3 σ H3 (fun o H4 => o = some (-1) ∧ H4 = H3) I3 ⟨1, rfl, -1, rfl, rfl, rfl⟩) fun vs s4 ⟨o, H4, I4, ps, eo, e4⟩ => ?_
  subst eo e4
  cases pl
  cases pu
  obtain ⟨tk, rfl⟩ : ∃ t, vs = Value.int (-1) t := by
    cases ps
    exact ⟨_, rfl⟩
  have I5 : L2.Inv X pins σ H4 { s4 with heap := s4.heap.push { cls := .type "slice", data := .fields #[.none, .none, .int (-1) tk] } } := I4.kept (t' := s4.toks) fun b ob q => Heap.get?_push_of_some _ q
  obtain ⟨its, r, ht, hz⟩ := I5.tuple hx
  have hlen := r.length
  show wpAny (model X.prog X.w) X.A (subscriptTail e (.Slice none none (some (.UnaryOp .USub (.Constant (.int 1) k p1) p2)) p3) (.ref a) (.ref s4.heap.objs.size)) (EP X pins σ Q) X.xe { s4 with heap := s4.heap.push { cls := .type "slice", data := .fields #[.none, .none, .int (-1) tk] } }
  refine tail_any (ops := [.ref a, .ref s4.heap.objs.size]) ht.typeIs (PyProof.Rows.slot_tuple_getitem.lookup) ?_ (by with_unfolding_all rfl)
  refine getItem_tuple_rev ht (Heap.IsSliceOf.new _ .none .none (.int (-1) tk)) ?_ (by rw [List.size_toArray]; omega)
  refine ⟨.ref _, _, I5.laid (t' := s4.toks) (o := .tup xs.reverse) (fun b ob q => Heap.get?_push_of_some _ q) (Nat.le_refl _) ?_, rfl, q _ (I5.hok.fresh (Nat.le_refl _))⟩
  exact ⟨by rw [List.length_reverse]; exact hz, _, r.reverse, ⟨_, Heap.get?_push_size _ rfl, rfl, 0, rfl⟩⟩
end
/-- t[::-1] -/
def wRevT (t : WE) : WE := fun ρ P => t ρ fun c ρ1 => match der ρ1 c with
  | some (.tuple ds) => P (.d (.tuple ds.reverse)) ρ1
  | _ => False
theorem vrevT {X : Cx} {as : As} {t : WE} {e : Expr} {pos : Pos} {k : Nat} {p1 p2 p3 : Pos} (ha : PE X e (up X.K as t)) : PE X (.Subscript e (.Slice none none (some (.UnaryOp .USub (.Constant (.int 1) k p1) p2)) p3) pos) (up X.K as (wRevT t)) := by
  refine pe_imp (pe_revT ha) fun σ H Q ⟨Z, ρ, B, P, S, h, k⟩ => ⟨Z, ρ, B, _, S, h, fun c ρ1 v B1 H1 h1 x1 S1 o1 => ?_⟩
  split at h1
  · rename_i ds q
    obtain ⟨l', xs, rfl, t1, r1⟩ := (rv_of S1 o1 q).tup S1.subE
    exact ⟨l', xs, rfl, t1, fun p hp => k _ _ _ _ _ h1 (x1.trans (.new (S1.free hp))) (S1.al hp) (.tup (.inl (.inl upd_same)) (DqAll.ext (.new (S1.free hp)) r1.rev))⟩
  · exact h1.elim
end VL

end

/-! #### VXG -/
section
set_option autoImplicit false
set_option maxRecDepth 100000
set_option maxHeartbeats 2000000
/-! zip of two tuples or two lists -/
namespace VL
open PySem PySem.Spec PyProof.Rows L2
def zipD (xs ys : List D) : List D := (xs.zip ys).map fun p => .tuple [p.1, p.2]
theorem zip_len (xs ys : List D) : (zipD xs ys).length = min xs.length ys.length := by simp [zipD]
theorem zip_get {xs ys : List D} {i : Nat} {x y : D} (h : xs[i]? = some x) (k : ys[i]? = some y) : (zipD xs ys)[i]? = some (.tuple [x, y]) := by
  unfold zipD
  have e : (xs.zip ys)[i]? = some (x, y) := List.getElem?_zip_eq_some.mpr ⟨h, k⟩
  rw [List.getElem?_map, e]
  rfl
theorem wk_zipL {K : Fg} {B : Hp} {a b : Addr} {xs ys : List V} {ds es : List D} (h1 : SqL K B a xs) (r1 : DqAll K B xs ds) (h2 : SqL K B b ys) (r2 : DqAll K B ys es) : Wk K (Itz K a b) B (zipD ds es) where
  go := fun i B1 H x s l => by
    rw [zip_len] at l
    obtain ⟨v, q1, _⟩ := r1.get (List.getElem?_eq_getElem (show i < ds.length by omega))
    obtain ⟨u, q2, _⟩ := r2.get (List.getElem?_eq_getElem (show i < es.length by omega))
    exact ⟨xs, ys, v, u, sqL_ext (.of s) (sqL_ext x h1), sqL_ext (.of s) (sqL_ext x h2), q1, q2⟩
  stop := fun i B1 H x s l => by
    rw [zip_len] at l
    have l1 := r1.len
    have l2 := r2.len
    exact ⟨xs, ys, sqL_ext (.of s) (sqL_ext x h1), sqL_ext (.of s) (sqL_ext x h2), by omega⟩
  yld := fun i B1 H v H' x s l y => by
    obtain ⟨T, v1, v2, rfl, hT, rfl, f1, f2⟩ := y
    obtain ⟨d1, g1, k1⟩ := r1.getV (f1 xs (sqL_ext (.of s) (sqL_ext x h1)))
    obtain ⟨d2, g2, k2⟩ := r2.getV (f2 ys (sqL_ext (.of s) (sqL_ext x h2)))
    have xe : ExT B (upd B1 T (.tup [v1, v2])) := x.trans (.new (free_of s hT))
    exact ⟨_, _, zip_get g1 g2, .new hT, .tup (.inl (.inl upd_same)) (.cons (Dq.ext xe k1) (.cons (Dq.ext xe k2) .nil))⟩
theorem wk_zipT {K : Fg} {B : Hp} {a b : Addr} {xs ys : List V} {ds es : List D} (h1 : SqT K B a xs) (r1 : DqAll K B xs ds) (h2 : SqT K B b ys) (r2 : DqAll K B ys es) : Wk K (RZ.ItzT K a b) B (zipD ds es) where
  go := fun i B1 H x s l => by
    rw [zip_len] at l
    obtain ⟨v, q1, _⟩ := r1.get (List.getElem?_eq_getElem (show i < ds.length by omega))
    obtain ⟨u, q2, _⟩ := r2.get (List.getElem?_eq_getElem (show i < es.length by omega))
    exact ⟨xs, ys, v, u, sqT_ext (.of s) (sqT_ext x h1), sqT_ext (.of s) (sqT_ext x h2), q1, q2⟩
  stop := fun i B1 H x s l => by
    rw [zip_len] at l
    have l1 := r1.len
    have l2 := r2.len
    exact ⟨xs, ys, sqT_ext (.of s) (sqT_ext x h1), sqT_ext (.of s) (sqT_ext x h2), by omega⟩
  yld := fun i B1 H v H' x s l y => by
    obtain ⟨T, v1, v2, rfl, hT, rfl, f1, f2⟩ := y
    obtain ⟨d1, g1, k1⟩ := r1.getV (f1 xs (sqT_ext (.of s) (sqT_ext x h1)))
    obtain ⟨d2, g2, k2⟩ := r2.getV (f2 ys (sqT_ext (.of s) (sqT_ext x h2)))
    have xe : ExT B (upd B1 T (.tup [v1, v2])) := x.trans (.new (free_of s hT))
    exact ⟨_, _, zip_get g1 g2, .new hT, .tup (.inl (.inl upd_same)) (.cons (Dq.ext xe k1) (.cons (Dq.ext xe k2) .nil))⟩
/-- zip(a, b) -/
def wZip (r : WA) : WN := fun ρ P => r ρ fun cs ρ' => match cs with
  | [.d (.list ds), .d (.list es)] => P (zipD ds es) ρ'
  | [.d (.tuple ds), .d (.tuple es)] => P (zipD ds es) ρ'
  | _ => False
section
variable {X : Cx} {as : As} {a b : Expr} {pos : Pos}
theorem izip {r : WA} {p tpos : Pos} {elts : List Expr} {kk : Nat} (hm : X.mg "zip" = none) (ha : PA X [a, b] (upA X.K as r)) (hg : Gl X "zip" := by rfl) (hs : starEach [a, b] X.env = (false, eval a X.env) :: starEach [b] X.env := by rfl) (hpl : (backTo pos (starEach [b] X.env)).any (·.1) = false := by rfl) : PI X (.Tuple elts kk tpos) (.Call (.Name "zip" p) [a, b] [] pos) (upI X.K as (wZip r)) := by
  refine pi_imp (RZ.pi_zipA hg hm ha hs hpl) fun σ H R ⟨Z, ρ, B, P, S, h, k⟩ => ⟨Z, ρ, B, _, S, h, fun cs ρ' vs B' H' h1 x S' o1 => ?_⟩
  split at h1
  · obtain ⟨v, v', rfl, o2, o3⟩ := cvs_two o1
    cases o2 with
    | lst p1 r1 => cases o3 with
      | lst p2 r2 => exact ⟨_, _, _, _, rfl, .inl ⟨sqL_ext S'.ext p1, sqL_ext S'.ext p2, k _ _ B' H' _ h1 x S' (wk_zipL p1 r1 p2 r2)⟩⟩
  · obtain ⟨v, v', rfl, o2, o3⟩ := cvs_two o1
    cases o2 with
    | tup p1 r1 => cases o3 with
      | tup p2 r2 => exact ⟨_, _, _, _, rfl, .inr ⟨sqT_ext S'.ext p1, sqT_ext S'.ext p2, k _ _ B' H' _ h1 x S' (wk_zipT p1 r1 p2 r2)⟩⟩
  · exact h1.elim
end
/-! ### a starred part of a display -/
def wStar (t : WE) (r : WA) : WA := fun ρ P => t ρ fun c ρ1 => match der ρ1 c with
  | some (.list ds) => r ρ1 fun cs ρ2 => P (ds.map .d ++ cs) ρ2
  | some (.tuple ds) => r ρ1 fun cs ρ2 => P (ds.map .d ++ cs) ρ2
  | _ => False
theorem cvs_app {K : Fg} {σ : L2.St} {B : Hp} {vs : List V} {cs : List CV} (o : CvsOk K σ B vs cs) : ∀ {xs : List V} {ds : List D}, DqAll K B xs ds → CvsOk K σ B (xs ++ vs) (ds.map .d ++ cs)
  | _, _, .nil => o
  | _, _, .cons a r => ⟨a, cvs_app o r⟩
section
variable {X : Cx} {as : As} {e : Expr} {es : List Expr} {p : Pos}
theorem astar {t : WE} {r : WA} (ha : PE X e (up X.K as t)) (hr : PA X es (upA X.K as r)) (hs : starEach (.Starred e p :: es) X.env = (true, eval e X.env) :: starEach es X.env := by rfl) : PA X (.Starred e p :: es) (upA X.K as (wStar t r)) := by
  refine pa_imp (StX.pa_star ha hr hs) fun σ H Q ⟨Z, ρ, B, P, S, h, k⟩ => ⟨Z, ρ, B, _, S, h, fun c ρ1 v B1 H1 h1 x1 S1 o1 => ?_⟩
  split at h1
  · rename_i ds q
    obtain ⟨l, xs, rfl, t1, r1⟩ := (rv_of S1 o1 q).list S1.subE
    exact ⟨l, xs, rfl, .inr t1, Z, ρ1, B1, _, S1, h1, fun cs ρ2 vs B2 H2 h2 x2 S2 o2 => k _ _ (xs ++ vs) B2 H2 h2 (x1.trans x2) S2 (cvs_app o2 (DqAll.ext x2 r1))⟩
  · rename_i ds q
    obtain ⟨l, xs, rfl, t1, r1⟩ := (rv_of S1 o1 q).tup S1.subE
    exact ⟨l, xs, rfl, .inl t1, Z, ρ1, B1, _, S1, h1, fun cs ρ2 vs B2 H2 h2 x2 S2 o2 => k _ _ (xs ++ vs) B2 H2 h2 (x1.trans x2) S2 (cvs_app o2 (DqAll.ext x2 r1))⟩
  · exact h1.elim
end
end VL

end

/-! #### VXH -/
section
set_option autoImplicit false
set_option maxRecDepth 100000
set_option maxHeartbeats 2000000
/-! enumerate of a list or a tuple -/
namespace VL
open PySem PySem.Spec PyProof.Rows L2
open AutoSeq1 (wpAny_loadPart') in
theorem enum_newT (l : Addr) (items : Array Value) (n : Nat) (dct : Option Addr) (sl : Array (Option Value)) :
    PySem.Meets (Builtin.«enumerate.__new__» ⟨[.type "enumerate", .ref l], []⟩) (fun _ R s => s.heap.get? l = some { cls := .type "tuple", dict := dct, data := .seq items n, slots := sl } ∧
      R (.ok (.ret (.ref (s.heap.push { cls := .type "tuple_iterator", data := .fields #[.ref l, .int 0 0] }).objs.size)))
        { s with heap := (s.heap.push { cls := .type "tuple_iterator", data := .fields #[.ref l, .int 0 0] }).push { cls := .type "enumerate", data := .fields #[.none, .bool false, .ref s.heap.objs.size, rawInt 0, .none, .none] } }) :=
  .of_wp fun prog w A R s h => by
    obtain ⟨hp, g, d, tk, os⟩ := s; obtain ⟨hl, h⟩ := h
    have hsub := sub_enumerate
    have hL : Heap.IsTuple (Shared.heap ⟨hp, g, d, tk, os⟩) l items := ⟨_, hl, rfl, n, rfl⟩
    wp_walk using wpAny_loadPart' hl
    refine wpAny_stack_any fun st => wpAny_pure ?_
    split
    · rename_i c _ _ _ _ _
      cases (c == Value.type "enumerate")
      · wp_walk using wpAny_loadPart' hl, wpAny_pyIter_tuple hL
        exact ⟨_, rfl, h⟩
      · wp_walk using wpAny_loadPart' hl, wpAny_pyIter_tuple hL
        exact ⟨_, rfl, h⟩
    · wp_walk using wpAny_loadPart' hl, wpAny_pyIter_tuple hL
      exact ⟨_, rfl, h⟩
section
variable {prog : Program} {w : World} {A : Around} {E : Value → Shared → Prop} {s : Shared}
theorem call_enumT {l : Addr} {items : Array Value} {Q : Value → Shared → Prop} (hL : s.heap.IsTuple l items)
    (h : ∀ h', IsEnum h' (s.heap.objs.size + 1) s.heap.objs.size 0 .none → h'.IsTupleIter s.heap.objs.size l 0 → h'.objs.size = s.heap.objs.size + 2 →
      (∀ b o, s.heap.get? b = some o → h'.get? b = some o) → Q (.ref (s.heap.objs.size + 1)) { s with heap := h' }) :
    wpAny (model prog w) A (call (.type "enumerate") [.ref l]) Q E s := by
  obtain ⟨⟨c, dct, dt, sl⟩, hl, hc, n, hd⟩ := hL
  replace hc : c = .type "tuple" := hc
  replace hd : dt = .seq items n := hd
  subst hc hd
  refine callType_new F.called_enumerate (by decide) (F.typeCall_enumerate_1 _) (F.newCall_enumerate_1 _) (fun obj => F.args_object_init_2 obj _) F.entry_enumerate_new
    (enum_newT l items n dct sl) ⟨hl, ?_⟩
  have hz : (s.heap.push { cls := .type "tuple_iterator", data := .fields #[.ref l, .int 0 0] }).objs.size = s.heap.objs.size + 1 := Heap.size_push ..
  show _ ∧ _
  rw [hz]
  have he : IsEnum ((s.heap.push { cls := .type "tuple_iterator", data := .fields #[.ref l, .int 0 0] }).push
      { cls := .type "enumerate", data := .fields #[.none, .bool false, .ref s.heap.objs.size, rawInt 0, .none, .none] }) (s.heap.objs.size + 1) s.heap.objs.size 0 .none := by
    have := Heap.get?_push_size (s.heap.push { cls := .type "tuple_iterator", data := .fields #[.ref l, .int 0 0] })
      (o := { cls := .type "enumerate", data := .fields #[.none, .bool false, .ref s.heap.objs.size, rawInt 0, .none, .none] }) rfl
    rw [hz] at this; exact this
  refine ⟨⟨_, he, rfl⟩, h _ he ⟨_, Heap.get?_push_of_some _ (Heap.get?_push_size _ rfl), rfl, rfl⟩ (by rw [Heap.size_push, hz]) fun b o x => Heap.get?_push_of_some _ (Heap.get?_push_of_some _ x)⟩
end
section
variable {prog : Program} {w : World} {A : Around} {E : Value → Shared → Prop} {s : Shared}
theorem enum_endT {e it l : Addr} {i : Nat} {items : Array Value} {old : Value} {Q : Option Value → Shared → Prop} (hh : A.handled = none)
    (he : IsEnum s.heap e it i old) (hit : s.heap.IsTupleIter it l i) (hl : s.heap.IsTuple l items) (hx : items[i]? = none)
    (hQ : ∀ h', Heap.ExtBut it s.heap h' → Q none { s with heap := h' }) : wpAny (model prog w) A (pyNext (.ref e)) Q E s := by
  have hT : s.TypeIs (.ref e) "enumerate" := ⟨_, he, rfl⟩
  unfold pyNext
  refine wpAny_bind (wpAny_attempt (wpAny_callSpecial?_slot (name := Str.ofString "__next__") hT F.slot_enumerate_next
    (wpAny_call_entry F.slot_enumerate_next hT F.entry_enumerate_next ?_ (F.args_enumerate_next_1 _))))
  show wpAny _ _ (field (.ref e) 2 >>= _) _ _ _
  refine wpAny_bind (wpAny_field he rfl (x := .ref it) rfl ?_)
  refine wpAny_bind (wpAny_nextOf_tuple_end hh hit hl hx fun h' x he' hx' => ?_)
  obtain ⟨o, ho, hc⟩ := hx'
  refine wpAny_bind (wpAny_isInstance (T := "StopIteration") (b := true) ⟨o, ho, hc⟩ isSubtype_stop ?_)
  exact wpAny_pure (hQ _ he')
end
def IteT (K : PySem.W.Frag) (a : Addr) : It :=
  ⟨fun i H => ∃ (xs : List V) (x : V), SqT K H a xs ∧ xs[i]? = some x, fun i H v H' => ∃ T x, v = .ref T ∧ H T = none ∧ H' = upd H T (.tup [.int (i : Nat), x]) ∧ ∀ xs, SqT K H a xs → xs[i]? = some x, fun i H => ∃ xs : List V, SqT K H a xs ∧ xs.length ≤ i⟩
theorem turn_enumT {P : Program} {w : World} {K : PySem.W.Frag} {elts : List Expr} {kk : Nat} {tpos : Pos} (a e it : Addr) (na : a ≠ it) (nae : a ≠ e) :
    Turn P w K (.Tuple elts kk tpos) (IteT K a) [e, it] e (fun i h => (∃ old, IsEnum h e it ((i : Nat) : Int) old) ∧ h.IsTupleIter it a i ∧ e ≠ it) where
  mem := by simp
  obj := fun i h st b hb => by
    obtain ⟨⟨old, he⟩, ⟨o, ho, hc, hd⟩, _⟩ := st
    have e' : b = e ∨ b = it := by simpa using hb
    rcases e' with z | z
    · rw [z]; exact ⟨_, he, fun v q => nomatch q⟩
    · rw [z]; exact ⟨o, ho, fun v q => by rw [hd] at q; cases q⟩
  keep := fun i h h' st k => let ⟨⟨old, he⟩, hi, hne⟩ := st; ⟨⟨old, k e (by simp) _ he⟩, hi.at fun o q => k it (by simp) o q, hne⟩
  item := by
    intro X hP hw hK hc i pins s σ H E I hf st hg
    subst hP hw hK
    obtain ⟨⟨old, he⟩, hit, hne⟩ := st
    obtain ⟨xs, x, hq, hx⟩ := hg
    obtain ⟨its, rv, p, hz⟩ := I.tuple hq
    have p' : s.heap.IsTuple a its.toArray := p
    obtain ⟨u, hu, ru⟩ := rv.get hx
    have hel : e < s.heap.objs.size := Heap.lt_size he
    have hil : it < s.heap.objs.size := by obtain ⟨_, q, _⟩ := hit; exact Heap.lt_size q
    have hul : i < its.toArray.size := by
      have := (List.getElem?_eq_some_iff.mp hu).1
      simpa using this
    refine wpAny_pyNext_enum_itemD (Draws.tuple (A := X.A.in1) (I.ok.hd hc) it a na its.toArray) he ⟨hit, p'⟩ hul hne (by simp [hne, Ne.symm nae]) fun x' h' tk hx' ho st' hT hsz hk => ?_
    have hxu : x' = u := by
      have h1 : its.toArray[i]? = some x' := hx'
      rw [show its.toArray[i]? = some u by simpa using hu] at h1
      exact (Option.some.inj h1).symm
    subst hxu
    refine ⟨_, rfl, wpAny_letOwnedTupleGo_enum (s := { s with heap := h', toks := tk + 1 }) ho fun h'' he' sb => ?_⟩
    have hT2 : h''.get? s.heap.objs.size = some { cls := .type "tuple", data := .seq #[.int i tk, x'] } := (sb.2 _ (Nat.ne_of_gt hel)).trans hT
    have new : ObjOk X.prog X.w (upd H s.heap.objs.size (.tup [.int (i : Nat), x])) h'' s.heap.objs.size (.tup [.int (i : Nat), x]) :=
      ⟨by show 2 ≤ sizeLine; decide, [.int i tk, x'], .cons ⟨_, rfl⟩ (.cons ru .nil), ⟨_, hT2, rfl, _, rfl⟩⟩
    have I1 : Inv X pins σ (upd H s.heap.objs.size (.tup [.int (i : Nat), x])) { s with heap := h'', toks := tk + 1 } :=
      I.turnedNew (ch := [e, it]) (fun b ob hb q => (sb.2 b (fun z => hb (by simp [z]))).trans (hk b ob (fun z => hb (by simp [z])) (fun z => hb (by simp [z])) q)) hf (Nat.le_refl _) new
    refine ⟨.ref s.heap.objs.size, _, I1, rfl, ⟨_, x, rfl, I.hok.fresh (Nat.le_refl _), rfl, fun ys hy => by rw [I.tuple_inj hy hq]; exact hx⟩, ⟨⟨x', ?_⟩, st'.1.at fun o q => (sb.2 it (Ne.symm hne)).trans q, hne⟩, fun b hb => ?_⟩
    · have e1 : ((i + 1 : Nat) : Int) = (i : Int) + 1 := by omega
      rw [e1]; exact he'
    · have hb' : b < s.heap.objs.size := by
        have e' : b = e ∨ b = it := by simpa using hb
        rcases e' with z | z
        · rw [z]; exact hel
        · rw [z]; exact hil
      rw [upd_ne (Nat.ne_of_lt hb')]
      exact (hf b hb).1
  done := by
    intro X hP hw hK hc i pins s σ H E I hf st hg
    subst hP hw hK
    obtain ⟨⟨old, he⟩, hit, hne⟩ := st
    obtain ⟨xs, hq, hx⟩ := hg
    obtain ⟨its, rv, p, hz⟩ := I.tuple hq
    have p' : s.heap.IsTuple a its.toArray := p
    obtain ⟨f0, f1, f2, f3, f4, f5⟩ := hf it (by simp)
    have hl := rv.length
    exact enum_endT (I.ok.hd hc) he hit p' (by simp; omega) fun h' eb => ⟨rfl, I.turned (t' := s.toks) (fun b o hb q => eb b o hb q) f0 f1 f3 f4 f5⟩
  self := fun A i s Q E st h => let ⟨⟨_, he⟩, _⟩ := st; wpAny_pyIter_enum he h
def iEnumA (K : PySem.W.Frag) (ta : TA) : TI := fun σ H R => ta σ H fun vs H1 => ∃ a xs, vs = [.ref a] ∧ ((SqL K H1 a xs ∧ R (Ite K a) H1) ∨ (SqT K H1 a xs ∧ R (IteT K a) H1))
theorem pi_enumA {X : Cx} {e : Expr} {ta : TA} {p pos tpos : Pos} {elts : List Expr} {kk : Nat} (hg : Gl X "enumerate") (hm : X.mg "enumerate" = none) (ha : PA X [e] ta) (hs : starEach [e] X.env = [(false, eval e X.env)] := by rfl) :
    PI X (.Tuple elts kk tpos) (.Call (.Name "enumerate" p) [e] [] pos) (iEnumA X.K ta) := by
  refine ⟨fun pins s σ H R I h => ?_⟩
  refine Call_ (ld_blt I hg hm boot_enumerate (PyProof.Rows.callWith_type1 (thn (ha.run pos pins s σ H _ I h) fun us s1 ⟨vs, H1, I1, r1, q1⟩ => ?_) hs rfl))
  obtain ⟨a, xs, ex, q1⟩ := q1
  subst ex
  cases r1 with
  | cons r rr =>
    cases rr
    cases r
    have fpk : ∀ b ∈ [s1.heap.objs.size + 1, s1.heap.objs.size], s1.heap.objs.size ≤ b := fun b hb => by
      have e' : b = s1.heap.objs.size + 1 ∨ b = s1.heap.objs.size := by simpa using hb
      rcases e' with z | z
      · rw [z]; exact Nat.le_add_right _ _
      · rw [z]; exact Nat.le_refl _
    rcases q1 with ⟨hq, q⟩ | ⟨hq, q⟩
    · obtain ⟨its, rv, p', hz⟩ := I1.list hq
      refine call_enumerate_list p'.isList fun h' he hit hsz hk => wpAny_pyIter_enum he ?_
      have I2 : Inv X pins σ H1 { s1 with heap := h' } := I1.kept (t' := s1.toks) hk
      exact ⟨s1.heap.objs.size + 1, [s1.heap.objs.size + 1, s1.heap.objs.size], _, _, H1, rfl, I2, turn_enum a (s1.heap.objs.size + 1) s1.heap.objs.size, ⟨⟨.none, he⟩, hit, Nat.succ_ne_self _⟩, fun b hb => I1.fpOk (fpk b hb) (I1.hok.fresh (fpk b hb)), q⟩
    · obtain ⟨its, rv, p', hz⟩ := I1.tuple hq
      have p2 : s1.heap.IsTuple a its.toArray := p'
      have al : a < s1.heap.objs.size := by
        obtain ⟨o, ho, _⟩ := p2
        exact Heap.lt_size ho
      refine call_enumT p2 fun h' he hit hsz hk => wpAny_pyIter_enum he ?_
      have I2 : Inv X pins σ H1 { s1 with heap := h' } := I1.kept (t' := s1.toks) hk
      exact ⟨s1.heap.objs.size + 1, [s1.heap.objs.size + 1, s1.heap.objs.size], _, _, H1, rfl, I2, turn_enumT a (s1.heap.objs.size + 1) s1.heap.objs.size (Nat.ne_of_lt al) (Nat.ne_of_lt (Nat.lt_succ_of_lt al)), ⟨⟨.none, he⟩, hit, Nat.succ_ne_self _⟩, fun b hb => I1.fpOk (fpk b hb) (I1.hok.fresh (fpk b hb)), q⟩
def enumD (ds : List D) : List D := (List.range ds.length).zipWith (fun (i : Nat) d => .tuple [.int i, d]) ds
theorem enum_len (ds : List D) : (enumD ds).length = ds.length := by simp [enumD]
theorem enum_get {ds : List D} {i : Nat} {d : D} (h : ds[i]? = some d) : (enumD ds)[i]? = some (.tuple [.int (i : Nat), d]) := by
  have l := (List.getElem?_eq_some_iff.mp h).1
  unfold enumD
  rw [List.getElem?_zipWith, h, List.getElem?_range l]
theorem wk_enumL {K : Fg} {B : Hp} {a : Addr} {xs : List V} {ds : List D} (h : SqL K B a xs) (r : DqAll K B xs ds) : Wk K (Ite K a) B (enumD ds) where
  go := fun i B1 H x s l => by
    rw [enum_len] at l
    obtain ⟨v, q1, _⟩ := r.get (List.getElem?_eq_getElem l)
    exact ⟨xs, v, sqL_ext (.of s) (sqL_ext x h), q1⟩
  stop := fun i B1 H x s l => by
    rw [enum_len] at l
    exact ⟨xs, sqL_ext (.of s) (sqL_ext x h), by rw [r.len]; exact l⟩
  yld := fun i B1 H v H' x s l y => by
    obtain ⟨T, v1, rfl, hT, rfl, f1⟩ := y
    obtain ⟨d1, g1, k1⟩ := r.getV (f1 xs (sqL_ext (.of s) (sqL_ext x h)))
    have xe : ExT B (upd B1 T (.tup [.int (i : Nat), v1])) := x.trans (.new (free_of s hT))
    exact ⟨_, _, enum_get g1, .new hT, .tup (.inl (.inl upd_same)) (.cons (.int _) (.cons (Dq.ext xe k1) .nil))⟩
theorem wk_enumT {K : Fg} {B : Hp} {a : Addr} {xs : List V} {ds : List D} (h : SqT K B a xs) (r : DqAll K B xs ds) : Wk K (IteT K a) B (enumD ds) where
  go := fun i B1 H x s l => by
    rw [enum_len] at l
    obtain ⟨v, q1, _⟩ := r.get (List.getElem?_eq_getElem l)
    exact ⟨xs, v, sqT_ext (.of s) (sqT_ext x h), q1⟩
  stop := fun i B1 H x s l => by
    rw [enum_len] at l
    exact ⟨xs, sqT_ext (.of s) (sqT_ext x h), by rw [r.len]; exact l⟩
  yld := fun i B1 H v H' x s l y => by
    obtain ⟨T, v1, rfl, hT, rfl, f1⟩ := y
    obtain ⟨d1, g1, k1⟩ := r.getV (f1 xs (sqT_ext (.of s) (sqT_ext x h)))
    have xe : ExT B (upd B1 T (.tup [.int (i : Nat), v1])) := x.trans (.new (free_of s hT))
    exact ⟨_, _, enum_get g1, .new hT, .tup (.inl (.inl upd_same)) (.cons (.int _) (.cons (Dq.ext xe k1) .nil))⟩
/-- enumerate(a) -/
def wEnum (r : WA) : WN := fun ρ P => r ρ fun cs ρ' => match cs with
  | [.d (.list ds)] => P (enumD ds) ρ'
  | [.d (.tuple ds)] => P (enumD ds) ρ'
  | _ => False
theorem ienum {X : Cx} {as : As} {a : Expr} {pos : Pos} {r : WA} {p tpos : Pos} {elts : List Expr} {kk : Nat} (hm : X.mg "enumerate" = none) (ha : PA X [a] (upA X.K as r)) (hg : Gl X "enumerate" := by rfl) (hs : starEach [a] X.env = [(false, eval a X.env)] := by rfl) : PI X (.Tuple elts kk tpos) (.Call (.Name "enumerate" p) [a] [] pos) (upI X.K as (wEnum r)) := by
  refine pi_imp (pi_enumA hg hm ha hs) fun σ H R ⟨Z, ρ, B, P, S, h, k⟩ => ⟨Z, ρ, B, _, S, h, fun cs ρ' vs B' H' h1 x S' o1 => ?_⟩
  split at h1
  · obtain ⟨v, rfl, o2⟩ := cvs_one o1
    cases o2 with
    | lst p1 r1 => exact ⟨_, _, rfl, .inl ⟨sqL_ext S'.ext p1, k _ _ B' H' _ h1 x S' (wk_enumL p1 r1)⟩⟩
  · obtain ⟨v, rfl, o2⟩ := cvs_one o1
    cases o2 with
    | tup p1 r1 => exact ⟨_, _, rfl, .inr ⟨sqT_ext S'.ext p1, k _ _ B' H' _ h1 x S' (wk_enumT p1 r1)⟩⟩
  · exact h1.elim
end VL

end

/-! #### VXI -/
section
set_option autoImplicit false
set_option maxRecDepth 100000
set_option maxHeartbeats 2000000
set_option exponentiation.threshold 20000
/-! factorial, comb; powers of wide numbers; several new things at once -/
namespace VL
open PySem PySem.Spec PyProof.Rows L2
/-! ### math.factorial, math.comb -/
def fac : Nat → Nat
  | 0 => 1
  | n + 1 => fac n * (n + 1)
theorem fac_eq (n : Nat) : Builtin.Math.factorialNat n = fac n := by
  induction n with
  | zero => rfl
  | succ n ih => rw [PySem.W.mc_fac_succ, ih]; rfl
theorem fac_le : ∀ n : Nat, n ≤ 1000 → fac n ≤ 2 ^ (10 * n)
  | 0, _ => by decide
  | n + 1, h => by
    have ih := fac_le n (by omega)
    show fac n * (n + 1) ≤ 2 ^ (10 * n + 10)
    rw [Nat.pow_add]
    exact Nat.mul_le_mul ih (by omega)
def rFac : List V → Hp → VK → Prop := fun vs H Q => ∃ n : Nat, vs = [.int (n : Int)] ∧ n ≤ 1000 ∧ Q (.int (fac n : Nat)) H
theorem Vals.int1 {i : Int} {us : List Value} (r : Vals [V.int i] us) : ∃ t, us = [.int i t] := by
  cases r with
  | cons h t =>
    cases t
    obtain ⟨k, e⟩ := h
    exact ⟨k, by rw [e]⟩
theorem cr_fac {X : Cx} : CallR X (.builtin "math.factorial") rFac := by
  intro pins s σ H vs us Q I r h
  obtain ⟨n, rfl, hn, q⟩ := h
  obtain ⟨t, rfl⟩ := Vals.int1 r
  have l : fac n < 2 ^ 10001 := Nat.lt_of_le_of_lt (fac_le n hn) (Nat.pow_lt_pow_right (by decide) (by omega))
  refine PySem.W.mg_factorial_v (c := (fac n : Nat)) ?_ (by omega) ?_ ?_ ?_ ⟨.int _, H, I.tok _, ⟨_, rfl⟩, q⟩
  · show ¬ (n : Int) > 2 ^ 63 - 1
    omega
  · show ¬ (n : Int) > 20000
    omega
  · rw [Int.toNat_natCast, fac_eq]
  · rw [Int.natAbs_natCast]
    exact Nat.lt_of_le_of_lt (PySem.W.mg_log (k := 10000) l) (by decide)
def oFac : DC := fun ds P => match ds with
  | [.int i] => ∃ n : Nat, i = (n : Int) ∧ n ≤ 1000 ∧ P (.int (fac n : Nat))
  | _ => False
theorem cv_fac {K : Fg} : CallV K rFac oFac := by
  intro B H vs ds P Q e a c k
  unfold oFac at c
  split at c
  · obtain ⟨v, rfl, b⟩ := a.one
    obtain ⟨n, rfl, hn, c⟩ := c
    cases b.int
    exact ⟨n, rfl, hn, k _ _ _ _ c .no (.int _)⟩
  · exact c.elim
/-- Pascal's triangle -/
def bin : Nat → Nat → Nat
  | _, 0 => 1
  | 0, _ + 1 => 0
  | n + 1, k + 1 => bin n k + bin n (k + 1)
theorem bin_comb : ∀ n k : Nat, n ≤ 12 → k ≤ 12 → PySem.W.mcComb (n : Int) (k : Int) = (bin n k : Nat) := by
  have h : ∀ n : Fin 13, ∀ k : Fin 13, PySem.W.mcComb ((n : Nat) : Int) ((k : Nat) : Int) = (bin n k : Nat) := by decide +kernel
  intro n k hn hk
  exact h ⟨n, by omega⟩ ⟨k, by omega⟩
def rComb : List V → Hp → VK → Prop := fun vs H Q => ∃ n k : Nat, vs = [.int (n : Int), .int (k : Int)] ∧ n ≤ 12 ∧ k ≤ 12 ∧ Q (.int (bin n k : Nat)) H
theorem cr_comb {X : Cx} : CallR X (.builtin "math.comb") rComb := by
  intro pins s σ H vs us Q I r h
  obtain ⟨n, k, rfl, hn, hk, q⟩ := h
  obtain ⟨t, u, rfl⟩ := Vals.int2 r
  have g := PySem.W.mc_gives_comb (a := (n : Int)) (b := (k : Int)) t u (by omega) (by omega) (by omega) (by omega)
  rw [bin_comb n k hn hk] at g
  exact call_function_meets PySem.W.MGF.kind_comb PySem.W.MGF.plain_comb PySem.W.MGF.entry_comb (PySem.W.MGF.args_comb _ _) g.meets ⟨.int _, H, I.tok _, ⟨_, rfl⟩, q⟩
def oComb : DC := fun ds P => match ds with
  | [.int i, .int j] => ∃ n k : Nat, i = (n : Int) ∧ j = (k : Int) ∧ n ≤ 12 ∧ k ≤ 12 ∧ P (.int (bin n k : Nat))
  | _ => False
theorem cv_comb {K : Fg} : CallV K rComb oComb := by
  intro B H vs ds P Q e a c k
  unfold oComb at c
  split at c
  · obtain ⟨v, u, rfl, b1, b2⟩ := a.two
    obtain ⟨n, m, rfl, rfl, h1, h2, c⟩ := c
    cases b1.int
    cases b2.int
    exact ⟨n, m, rfl, h1, h2, k _ _ _ _ c .no (.int _)⟩
  · exact c.elim
/-! ### ** of wide numbers -/
def CPowW (i j : Int) : Prop := 0 ≤ j ∧ ((i.natAbs.log2 : Int) + 1) * j ≤ 2 ^ 27
theorem op_powW {X : Cx} : OpR X (binaryOp .Pow) (rI CPowW fun i j => .int (i ^ j.toNat)) := opI fun i j _ _ _ _ _ hc q => by
  refine pow_int hc.1 (Int.le_trans ?_ hc.2) q
  refine Int.mul_le_mul_of_nonneg_right ?_ hc.1
  have : Builtin.Int.intBits i ≤ i.natAbs.log2 + 1 := by
    unfold Builtin.Int.intBits
    split <;> omega
  omega
abbrev oPowW : DO := oI CPowW fun i j => .int (i ^ j.toNat)
/-! ### a, b, .. = data, a new list, {}: one of each -/
inductive MK where
  | d (t : WE) | n (t : WN) | k
inductive PC where
  | d (y : D) | l (ds : List D) | k
def PC.cell : PC → Cell
  | .d y => .dat y
  | .l ds => .lst false ds
  | .k => .dic []
def wm (m : MK) (ρ : En) (P : PC → En → Prop) : Prop := match m with
  | .d t => t ρ fun c ρ1 => ∃ y, c = .d y ∧ P (.d y) ρ1
  | .n t => t ρ fun ds ρ1 => P (.l ds) ρ1
  | .k => P .k ρ
def te (K : Fg) (as : As) (m : MK) : TE := match m with
  | .d t => up K as t
  | .n t => upN K as t
  | .k => tDNewK
def CompOk (K : Fg) (B Z : Hp) (c : PC) (v : V) (Z' : Hp) : Prop := match c with
  | .d y => Dq K B v y ∧ Z' = Z
  | .l ds => ∃ p xs, v = .ref p ∧ Z p = none ∧ DqAll K B xs ds ∧ Z' = upd Z p (.lst xs)
  | .k => ∃ p, v = .ref p ∧ Z p = none ∧ Z' = upd Z p (.dK [])
section
variable {K : Fg} {as : As} {Z : Hp} {ρ : En} {σ : L2.St} {B H : Hp}
theorem CompOk.ext {B' Z' : Hp} {c : PC} {v : V} (e : ExT B B') (h : CompOk K B Z c v Z') : CompOk K B' Z c v Z' := by
  cases c with
  | d y => exact ⟨Dq.ext e h.1, h.2⟩
  | l ds =>
    obtain ⟨p, xs, h1, h2, h3, h4⟩ := h
    exact ⟨p, xs, h1, h2, DqAll.ext e h3, h4⟩
  | k => exact h
theorem te_run {m : MK} {Q : VK} {P : PC → En → Prop} (S : Sv K as Z ρ σ B H) (h : wm m ρ P) (k : ∀ c ρ' v Z' B' H', P c ρ' → ExT B B' → Sv K as Z' ρ' σ B' H' → CompOk K B' Z c v Z' → Q v H') : te K as m σ H Q := by
  cases m with
  | d t =>
    refine ⟨Z, ρ, B, _, S, h, fun c ρ1 v B1 H1 h1 x1 S1 o1 => ?_⟩
    obtain ⟨y, rfl, h2⟩ := h1
    exact k _ ρ1 v Z B1 H1 h2 x1 S1 ⟨o1, rfl⟩
  | n t => exact ⟨Z, ρ, B, _, S, h, fun ds ρ1 p xs B1 H1 h1 x1 S1 hp r => k (.l ds) ρ1 _ _ B1 _ h1 x1 (S1.hide hp) ⟨p, xs, rfl, S1.nZ hp, r, rfl⟩⟩
  | k => exact fun p hp => k .k ρ _ _ B _ h (.refl B) (S.hideD hp) ⟨p, rfl, S.nZ hp, rfl⟩
theorem comp_store {Z' : Hp} {c : PC} {v : V} {i : Nat} (S : Sv K as Z' ρ σ B H) (o : CompOk K B Z c v Z') (hi : i < ρ.length) : ∃ B', ExT B B' ∧ Sv K as Z (ρ.set i c.cell) (σ.set i (some v)) B' H := by
  cases c with
  | d y =>
    obtain ⟨o1, rfl⟩ := o
    obtain ⟨B2, e2, S2, _⟩ := S.drop i
    exact ⟨B2, e2, S2.put (Dq.ext e2 o1)⟩
  | l ds =>
    obtain ⟨p, xs, rfl, z, r, rfl⟩ := o
    obtain ⟨H0, S3, hp0, rfl⟩ := S.unhide z
    obtain ⟨B4, e4, S4, _⟩ := S3.drop i
    exact ⟨B4, e4, S4.putOwn (c := .lst false ds) hp0 rfl (fun ds z => by cases z) hi ⟨xs, upd_same, DqAll.ext e4 r⟩⟩
  | k =>
    obtain ⟨p, rfl, z, rfl⟩ := o
    obtain ⟨H0, S3, hp0, rfl⟩ := S.unhide z
    obtain ⟨B4, e4, S4, _⟩ := S3.drop i
    exact ⟨B4, e4, S4.putOwn (c := .dic []) hp0 rfl (fun ds z => by cases z) hi ⟨[], upd_same, .nil⟩⟩
end
def wMPar2 (i j : Nat) (m1 m2 : MK) : WS := fun w ρ => wm m1 ρ fun c1 ρ1 => wm m2 ρ1 fun c2 ρ2 => i < ρ2.length ∧ j < ρ2.length ∧ w.nx ((ρ2.set j c2.cell).set i c1.cell)
def wMPar3 (i j l : Nat) (m1 m2 m3 : MK) : WS := fun w ρ => wm m1 ρ fun c1 ρ1 => wm m2 ρ1 fun c2 ρ2 => wm m3 ρ2 fun c3 ρ3 => i < ρ3.length ∧ j < ρ3.length ∧ l < ρ3.length ∧ w.nx (((ρ3.set l c3.cell).set j c2.cell).set i c1.cell)
section
variable {X : Cx} {as : As} {a b c : Expr} {pos : Pos} {m1 m2 m3 : MK}
theorem smpar2 {i j : Nat} {x y : Str} {px py pt : Pos} {kt k2 pt2} (hc : X.calm = true) (hN : X.N.Nodup) (ha : PE X a (te X.K as m1)) (hb : PE X b (te X.K as m2)) (hw : swappedStores [.Tuple [.Name x px, .Name y py] kt pt] (.Tuple [a, b] k2 pt2) X.env = pure (some [x, y]) := by rfl) (hi : X.N[i]? = some x := by rfl) (hj : X.N[j]? = some y := by rfl) (hij : i ≠ j := by decide)
    (hx : X.env.scope.names.lookup x = some .local := by rfl) (hy : X.env.scope.names.lookup y = some .local := by rfl)
    (he : starEach [a, b] X.env = (false, eval a X.env) :: starEach [b] X.env := by rfl) (he2 : starEach [b] X.env = (false, eval b X.env) :: starEach [] X.env := by rfl)
    (hs : swapsWithSole [.Tuple [.Name x px, .Name y py] kt pt] (.Tuple [a, b] k2 pt2) pos.line X.env = pure false := by rfl) :
    PS X (.Assign [.Tuple [.Name x px, .Name y py] kt pt] (.Tuple [a, b] k2 pt2) pos) (upS X.K as (wMPar2 i j m1 m2)) := by
  refine ps_imp (ps_par hc hN hi hj hij hx hy (pa_cons ha (pa_cons hb pa_nil he2) he) hw hs) fun D σ H ⟨Z, ρ, B, w, S, h, m⟩ => ?_
  refine te_run S h fun c1 ρ1 v1 Z1 B1 H1 h1 x1 S1 o1 => te_run S1 h1 fun c2 ρ2 v2 Z2 B2 H2 h2 x2 S2 o2 => ?_
  obtain ⟨l1, l2, h2⟩ := h2
  obtain ⟨B3, e3, S3⟩ := comp_store S2 o2 l2
  obtain ⟨B4, e4, S4⟩ := comp_store S3 (o1.ext (x2.trans e3)) (by rw [List.length_set]; exact l1)
  rw [show (σ.set j (some v2)).set i (some v1) = (σ.set i (some v1)).set j (some v2) from List.set_comm _ _ (Ne.symm hij)] at S4
  exact ⟨v1, v2, rfl, m.nx _ _ B4 _ h2 (((x1.trans x2).trans e3).trans e4) S4⟩
theorem smpar3 {i j l : Nat} {x y z : Str} {px py pz pt : Pos} {kt k2 pt2} (hc : X.calm = true) (hN : X.N.Nodup) (ha : PE X a (te X.K as m1)) (hb : PE X b (te X.K as m2)) (hd : PE X c (te X.K as m3)) (hw : swappedStores [.Tuple [.Name x px, .Name y py, .Name z pz] kt pt] (.Tuple [a, b, c] k2 pt2) X.env = pure (some [x, y, z]) := by rfl)
    (hi : X.N[i]? = some x := by rfl) (hj : X.N[j]? = some y := by rfl) (hl : X.N[l]? = some z := by rfl) (hij : i ≠ j := by decide) (hil : i ≠ l := by decide) (hjl : j ≠ l := by decide)
    (hx : X.env.scope.names.lookup x = some .local := by rfl) (hy : X.env.scope.names.lookup y = some .local := by rfl) (hz : X.env.scope.names.lookup z = some .local := by rfl)
    (he : starEach [a, b, c] X.env = (false, eval a X.env) :: starEach [b, c] X.env := by rfl) (he2 : starEach [b, c] X.env = (false, eval b X.env) :: starEach [c] X.env := by rfl) (he3 : starEach [c] X.env = (false, eval c X.env) :: starEach [] X.env := by rfl)
    (hs : swapsWithSole [.Tuple [.Name x px, .Name y py, .Name z pz] kt pt] (.Tuple [a, b, c] k2 pt2) pos.line X.env = pure false := by rfl) :
    PS X (.Assign [.Tuple [.Name x px, .Name y py, .Name z pz] kt pt] (.Tuple [a, b, c] k2 pt2) pos) (upS X.K as (wMPar3 i j l m1 m2 m3)) := by
  refine ps_imp (ps_par3 hc hN hi hj hl hij hil hjl hx hy hz (pa_cons ha (pa_cons hb (pa_cons hd pa_nil he3) he2) he) hw hs) fun D σ H ⟨Z, ρ, B, w, S, h, m⟩ => ?_
  refine te_run S h fun c1 ρ1 v1 Z1 B1 H1 h1 x1 S1 o1 => te_run S1 h1 fun c2 ρ2 v2 Z2 B2 H2 h2 x2 S2 o2 => te_run S2 h2 fun c3 ρ3 v3 Z3 B3 H3 h3 x3 S3 o3 => ?_
  obtain ⟨l1, l2, l3, h3⟩ := h3
  obtain ⟨B4, e4, S4⟩ := comp_store S3 o3 l3
  obtain ⟨B5, e5, S5⟩ := comp_store S4 (o2.ext (x3.trans e4)) (by rw [List.length_set]; exact l2)
  obtain ⟨B6, e6, S6⟩ := comp_store S5 (o1.ext (((x2.trans x3).trans e4).trans e5)) (by rw [List.length_set, List.length_set]; exact l1)
  have ee : ((σ.set l (some v3)).set j (some v2)).set i (some v1) = ((σ.set i (some v1)).set j (some v2)).set l (some v3) := by
    rw [show (σ.set l (some v3)).set j (some v2) = (σ.set j (some v2)).set l (some v3) from List.set_comm _ _ (Ne.symm hjl), show ((σ.set j (some v2)).set l (some v3)).set i (some v1) = ((σ.set j (some v2)).set i (some v1)).set l (some v3) from List.set_comm _ _ (Ne.symm hil), show (σ.set j (some v2)).set i (some v1) = (σ.set i (some v1)).set j (some v2) from List.set_comm _ _ (Ne.symm hij)]
  rw [ee] at S6
  exact ⟨v1, v2, v3, rfl, m.nx _ _ B6 _ h3 (((((x1.trans x2).trans x3).trans e4).trans e5).trans e6) S6⟩
end
end VL

end

/-! #### K03S -/
section
set_option autoImplicit false
namespace K03
open PySem PySem.Spec PyProof.Rows L2 VL
/-! ### numbers -/
def rD (q : Rat) : D := .tuple [.int q.num, .int (q.den : Int)]
def isIntD : D → Bool
  | .int _ => true
  | _ => false
def fromD (m : Int) : D → Bool
  | .int i => decide (m ≤ i)
  | _ => false
def intT (ns : List Int) : D := .tuple (ns.map .int)
def intL (ns : List Int) : D := .list (ns.map .int)
def Bd (n : Int) : Prop := n.natAbs < 2 ^ 4000
/-! ### what the defs do -/
def S_is_integer : VL.Spec := fun ρ Q => ∃ d, ρ = [.dat d] ∧ Q (.d (.bool (isIntD d))) [.un]
def S_is_integer_from : VL.Spec := fun ρ Q => ∃ d m, ρ = [.dat d, .dat (.int m)] ∧ Q (.d (.bool (fromD m d))) [.un, .un]
def S_lowest : VL.Spec := fun ρ Q => ∃ a b : Int, ρ = [.dat (.int a), .dat (.int b)] ∧ 0 < b ∧ Bd b ∧ Q (.d (rD (a / b))) [.un, .un]
def S_is_number : VL.Spec := fun ρ Q => ∃ q : Rat, ρ = [.dat (rD q)] ∧ Bd q.den ∧ Q (.d (.bool true)) [.un]
def S_check_number : VL.Spec := fun ρ Q => ∃ q : Rat, ρ = [.dat (rD q)] ∧ Bd q.den ∧ 0 ≤ q ∧ q ≤ 1 ∧ Q (.d .none) [.un]
def base2 (row : List Int) : Int := row.foldl (fun f p => 2 * f + p) 0
def S_in_base_two : VL.Spec := fun ρ Q => ∃ row : List Int, ρ = [.dat (intT row)] ∧ Q (.d (.int (base2 row))) [.un]
def S__law_gcd : VL.Spec := fun ρ Q => ∃ u v : Nat, ρ = [.dat (.int u), .dat (.int v)] ∧ Q (.d (.int (Nat.gcd u v))) [.un, .un]
def S__law_pair : VL.Spec := fun ρ Q => ∃ a b : Int, ρ = [.dat (.int a), .dat (.int b)] ∧ 0 < b ∧ Bd b ∧ Q (.d (rD (a / b))) [.un, .un]
def S__law_plus : VL.Spec := fun ρ Q => ∃ p q : Rat, ρ = [.dat (rD p), .dat (rD q)] ∧ Bd p.num ∧ Bd q.num ∧ p.den < 2 ^ 2000 ∧ q.den < 2 ^ 2000 ∧ Q (.d (rD (p + q))) [.un, .un]
def S__law_times : VL.Spec := fun ρ Q => ∃ p q : Rat, ρ = [.dat (rD p), .dat (rD q)] ∧ Bd p.num ∧ Bd q.num ∧ p.den < 2 ^ 2000 ∧ q.den < 2 ^ 2000 ∧ Q (.d (rD (p * q))) [.un, .un]
def S__law_less : VL.Spec := fun ρ Q => ∃ p q : Rat, ρ = [.dat (rD p), .dat (rD q)] ∧ Bd p.num ∧ Bd q.num ∧ Bd p.den ∧ Bd q.den ∧ Q (.d (.bool (decide (p < q)))) [.un, .un]
/-- whatever is drawn -/
def S__law_take : VL.Spec := fun ρ Q => ∃ a b m : Int, ρ = [.lst true [.int a, .int b], .dat (.int m)] ∧ 0 < m ∧ m < 2 ^ 30 ∧ ∀ (r : Nat) (a' b' : Int), (r : Int) < m → Q (.d (.int r)) [.lst true [.int a', .int b'], .un]
def S__law_deck : VL.Spec := fun ρ Q => ∃ (ns : List Int) (k : Nat), ρ = [.dat (intL ns), .dat (.int k)] ∧ ∀ a b : Int, Q (.new [.int a, .int b]) [.un, .un]
/-! ### rests and tops -/
def rs (a b : Int) : Nat → Int
  | 0 => a.fmod b
  | n + 1 => (2 * rs a b n).fmod b
def tp (a b : Int) : Nat → Int
  | 0 => a
  | n + 1 => (tp a b n).fmod b * 2
def fr (a b : Int) (i : Nat) : Rat := (rs a b i : Rat) / (b : Rat)
def Fw (f : Nat → Rat) (c : Rat) : Nat → Rat
  | 0 => c
  | t + 1 => 2 * (Fw f c t - f t)
/-- c is the sum of all f i / 2^i, f round from s on with p -/
def IsCost (f : Nat → Rat) (c : Rat) : Prop := ∃ s p, 1 ≤ p ∧ (∀ i, f (s + p + i) = f (s + i)) ∧ Fw f c (s + p) = Fw f c s
def seg (g : Nat → Int) (N t : Nat) : List Int := (List.range N).map fun i => g (t + i)
def rowSum (ahead again : List Int) : Rat := ((2 * (base2 ahead * (2 ^ again.length - 1) + base2 again) : Int) : Rat) / (((2 ^ again.length - 1) * 2 ^ ahead.length : Int) : Rat)
structure Num (q : Rat) : Prop where
  lo : 0 ≤ q
  hi : q ≤ 1
  den : q.den ≤ 200
structure Per (a b : Int) (s p : Nat) : Prop where
  pos : 1 ≤ p
  rep : tp a b (s + p) = tp a b s
  inj : ∀ i j, i < j → j < s + p → tp a b i ≠ tp a b j
def fg (a b : Int) (i : Nat) : Int := (tp a b i).fdiv b
def figD (a b : Int) (s p : Nat) : D := .tuple [intT (seg (fg a b) s 0), intT (seg (fg a b) p s)]
def Sg (row : List Int) : Prop := row.length ≤ 1000 ∧ ∀ x ∈ row, 0 ≤ x ∧ x ≤ 1
def S_tails_of : VL.Spec := fun ρ Q => ∃ q : Rat, ρ = [.dat (rD q)] ∧ Num q ∧ ∀ s p : Nat, Per q.num q.den s p → Q (.d (.tuple [intL (seg (tp q.num q.den) s 0), intL (seg (tp q.num q.den) p s)])) [.un]
def S_figures : VL.Spec := fun ρ Q => ∃ q : Rat, ρ = [.dat (rD q)] ∧ Num q ∧ ∀ s p : Nat, Per q.num q.den s p → Q (.d (figD q.num q.den s p)) [.un]
def S_sum_of_row : VL.Spec := fun ρ Q => ∃ ahead again : List Int, ρ = [.dat (intT ahead), .dat (intT again)] ∧ ahead.length ≤ 201 ∧ again.length ≤ 201 ∧ 1 ≤ again.length ∧ (∀ x ∈ ahead, 0 ≤ x ∧ x ≤ 512) ∧ (∀ x ∈ again, 0 ≤ x ∧ x ≤ 512) ∧ Q (.d (rD (rowSum ahead again))) [.un, .un]
def S_is_signs : VL.Spec := fun ρ Q => ∃ row : List Int, ρ = [.dat (intT row)] ∧ Sg row ∧ Q (.d (.bool true)) [.un]
def S_is_figures : VL.Spec := fun ρ Q => ∃ ahead again : List Int, ρ = [.dat (.tuple [intT ahead, intT again])] ∧ Sg ahead ∧ Sg again ∧ 1 ≤ again.length ∧ Q (.d (.bool true)) [.un]
def S_number : VL.Spec := fun ρ Q => ∃ (q : Rat) (s p : Nat), ρ = [.dat (figD q.num q.den s p)] ∧ Num q ∧ Per q.num q.den s p ∧ Q (.d (rD q)) [.un]
def S__law_sequence : VL.Spec := fun ρ Q => ∃ (q : Rat) (m : Nat), ρ = [.dat (rD q), .dat (.int m)] ∧ Num q ∧ 1 ≤ m ∧ m ≤ 3000 ∧ Q (.new ((seg (fg q.num q.den) m 0).map .int)) [.un, .un]
def S__law_rounds : VL.Spec := fun ρ Q => ∃ q : Rat, ρ = [.dat (rD q)] ∧ Num q ∧ ∀ j p : Nat, 1 ≤ p → rs q.num q.den (j + p) = rs q.num q.den j → (∀ x y, x < y → y < j + p → rs q.num q.den x ≠ rs q.num q.den y) → Q (.d (.tuple [.int (1 + (j : Int)), .int p])) [.un]
def S__law_due : VL.Spec := fun ρ Q => ∃ q : Rat, ρ = [.dat (rD q)] ∧ Num q ∧ ∀ s p : Nat, Per q.num q.den s p → Q (.d (figD q.num q.den s p)) [.un]
def S__law_is_right : VL.Spec := fun ρ Q => ∃ (q : Rat) (s p : Nat), ρ = [.dat (rD q), .dat (figD q.num q.den s p)] ∧ Num q ∧ Per q.num q.den s p ∧ Q (.d (.bool true)) [.un, .un]
/-- data of ints, lists and tuples of that depth -/
inductive Ok : Nat → D → Prop
  | int (j : Nat) (i : Int) : Ok (j + 1) (.int i)
  | lst (j : Nat) (ds : List D) : ds.length ≤ 300 → (∀ d ∈ ds, Ok j d) → Ok (j + 1) (.list ds)
  | tup (j : Nat) (ds : List D) : ds.length ≤ 300 → (∀ d ∈ ds, Ok j d) → Ok (j + 1) (.tuple ds)
def S__law_same (j : Nat) : VL.Spec := fun ρ Q => ∃ d, ρ = [.dat d, .dat d] ∧ Ok j d ∧ Q (.d (.bool true)) [.un, .un]
def S__law_drawn_number : VL.Spec := fun ρ Q => ∃ a b : Int, ρ = [.lst true [.int a, .int b], .dat (.int 200)] ∧ ∀ (q : Rat) (a' b' : Int), Num q → Q (.d (rD q)) [.lst true [.int a', .int b'], .un]
def S_law : VL.Spec := fun ρ Q => ∃ ns : List Int, ρ = [.dat (intL ns)] ∧ ns.length ≤ 63 ∧ Q (.d (.bool true)) [.un]
end K03

end

/-! #### K03M -/
section
set_option autoImplicit false
set_option maxRecDepth 100000
set_option maxHeartbeats 2000000
namespace K03
open PySem PySem.Spec PyProof.Rows L2 VL
/-! ### numbers -/
theorem qdiv (q : Rat) : ((q.num : Int) : Rat) / ((q.den : Int) : Rat) = q := by
  rw [← Rat.divInt_eq_div]
  exact Rat.num_divInt_den q
theorem low_num (a b : Int) (h : 0 < b) : a.fdiv (Int.gcd a b : Nat) = ((a : Rat) / (b : Rat)).num := by
  rw [← Rat.divInt_eq_div, Rat.num_divInt, Int.sign_eq_one_of_pos h, Int.one_mul, Int.gcd_comm, Int.fdiv_eq_ediv_of_nonneg _ (Int.natCast_nonneg _)]
theorem low_den (a b : Int) (h : 0 < b) : b.fdiv (Int.gcd a b : Nat) = (((a : Rat) / (b : Rat)).den : Int) := by
  rw [← Rat.divInt_eq_div, Rat.den_divInt, if_neg (by omega), Int.gcd_comm, Int.fdiv_eq_ediv_of_nonneg _ (Int.natCast_nonneg _)]
  have e : b = (b.natAbs : Int) := by omega
  conv => lhs; arg 1; rw [e]
  rw [Int.natCast_ediv]
theorem gcd_pos (a b : Int) (h : 0 < b) : 0 < Int.gcd a b := Int.gcd_pos_of_ne_zero_right _ (by omega)
theorem gcd_le (a b : Int) (h : 0 < b) : (Int.gcd a b : Int) ≤ b := Int.gcd_le_right a h
theorem log2_lt {n k : Nat} (h : n < 2 ^ k) (hk : 0 < k) : n.log2 < k := by
  by_cases z : n = 0
  · subst z
    simpa using hk
  · exact (Nat.log2_lt z).mpr h
theorem cdv_gcd (x a b : Int) (h : 0 < b) (hb : Bd b) : CDv x (Int.gcd a b : Nat) := by
  have h1 := gcd_pos a b h
  have h2 := gcd_le a b h
  have h3 : (Int.gcd a b) < 2 ^ 4000 := by
    unfold Bd at hb
    omega
  refine .inr ⟨by omega, ?_⟩
  rw [Int.natAbs_natCast]
  exact Nat.lt_trans (log2_lt h3 (by decide)) (by decide)
theorem cdv_pos {x m : Int} (h : 0 < m) (hb : Bd m) : CDv x m := .inr ⟨h, Nat.lt_trans (log2_lt hb (by decide)) (by decide)⟩
theorem small_bd {m : Int} (h : 0 ≤ m) (hb : m < 2 ^ 64) : Bd m := by
  unfold Bd
  have : (2 : Nat) ^ 64 ≤ 2 ^ 4000 := Nat.pow_le_pow_right (by decide) (by decide)
  omega
theorem den_pos (q : Rat) : (0 : Int) < (q.den : Int) := by
  have := q.den_pos
  omega
theorem low_tup (a b : Int) (h : 0 < b) : PyData.tuple [.int (a.fdiv (Int.gcd a b : Nat)), .int (b.fdiv (Int.gcd a b : Nat))] = rD ((a : Rat) / (b : Rat)) := by
  rw [low_num a b h, low_den a b h]
  rfl
theorem shp_rD (q : Rat) : shp (rD q) = true := rfl
theorem eqv_rD (p q : Rat) : PyData.eqv (rD p) (rD q) = decide (p = q) := by
  simp only [rD, PyData.eqv, PyData.eqvAll, Bool.and_true]
  by_cases h : p = q
  · subst h
    simp
  · rw [decide_eq_false h]
    rw [Bool.and_eq_false_iff]
    by_cases n : p.num = q.num
    · right
      have : p.den ≠ q.den := fun z => h (Rat.ext n z)
      simp
      omega
    · left
      simpa using n
theorem cok_bd {x y : Int} (hx : x.natAbs < 2 ^ 490000) (hy : y.natAbs < 2 ^ 490000) : COk x y := by
  refine .inr ?_
  have h1 := log2_lt hx (by decide)
  have h2 := log2_lt hy (by decide)
  show x.natAbs.log2 + y.natAbs.log2 < 1000000
  omega
theorem bd_big {x : Int} (h : Bd x) : x.natAbs < 2 ^ 490000 := Nat.lt_of_lt_of_le h (Nat.pow_le_pow_right (by decide) (by decide))
end K03

end

/-! #### K03N -/
section
set_option autoImplicit false
set_option maxRecDepth 100000
set_option maxHeartbeats 2000000
set_option exponentiation.threshold 5000
namespace K03
/-! ### rests and tops -/
theorem tp_mod (a b : Int) : ∀ n, (tp a b n).fmod b = rs a b n
  | 0 => rfl
  | n + 1 => by
    show ((tp a b n).fmod b * 2).fmod b = (2 * rs a b n).fmod b
    rw [tp_mod a b n, Int.mul_comm]
theorem tp_succ (a b : Int) (n : Nat) : tp a b (n + 1) = 2 * rs a b n := by
  show (tp a b n).fmod b * 2 = _
  rw [tp_mod, Int.mul_comm]
theorem rs_nonneg {a b : Int} (h : 0 < b) (n : Nat) : 0 ≤ rs a b n := by
  cases n <;> exact Int.fmod_nonneg_of_pos _ h
theorem rs_lt {a b : Int} (h : 0 < b) (n : Nat) : rs a b n < b := by
  cases n <;> exact Int.fmod_lt_of_pos _ h
theorem rs_per {a b : Int} {i j : Nat} (h : rs a b i = rs a b j) : ∀ k, rs a b (i + k) = rs a b (j + k)
  | 0 => h
  | k + 1 => by
    show (2 * rs a b (i + k)).fmod b = (2 * rs a b (j + k)).fmod b
    rw [rs_per h k]
theorem tp_per {a b : Int} {i j : Nat} (h : tp a b i = tp a b j) : rs a b i = rs a b j := by rw [← tp_mod, ← tp_mod, h]
/-! ### the closed sum -/
def G (f : Nat → Rat) : Nat → Nat → Rat
  | 0, _ => 0
  | N + 1, t => G f N t + f (t + N) / 2 ^ N
theorem pow_ne (n : Nat) : (2 : Rat) ^ n ≠ 0 := by
  have : (0 : Rat) < 2 ^ n := Rat.pow_pos (by decide)
  grind
theorem pow_pos' (n : Nat) : (0 : Rat) < 2 ^ n := Rat.pow_pos (by decide)
theorem Fw_shift (f : Nat → Rat) (c : Rat) (s : Nat) : ∀ t, Fw f c (s + t) = 2 ^ t * (Fw f c s - G f t s)
  | 0 => by
    show Fw f c s = 2 ^ 0 * (Fw f c s - 0)
    grind
  | t + 1 => by
    show 2 * (Fw f c (s + t) - f (s + t)) = 2 ^ (t + 1) * (Fw f c s - (G f t s + f (s + t) / 2 ^ t))
    rw [Fw_shift f c s t]
    have := pow_ne t
    grind
theorem Fw_per {f : Nat → Rat} {c : Rat} {s p : Nat} (h : ∀ i, f (s + p + i) = f (s + i)) (e : Fw f c (s + p) = Fw f c s) : ∀ i, Fw f c (s + p + i) = Fw f c (s + i)
  | 0 => e
  | i + 1 => by
    show 2 * (Fw f c (s + p + i) - f (s + p + i)) = 2 * (Fw f c (s + i) - f (s + i))
    rw [Fw_per h e i, h i]
theorem Fw_up {f : Nat → Rat} {c : Rat} (hf : ∀ i, f i ≤ 1) (t : Nat) : ∀ k, 2 ^ k * (Fw f c t - 2) ≤ Fw f c (t + k) - 2
  | 0 => by
    show 2 ^ 0 * (Fw f c t - 2) ≤ Fw f c t - 2
    grind
  | k + 1 => by
    have ih := Fw_up (c := c) hf t k
    have h1 := hf (t + k)
    show 2 ^ (k + 1) * (Fw f c t - 2) ≤ 2 * (Fw f c (t + k) - f (t + k)) - 2
    have e : (2 : Rat) ^ (k + 1) * (Fw f c t - 2) = 2 * (2 ^ k * (Fw f c t - 2)) := by grind
    grind
theorem Fw_dn {f : Nat → Rat} {c : Rat} (hf : ∀ i, 0 ≤ f i) (t : Nat) : ∀ k, Fw f c (t + k) ≤ 2 ^ k * Fw f c t
  | 0 => by
    show Fw f c t ≤ 2 ^ 0 * Fw f c t
    grind
  | k + 1 => by
    have ih := Fw_dn (c := c) hf t k
    have h1 := hf (t + k)
    show 2 * (Fw f c (t + k) - f (t + k)) ≤ 2 ^ (k + 1) * Fw f c t
    have e : (2 : Rat) ^ (k + 1) * Fw f c t = 2 * (2 ^ k * Fw f c t) := by grind
    grind
theorem two_le_pow {p : Nat} (h : 1 ≤ p) : (2 : Rat) ≤ 2 ^ p := by
  obtain ⟨k, rfl⟩ : ∃ k, p = k + 1 := ⟨p - 1, by omega⟩
  have : (1 : Rat) ≤ 2 ^ k := by
    clear h
    induction k with
    | zero => decide
    | succ k ih =>
      rw [Rat.pow_succ]
      grind
  rw [Rat.pow_succ]
  grind
theorem cost_bd {f : Nat → Rat} {c : Rat} (h0 : ∀ i, 0 ≤ f i) (h1 : ∀ i, f i ≤ 1) (h : IsCost f c) (t : Nat) : 0 ≤ Fw f c t ∧ Fw f c t ≤ 2 := by
  obtain ⟨s, p, hp, per, e⟩ := h
  have pe := Fw_per per e t
  have e1 : s + p + t = s + t + p := by omega
  rw [e1] at pe
  have hp2 := two_le_pow hp
  have ps := pow_pos' s
  constructor
  · by_cases z : 0 ≤ Fw f c t
    · exact z
    · exfalso
      have d1 := Fw_dn (c := c) h0 t s
      have d2 := Fw_dn (c := c) h0 (s + t) p
      rw [pe] at d2
      rw [Nat.add_comm t s] at d1
      have n1 : 2 ^ s * Fw f c t < 0 := by
        have := Rat.mul_lt_mul_of_pos_left (show Fw f c t < 0 by grind) ps
        grind
      have n2 : Fw f c (s + t) < 0 := by grind
      have n3 : 2 ^ p * Fw f c (s + t) ≤ 2 * Fw f c (s + t) := by
        have := Rat.mul_le_mul_of_nonneg_right hp2 (show 0 ≤ - Fw f c (s + t) by grind)
        grind
      grind
  · by_cases z : Fw f c t ≤ 2
    · exact z
    · exfalso
      have d1 := Fw_up (c := c) h1 t s
      have d2 := Fw_up (c := c) h1 (s + t) p
      rw [pe] at d2
      rw [Nat.add_comm t s] at d1
      have n1 : 0 < 2 ^ s * (Fw f c t - 2) := Rat.mul_pos ps (by grind)
      have n2 : 0 < Fw f c (s + t) - 2 := by grind
      have n3 : 2 * (Fw f c (s + t) - 2) ≤ 2 ^ p * (Fw f c (s + t) - 2) := Rat.mul_le_mul_of_nonneg_right hp2 (by grind)
      grind
theorem Fw_diff (f : Nat → Rat) (c d : Rat) : ∀ t, Fw f c t - Fw f d t = 2 ^ t * (c - d)
  | 0 => by
    show c - d = 2 ^ 0 * (c - d)
    grind
  | t + 1 => by
    have ih := Fw_diff f c d t
    show 2 * (Fw f c t - f t) - 2 * (Fw f d t - f t) = 2 ^ (t + 1) * (c - d)
    grind
theorem nat_lt_pow (n : Nat) : ((n : Nat) : Rat) < 2 ^ n := by
  induction n with
  | zero => decide
  | succ n ih =>
    have : (1 : Rat) ≤ 2 ^ n := by
      by_cases h : n = 0
      · subst h
        decide
      · have := two_le_pow (p := n) (by omega)
        grind
    have e : (((n + 1 : Nat)) : Rat) = (n : Rat) + 1 := by
      rw [Rat.natCast_add]
      rfl
    rw [e, Rat.pow_succ]
    grind
theorem no_grow {d : Rat} (h : ∀ t : Nat, 2 ^ t * d ≤ 2) : d ≤ 0 := by
  by_cases z : d ≤ 0
  · exact z
  · exfalso
    have hd : 0 < d := by grind
    have hn : 0 < d.num := by
      have a : 0 ≤ d.num := Rat.num_nonneg.mpr (by grind)
      have b : d.num ≠ 0 := fun z => by
        have e := qdiv d
        rw [z] at e
        have : (0 : Rat) = d := by
          rw [← e, Rat.intCast_zero]
          grind
        grind
      omega
    have h1 := h (d.den + 1)
    have e := qdiv d
    have dp : (0 : Rat) < ((d.den : Int) : Rat) := by
      have := den_pos d
      exact Rat.intCast_pos.mpr this
    have n1 : (1 : Rat) ≤ ((d.num : Int) : Rat) := by
      have : (1 : Int) ≤ d.num := by omega
      exact Rat.intCast_le_intCast.mpr this
    have l := nat_lt_pow d.den
    have e2 : d * ((d.den : Int) : Rat) = (d.num : Rat) := by
      have : ((d.den : Int) : Rat) ≠ 0 := by grind
      grind
    have e3 : (((d.den : Nat)) : Rat) = ((d.den : Int) : Rat) := rfl
    rw [e3] at l
    have m := Rat.mul_lt_mul_of_pos_left l hd
    have e4 : (2 : Rat) ^ (d.den + 1) * d = 2 * (2 ^ d.den * d) := by grind
    grind
theorem cost_uniq {f : Nat → Rat} {c d : Rat} (h0 : ∀ i, 0 ≤ f i) (h1 : ∀ i, f i ≤ 1) (hc : IsCost f c) (hd : IsCost f d) : c = d := by
  have a : c - d ≤ 0 := no_grow fun t => by
    have := Fw_diff f c d t
    have b1 := cost_bd h0 h1 hc t
    have b2 := cost_bd h0 h1 hd t
    grind
  have b : d - c ≤ 0 := no_grow fun t => by
    have := Fw_diff f d c t
    have b1 := cost_bd h0 h1 hc t
    have b2 := cost_bd h0 h1 hd t
    grind
  grind
theorem cost_of {f : Nat → Rat} {c : Rat} {s p : Nat} (hp : 1 ≤ p) (per : ∀ i, f (s + p + i) = f (s + i)) {X : Rat} (h1 : 2 ^ s * (c - G f s 0) = X) (h2 : X = 2 ^ p * (X - G f p s)) : IsCost f c := by
  have e := Fw_shift f c 0 s
  rw [Nat.zero_add, show Fw f c 0 = c from rfl, h1] at e
  refine ⟨s, p, hp, per, ?_⟩
  rw [Fw_shift f c s p, e, ← h2]
theorem base2_app (row : List Int) (x : Int) : base2 (row ++ [x]) = 2 * base2 row + x := by
  unfold base2
  rw [List.foldl_append]
  rfl
theorem seg_succ (g : Nat → Int) (N t : Nat) : seg g (N + 1) t = seg g N t ++ [g (t + N)] := by
  unfold seg
  rw [List.range_succ, List.map_append]
  rfl
theorem seg_len (g : Nat → Int) (N t : Nat) : (seg g N t).length = N := by simp [seg]
theorem base2_G (g : Nat → Int) (t : Nat) : ∀ N, 2 * (base2 (seg g N t) : Rat) = 2 ^ N * G (fun i => (g i : Rat)) N t
  | 0 => by
    show 2 * ((0 : Int) : Rat) = 2 ^ 0 * 0
    rw [Rat.intCast_zero]
    grind
  | N + 1 => by
    have ih := base2_G g t N
    rw [seg_succ, base2_app, Rat.intCast_add, Rat.intCast_mul]
    show 2 * (((2 : Int) : Rat) * (base2 (seg g N t) : Rat) + (g (t + N) : Rat)) = 2 ^ (N + 1) * (G (fun i => (g i : Rat)) N t + (g (t + N) : Rat) / 2 ^ N)
    have e2 : ((2 : Int) : Rat) = 2 := rfl
    have pn := pow_ne N
    rw [e2, Rat.pow_succ]
    grind
def ft (a b : Int) (i : Nat) : Rat := (tp a b i : Rat)
theorem bne {b : Int} (h : 0 < b) : (b : Rat) ≠ 0 := by
  have : (0 : Rat) < b := Rat.intCast_pos.mpr h
  grind
theorem ft_succ {a b : Int} (h : 0 < b) (n : Nat) : ft a b (n + 1) = 2 * (b : Rat) * fr a b n := by
  unfold ft fr
  rw [tp_succ, Rat.intCast_mul]
  have e2 : ((2 : Int) : Rat) = 2 := rfl
  have := bne h
  rw [e2]
  grind
theorem G_ft {a b : Int} (h : 0 < b) (t : Nat) : ∀ N, (b : Rat) * G (fr a b) N t = G (ft a b) N t + ft a b (t + N) / 2 ^ N - ft a b t
  | 0 => by
    show (b : Rat) * 0 = 0 + ft a b t / 2 ^ 0 - ft a b t
    grind
  | N + 1 => by
    have ih := G_ft (a := a) h t N
    show (b : Rat) * (G (fr a b) N t + fr a b (t + N) / 2 ^ N) = (G (ft a b) N t + ft a b (t + N) / 2 ^ N) + ft a b (t + N + 1) / 2 ^ (N + 1) - ft a b t
    rw [ft_succ h, Rat.pow_succ]
    have := pow_ne N
    grind
theorem pow_cast (n : Nat) : (((2 : Int) ^ n : Int) : Rat) = 2 ^ n := by
  rw [Rat.intCast_pow]
  rfl
theorem rowSum_eq (g : Nat → Int) (s p : Nat) (hp : 1 ≤ p) : rowSum (seg g s 0) (seg g p s) = G (fun i => (g i : Rat)) s 0 + G (fun i => (g i : Rat)) p s * 2 ^ p / (2 ^ p - 1) / 2 ^ s := by
  unfold rowSum
  have e1 := base2_G g 0 s
  have e2 := base2_G g s p
  have h2 := two_le_pow hp
  have n1 : (2 : Rat) ^ p - 1 ≠ 0 := by grind
  have n2 := pow_ne s
  rw [seg_len, seg_len, Rat.intCast_mul, Rat.intCast_add, Rat.intCast_mul, Rat.intCast_mul, Rat.intCast_sub, pow_cast, pow_cast]
  have e3 : ((2 : Int) : Rat) = 2 := rfl
  have e4 : ((1 : Int) : Rat) = 1 := rfl
  rw [e3, e4]
  have e5 : (2 : Rat) * ((base2 (seg g s 0) : Rat) * (2 ^ p - 1) + (base2 (seg g p s) : Rat)) = 2 ^ s * G (fun i => (g i : Rat)) s 0 * (2 ^ p - 1) + 2 ^ p * G (fun i => (g i : Rat)) p s := by
    rw [← e1, ← e2]
    grind
  rw [e5]
  grind
theorem cost_tails {a b : Int} (h : 0 < b) {s p : Nat} (hp : 1 ≤ p) (e : tp a b (s + p) = tp a b s) : IsCost (fr a b) ((rowSum (seg (tp a b) s 0) (seg (tp a b) p s) - (a : Rat)) / (b : Rat)) := by
  have h2 := two_le_pow hp
  have n1 : (2 : Rat) ^ p - 1 ≠ 0 := by grind
  have n2 := pow_ne s
  have n3 := pow_ne p
  have bn := bne h
  have w := rowSum_eq (tp a b) s p hp
  have g1 := G_ft (a := a) h 0 s
  have g2 := G_ft (a := a) h s p
  have e1 : ft a b (s + p) = ft a b s := by
    unfold ft
    rw [e]
  have e0 : ft a b 0 = (a : Rat) := rfl
  rw [Nat.zero_add, e0] at g1
  rw [e1] at g2
  refine cost_of (s := s) (p := p) (X := 2 ^ s * ((rowSum (seg (tp a b) s 0) (seg (tp a b) p s) - (a : Rat)) / (b : Rat) - G (fr a b) s 0)) hp (fun i => ?_) rfl ?_
  · unfold fr
    rw [rs_per (tp_per e)]
  · rw [w]
    show _ = _
    have k1 : G (fun i => (tp a b i : Rat)) s 0 = G (ft a b) s 0 := rfl
    have k2 : G (fun i => (tp a b i : Rat)) p s = G (ft a b) p s := rfl
    rw [k1, k2]
    generalize G (ft a b) s 0 = A at *
    generalize G (ft a b) p s = C at *
    generalize G (fr a b) s 0 = A' at *
    generalize G (fr a b) p s = C' at *
    generalize ft a b s = u at *
    generalize (2 : Rat) ^ s = x at *
    generalize (2 : Rat) ^ p = y at *
    generalize (b : Rat) = β at *
    have c1 : A' = (A + u / x - (a : Rat)) / β := by grind
    have c2 : C' = (C + u / y - u) / β := by grind
    rw [c1, c2]
    grind
end K03

end

/-! #### K03P -/
section
set_option autoImplicit false
set_option maxRecDepth 100000
set_option maxHeartbeats 2000000
set_option exponentiation.threshold 5000
namespace K03
theorem pigeon : ∀ (m n : Nat) (f : Nat → Nat), (∀ i, i < n → f i < m) → (∀ i j, i < n → j < n → f i = f j → i = j) → n ≤ m
  | 0, n, f, h, _ => by
    by_cases z : n = 0
    · omega
    · have := h 0 (by omega)
      omega
  | m + 1, 0, f, _, _ => by omega
  | m + 1, n + 1, f, h, hi => by
    have ih := pigeon m n (fun i => if f i = m then f n else f i) (fun i hn => by
      show (if f i = m then f n else f i) < m
      have a := h i (by omega)
      have b := h n (by omega)
      have c := hi i n (by omega) (by omega)
      by_cases z : f i = m
      · rw [if_pos z]
        have : f n ≠ m := fun y => by have := c (z.trans y.symm); omega
        omega
      · rw [if_neg z]
        omega) (fun i j h1 h2 e => by
      have a := hi i j (by omega) (by omega)
      have b := hi i n (by omega) (by omega)
      have c := hi j n (by omega) (by omega)
      have e' : (if f i = m then f n else f i) = (if f j = m then f n else f j) := e
      by_cases z : f i = m
      · by_cases y : f j = m
        · exact a (z.trans y.symm)
        · rw [if_pos z, if_neg y] at e'
          have := c e'.symm
          omega
      · by_cases y : f j = m
        · rw [if_neg z, if_pos y] at e'
          have := b e'
          omega
        · rw [if_neg z, if_neg y] at e'
          exact a e')
    omega
theorem rs_few {a b : Int} (h : 0 < b) {n : Nat} (hi : ∀ i j, i < j → j < n → rs a b i ≠ rs a b j) : (n : Int) ≤ b := by
  have := pigeon b.toNat n (fun i => (rs a b i).toNat) (fun i _ => by
    have := rs_nonneg (a := a) h i
    have := rs_lt (a := a) h i
    show (rs a b i).toNat < b.toNat
    omega) fun i j h1 h2 e => by
      have e' : (rs a b i).toNat = (rs a b j).toNat := e
      have n1 := rs_nonneg (a := a) h i
      have n2 := rs_nonneg (a := a) h j
      have e2 : rs a b i = rs a b j := by omega
      by_cases z : i < j
      · exact (hi i j z h2 e2).elim
      · by_cases y : j < i
        · exact (hi j i y h1 e2.symm).elim
        · omega
  omega
theorem tp_few {a b : Int} (h : 0 < b) {n : Nat} (hi : ∀ i j, i < j → j < n → tp a b i ≠ tp a b j) : (n : Int) ≤ b + 1 := by
  by_cases z : n = 0
  · omega
  · have := rs_few (a := a) (n := n - 1) h fun i j h1 h2 e => hi (i + 1) (j + 1) (by omega) (by omega) (by rw [tp_succ, tp_succ, e])
    omega
end K03

end

/-! #### K03D -/
section
set_option autoImplicit false
set_option maxRecDepth 100000
set_option maxHeartbeats 4000000
namespace K03
open PySem PySem.Spec PyProof.Rows L2 VL
def topS (i : Nat) : Stmt := PySem.Challenge.pw_tosstrees_k03_whole_figures_of_numbers.main.body.getD i (.Pass ⟨0, 0, 0, 0⟩)
structure Tx (mg : Str → Option Value) : Prop where
  abs_ : mg "abs" = none
  all_ : mg "all" = none
  bool_ : mg "bool" = none
  gcd : mg "gcd" = some (.builtin "math.gcd")
  int_ : mg "int" = none
  isinstance : mg "isinstance" = none
  len_ : mg "len" = none
  list_ : mg "list" = none
  max_ : mg "max" = none
  min_ : mg "min" = none
  range_ : mg "range" = none
  str_ : mg "str" = none
  tuple_ : mg "tuple" = none
section
variable {P : Program} {w : World} {K : PySem.W.Frag} {mg : Str → Option Value} {base : Heap} {ts : List Addr}
abbrev s__law_deck : Stmt := topS 21
theorem sc__law_deck : FnScope ["script", "at", "cell", "stir"] ["script", "at"] (defScope s__law_deck) := ⟨rfl, rfl, rfl, by decide +kernel, rfl, by decide +kernel, by decide +kernel⟩
def t__law_deck : WS :=
  (wSeq (wAsg (wC (.int 0)) (wSet 2))
  (wSeq (wIfS (wTest (wOp oLt (wVar 1) (wCB oLen (wCons (wVar 0) wNil))))
  (wAsg (wOp itemD (wVar 0) (wVar 1)) (wSet 2))
  wNext)
  (wSeq (wAsg (wOp oMod (wCB oToInt (wCons (wOp oAdd (wOp oAdd (wVar 2) (wOp oMul (wC (.int 7919)) (wVar 1))) (wC (.int 104729))) wNil)) (wC (.int 2305843009213693951))) (wSet 3))
  (wSeq (wAsg (wOp oMod (wCB oToInt (wCons (wOp oAdd (wOp oAdd (wOp oMul (wOp oMul (wVar 3) (wVar 3)) (wVar 3)) (wOp oMul (wC (.int 31)) (wVar 1))) (wC (.int 7))) wNil)) (wC (.int 2305843009213693951))) (wSet 3))
  (wSeq (wIfS (wTest (wOp oLt (wVar 2) (wOp oPow (wC (.int 10)) (wC (.int 18)))))
  (wRetN (wLst (wCons (wC (.int 0)) (wCons (wVar 3) wNil))))
  wNext)
  (wRetN (wLst (wCons (wOp oSub (wVar 2) (wOp oPow (wC (.int 10)) (wC (.int 18)))) (wCons (wVar 3) wNil)))))))))
theorem d__law_deck {f__law_deck_ : Addr} {cdv : Value} {A : Around} {outer : List PySem.Env} {s : Shared} {H : Hp} {E : XK} {as : List (Option V)} (T : Tx mg) (hr : Room 0 (A.deeper (envOfC "_law_deck" (defScope s__law_deck) s.heap.objs.size f__law_deck_ cdv))) :
    PSs (cxOf CX0 P w K mg base ["script", "at", "cell", "stir"] "_law_deck" (defScope s__law_deck) f__law_deck_ cdv A outer s H E).nox (defBody s__law_deck) (upS K (as, ts) t__law_deck) :=
  (scons (sset (i := 2) sc__law_deck.nd vint)
  (scons (sif (tcmp op_lt (opv_I0 fun _ _ _ => .bl _) (vv 1) (vcb call_len cv_len T.len_ (by decide +kernel) (acons (vv 0) anil)))
  (sone (sset (i := 2) sc__law_deck.nd (vix ix_seq opv_ix (vv 0) (vv 1))))
  snil)
  (scons (sset (i := 3) sc__law_deck.nd (vop op_modN (opv_I fun _ _ _ => .int _) (vct call_int1 cv_int T.int_ (by decide +kernel) (acons (vop op_add' opv_add (vop op_add' opv_add (vv 2) (vop op_mul' (opv_I fun _ _ _ => .int _) vint (vv 1))) vint) anil)) vint))
  (scons (sset (i := 3) sc__law_deck.nd (vop op_modN (opv_I fun _ _ _ => .int _) (vct call_int1 cv_int T.int_ (by decide +kernel) (acons (vop op_add' opv_add (vop op_add' opv_add (vop op_mul' (opv_I fun _ _ _ => .int _) (vop op_mul' (opv_I fun _ _ _ => .int _) (vv 3) (vv 3)) (vv 3)) (vop op_mul' (opv_I fun _ _ _ => .int _) vint (vv 1))) vint) anil)) vint))
  (scons (sif (tcmp op_lt (opv_I0 fun _ _ _ => .bl _) (vv 2) (vop op_pow (opv_I fun _ _ _ => .int _) vint vint))
  (sone (sretN (vlst (acons vint (acons (vv 3) anil)))))
  snil)
  (sone (sretN (vlst (acons (vop op_sub (opv_I0 fun _ _ _ => .int _) (vv 2) (vop op_pow (opv_I fun _ _ _ => .int _) vint vint)) (acons (vv 3) anil))))))))))
abbrev s__law_gcd : Stmt := topS 23
theorem sc__law_gcd : FnScope ["u", "v"] ["u", "v"] (defScope s__law_gcd) := ⟨rfl, rfl, rfl, by decide +kernel, rfl, by decide +kernel, by decide +kernel⟩
def t__law_gcd : WS :=
  (wSeq (wWhile (wTest (wOp oNe (wVar 1) (wC (.int 0))))
  (wPar 0 1 (wCons (wVar 1) (wCons (wOp oMod (wCB oToInt (wCons (wVar 0) wNil)) (wVar 1)) wNil))))
  (wRet (wVar 0)))
theorem d__law_gcd {f__law_gcd_ : Addr} {cdv : Value} {A : Around} {outer : List PySem.Env} {s : Shared} {H : Hp} {E : XK} {as : List (Option V)} (T : Tx mg) (hr : Room 0 (A.deeper (envOfC "_law_gcd" (defScope s__law_gcd) s.heap.objs.size f__law_gcd_ cdv))) :
    PSs (cxOf CX0 P w K mg base ["u", "v"] "_law_gcd" (defScope s__law_gcd) f__law_gcd_ cdv A outer s H E).nox (defBody s__law_gcd) (upS K (as, ts) t__law_gcd) :=
  (scons (swhile PassesOwn.never (tcmp (op_neD hr.units) opv_ne (vv 1) vint)
  (sone (spar (i := 0) (j := 1) rfl sc__law_gcd.nd (acons (vv 1) (acons (vop op_modN (opv_I fun _ _ _ => .int _) (vct call_int1 cv_int T.int_ (by decide +kernel) (acons (vv 0) anil)) (vv 1)) anil)))))
  (sone (sret (vv 0))))
abbrev s__law_pair : Stmt := topS 24
theorem sc__law_pair : FnScope ["upper", "lower", "common"] ["upper", "lower"] (defScope s__law_pair) := ⟨rfl, rfl, rfl, by decide +kernel, rfl, by decide +kernel, by decide +kernel⟩
def t__law_pair : WS :=
  (wSeq (wAsg (wCall 2 S__law_gcd (wCons (wCB oAbs (wCons (wVar 0) wNil)) (wCons (wCB oAbs (wCons (wVar 1) wNil)) wNil))) (wSet 2))
  (wSeq (wIfS (wTest (wOp oLt (wVar 1) (wC (.int 0))))
  (wAsg (wNeg (wVar 2)) (wSet 2))
  wNext)
  (wRet (wTup (wCons (wOp oFdiv (wVar 0) (wVar 2)) (wCons (wOp oFdiv (wVar 1) (wVar 2)) wNil))))))
theorem d__law_pair {f__law_pair_ : Addr} {cdv : Value} {A : Around} {outer : List PySem.Env} {s : Shared} {H : Hp} {E : XK} {as : List (Option V)} (T : Tx mg) {f__law_gcd : Addr} {fd__law_gcd : FuncData} (c__law_gcd : FOk P w K ts mg base 1 2 "_law_gcd" f__law_gcd fd__law_gcd ["u", "v"] S__law_gcd) (hr : Room 1 (A.deeper (envOfC "_law_pair" (defScope s__law_pair) s.heap.objs.size f__law_pair_ cdv))) :
    PSs (cxOf CX0 P w K mg base ["upper", "lower", "common"] "_law_pair" (defScope s__law_pair) f__law_pair_ cdv A outer s H E).nox (defBody s__law_pair) (upS K (as, ts) t__law_pair) :=
  (scons (sset (i := 2) sc__law_pair.nd (vcall ⟨c__law_gcd.fn, c__law_gcd.g, c__law_gcd.kp, c__law_gcd.b⟩ hr (acons (vcb call_abs (cv_i1 fun _ _ => .int _) T.abs_ (by decide +kernel) (acons (vv 0) anil)) (acons (vcb call_abs (cv_i1 fun _ _ => .int _) T.abs_ (by decide +kernel) (acons (vv 1) anil)) anil))))
  (scons (sif (tcmp op_lt (opv_I0 fun _ _ _ => .bl _) (vv 1) vint)
  (sone (sset (i := 2) sc__law_pair.nd (vneg (vv 2))))
  snil)
  (sone (sret (vtup (acons (vop op_fdiv' (opv_I fun _ _ _ => .int _) (vv 0) (vv 2)) (acons (vop op_fdiv' (opv_I fun _ _ _ => .int _) (vv 1) (vv 2)) anil)))))))
abbrev s__law_take : Stmt := topS 22
theorem sc__law_take : FnScope ["deck", "many", "taken"] ["deck", "many"] (defScope s__law_take) := ⟨rfl, rfl, rfl, by decide +kernel, rfl, by decide +kernel, by decide +kernel⟩
def t__law_take : WS :=
  (wSeq (wIfS (wTest (wOp oGt (wOp itemD (wVar 0) (wC (.int 0))) (wC (.int 0))))
  (wSeq (wAsg (wOp oMod (wCB oToInt (wCons (wOp itemD (wVar 0) (wC (.int 0))) wNil)) (wVar 1)) (wSet 2))
  (wSeq (wSetIt 0 (wC (.int 0)) (wOp oFdiv (wOp itemD (wVar 0) (wC (.int 0))) (wVar 1)))
  (wRet (wVar 2))))
  wNext)
  (wSeq (wSetIt 0 (wC (.int 1)) (wOp oMod (wCB oToInt (wCons (wOp oAdd (wOp oMul (wOp itemD (wVar 0) (wC (.int 1))) (wC (.int 6364136223846793005))) (wC (.int 1442695040888963407))) wNil)) (wOp oPow (wC (.int 2)) (wC (.int 64)))))
  (wRet (wOp oMod (wOp oFdiv (wOp itemD (wVar 0) (wC (.int 1))) (wOp oPow (wC (.int 2)) (wC (.int 33)))) (wVar 1)))))
theorem d__law_take {f__law_take_ : Addr} {cdv : Value} {A : Around} {outer : List PySem.Env} {s : Shared} {H : Hp} {E : XK} {as : List (Option V)} (T : Tx mg) (hr : Room 0 (A.deeper (envOfC "_law_take" (defScope s__law_take) s.heap.objs.size f__law_take_ cdv))) :
    PSs (cxOf CX0 P w K mg base ["deck", "many", "taken"] "_law_take" (defScope s__law_take) f__law_take_ cdv A outer s H E).nox (defBody s__law_take) (upS K (as, ts) t__law_take) :=
  (scons (sif (tcmp op_gt (opv_I0 fun _ _ _ => .bl _) (vix ix_seq opv_ix (vv 0) vint) vint)
  (scons (sset (i := 2) sc__law_take.nd (vop op_modN (opv_I fun _ _ _ => .int _) (vct call_int1 cv_int T.int_ (by decide +kernel) (acons (vix ix_seq opv_ix (vv 0) vint) anil)) (vv 1)))
  (scons (ssetit 0 (vop op_fdiv' (opv_I fun _ _ _ => .int _) (vix ix_seq opv_ix (vv 0) vint) (vv 1)) vint)
  (sone (sret (vv 2)))))
  snil)
  (scons (ssetit 0 (vop op_modN (opv_I fun _ _ _ => .int _) (vct call_int1 cv_int T.int_ (by decide +kernel) (acons (vop op_add' opv_add (vop op_mul' (opv_I fun _ _ _ => .int _) (vix ix_seq opv_ix (vv 0) vint) vint) vint) anil)) (vop op_pow (opv_I fun _ _ _ => .int _) vint vint)) vint)
  (sone (sret (vop op_modN (opv_I fun _ _ _ => .int _) (vop op_fdiv' (opv_I fun _ _ _ => .int _) (vix ix_seq opv_ix (vv 0) vint) (vop op_pow (opv_I fun _ _ _ => .int _) vint vint)) (vv 1))))))
abbrev s__law_drawn_number : Stmt := topS 29
theorem sc__law_drawn_number : FnScope ["deck", "most", "way", "bottom"] ["deck", "most"] (defScope s__law_drawn_number) := ⟨rfl, rfl, rfl, by decide +kernel, rfl, by decide +kernel, by decide +kernel⟩
def t__law_drawn_number : WS :=
  (wSeq (wPar 2 3 (wCons (wCallIo 2 S__law_take (wCons (wVar 0) (wCons (wC (.int 6)) wNil))) (wCons (wOp oAdd (wC (.int 1)) (wCallIo 2 S__law_take (wCons (wVar 0) (wCons (wVar 1) wNil)))) wNil)))
  (wSeq (wIfS (wTest (wOp oEq (wVar 2) (wC (.int 0))))
  (wRet (wOp itemD (wStay (wLst (wCons (wTup (wCons (wC (.int 0)) (wCons (wC (.int 1)) wNil))) (wCons (wTup (wCons (wC (.int 1)) (wCons (wC (.int 1)) wNil))) (wCons (wTup (wCons (wC (.int 1)) (wCons (wC (.int 2)) wNil))) (wCons (wTup (wCons (wC (.int 1)) (wCons (wC (.int 3)) wNil))) (wCons (wTup (wCons (wC (.int 2)) (wCons (wC (.int 3)) wNil))) (wCons (wTup (wCons (wC (.int 1)) (wCons (wVar 1) wNil))) wNil)))))))) (wCallIo 2 S__law_take (wCons (wVar 0) (wCons (wC (.int 6)) wNil)))))
  wNext)
  (wSeq (wIfS (wTest (wOp oEq (wVar 2) (wC (.int 1))))
  (wAsg (wOp itemD (wStay (wLst (wCons (wC (.int 2)) (wCons (wC (.int 4)) (wCons (wC (.int 8)) (wCons (wC (.int 16)) (wCons (wC (.int 32)) (wCons (wC (.int 64)) (wCons (wC (.int 128)) wNil))))))))) (wCallIo 2 S__law_take (wCons (wVar 0) (wCons (wC (.int 7)) wNil)))) (wSet 3))
  wNext)
  (wSeq (wIfS (wTest (wOp oEq (wVar 2) (wC (.int 2))))
  (wAsg (wOp itemD (wStay (wLst (wCons (wC (.int 3)) (wCons (wC (.int 5)) (wCons (wC (.int 7)) (wCons (wC (.int 9)) (wCons (wC (.int 15)) (wCons (wC (.int 31)) (wCons (wC (.int 63)) (wCons (wC (.int 127)) (wCons (wC (.int 107)) (wCons (wC (.int 173)) (wCons (wC (.int 197)) wNil))))))))))))) (wCallIo 2 S__law_take (wCons (wVar 0) (wCons (wC (.int 11)) wNil)))) (wSet 3))
  wNext)
  (wSeq (wIfS (wTest (wOp oGt (wVar 3) (wVar 1)))
  (wAsg (wVar 1) (wSet 3))
  wNext)
  (wRet (wCall 2 S__law_pair (wCons (wCallIo 2 S__law_take (wCons (wVar 0) (wCons (wOp oAdd (wVar 3) (wC (.int 1))) wNil))) (wCons (wVar 3) wNil)))))))))
theorem d__law_drawn_number {f__law_drawn_number_ : Addr} {cdv : Value} {A : Around} {outer : List PySem.Env} {s : Shared} {H : Hp} {E : XK} {as : List (Option V)} (T : Tx mg) {f__law_pair : Addr} {fd__law_pair : FuncData} (c__law_pair : FOk P w K ts mg base 2 2 "_law_pair" f__law_pair fd__law_pair ["upper", "lower"] S__law_pair) {f__law_take : Addr} {fd__law_take : FuncData} (c__law_take : FOk P w K ts mg base 1 2 "_law_take" f__law_take fd__law_take ["deck", "many"] S__law_take) (hr : Room 2 (A.deeper (envOfC "_law_drawn_number" (defScope s__law_drawn_number) s.heap.objs.size f__law_drawn_number_ cdv))) :
    PSs (cxOf CX0 P w K mg base ["deck", "most", "way", "bottom"] "_law_drawn_number" (defScope s__law_drawn_number) f__law_drawn_number_ cdv A outer s H E).nox (defBody s__law_drawn_number) (upS K (as, ts) t__law_drawn_number) :=
  (scons (spar (i := 2) (j := 3) rfl sc__law_drawn_number.nd (acons (vcallIo ⟨c__law_take.fn, c__law_take.g, c__law_take.kp, c__law_take.b⟩ (hr.mono (by decide)) (acons (vv 0) (acons vint anil))) (acons (vop op_add' opv_add vint (vcallIo ⟨c__law_take.fn, c__law_take.g, c__law_take.kp, c__law_take.b⟩ (hr.mono (by decide)) (acons (vv 0) (acons (vv 1) anil)))) anil)))
  (scons (sif (tcmp (op_eqD hr.units) opv_eq (vv 2) vint)
  (sone (sret (vix ix_seq opv_ix (vstay (vlst (acons (vtup (acons vint (acons vint anil))) (acons (vtup (acons vint (acons vint anil))) (acons (vtup (acons vint (acons vint anil))) (acons (vtup (acons vint (acons vint anil))) (acons (vtup (acons vint (acons vint anil))) (acons (vtup (acons vint (acons (vv 1) anil))) anil)))))))) (vcallIo ⟨c__law_take.fn, c__law_take.g, c__law_take.kp, c__law_take.b⟩ (hr.mono (by decide)) (acons (vv 0) (acons vint anil))))))
  snil)
  (scons (sif (tcmp (op_eqD hr.units) opv_eq (vv 2) vint)
  (sone (sset (i := 3) sc__law_drawn_number.nd (vix ix_seq opv_ix (vstay (vlst (acons vint (acons vint (acons vint (acons vint (acons vint (acons vint (acons vint anil))))))))) (vcallIo ⟨c__law_take.fn, c__law_take.g, c__law_take.kp, c__law_take.b⟩ (hr.mono (by decide)) (acons (vv 0) (acons vint anil))))))
  snil)
  (scons (sif (tcmp (op_eqD hr.units) opv_eq (vv 2) vint)
  (sone (sset (i := 3) sc__law_drawn_number.nd (vix ix_seq opv_ix (vstay (vlst (acons vint (acons vint (acons vint (acons vint (acons vint (acons vint (acons vint (acons vint (acons vint (acons vint (acons vint anil))))))))))))) (vcallIo ⟨c__law_take.fn, c__law_take.g, c__law_take.kp, c__law_take.b⟩ (hr.mono (by decide)) (acons (vv 0) (acons vint anil))))))
  snil)
  (scons (sif (tcmp op_gt (opv_I0 fun _ _ _ => .bl _) (vv 3) (vv 1))
  (sone (sset (i := 3) sc__law_drawn_number.nd (vv 1)))
  snil)
  (sone (sret (vcall ⟨c__law_pair.fn, c__law_pair.g, c__law_pair.kp, c__law_pair.b⟩ hr (acons (vcallIo ⟨c__law_take.fn, c__law_take.g, c__law_take.kp, c__law_take.b⟩ (hr.mono (by decide)) (acons (vv 0) (acons (vop op_add' opv_add (vv 3) vint) anil))) (acons (vv 3) anil))))))))))
abbrev s__law_rounds : Stmt := topS 31
theorem sc__law_rounds : FnScope ["u", "turn", "top", "bottom", "rests", "over"] ["u"] (defScope s__law_rounds) := ⟨rfl, rfl, rfl, by decide +kernel, rfl, by decide +kernel, by decide +kernel⟩
def t__law_rounds : WS :=
  (wSeq (wAsg (wVar 0) (wGt [(wSet 2), (wSet 3)]))
  (wSeq (wParNE 4 5 (wLst wNil) (wOp oMod (wCB oToInt (wCons (wVar 2) wNil)) (wVar 3)))
  (wSeq (wFor (wRng1 (wCons (wOp oAdd (wVar 3) (wC (.int 1))) wNil)) (wSet 1)
  (wSeq (wIfS (wTest (wOp (oIn false) (wVar 5) (wVar 4)))
  wBrk
  wNext)
  (wSeq (wApp 4 (wVar 5))
  (wAsg (wOp oMod (wCB oToInt (wCons (wOp oMul (wC (.int 2)) (wVar 5)) wNil)) (wVar 3)) (wSet 5)))))
  (wRet (wTup (wCons (wOp oAdd (wC (.int 1)) (wIndex (wVar 4) (wVar 5))) (wCons (wOp oSub (wCB oLen (wCons (wVar 4) wNil)) (wIndex (wVar 4) (wVar 5))) wNil)))))))
theorem d__law_rounds {f__law_rounds_ : Addr} {cdv : Value} {A : Around} {outer : List PySem.Env} {s : Shared} {H : Hp} {E : XK} {as : List (Option V)} (T : Tx mg) (hr : Room 0 (A.deeper (envOfC "_law_rounds" (defScope s__law_rounds) s.heap.objs.size f__law_rounds_ cdv))) :
    PSs (cxOf CX0 P w K mg base ["u", "turn", "top", "bottom", "rests", "over"] "_law_rounds" (defScope s__law_rounds) f__law_rounds_ cdv A outer s H E).nox (defBody s__law_rounds) (upS K (as, ts) t__law_rounds) :=
  (scons (sasg (vv 0) (gtup rfl (gcons (gset (i := 2) sc__law_rounds.nd) (gcons (gset (i := 3) sc__law_rounds.nd) gnil))))
  (scons (sparNE (i := 4) (j := 5) rfl sc__law_rounds.nd (vlst anil) (vop op_modN (opv_I fun _ _ _ => .int _) (vct call_int1 cv_int T.int_ (by decide +kernel) (acons (vv 2) anil)) (vv 3)))
  (scons (sfor rfl (irng1 T.range_ (acons (vop op_add' opv_add (vv 3) vint) anil)) (gset (i := 1) sc__law_rounds.nd)
  (scons (sif (tcmp (op_in' (hu65 hr)) (opv_in (neg := false)) (vv 5) (vv 4))
  (sone sbrk)
  snil)
  (scons (sapp 4 (vv 5))
  (sone (sset (i := 5) sc__law_rounds.nd (vop op_modN (opv_I fun _ _ _ => .int _) (vct call_int1 cv_int T.int_ (by decide +kernel) (acons (vop op_mul' (opv_I fun _ _ _ => .int _) vint (vv 5)) anil)) (vv 3)))))) PassesOwn.never)
  (sone (sret (vtup (acons (vop op_add' opv_add vint (vindex (vv 4) (vv 5))) (acons (vop op_sub (opv_I0 fun _ _ _ => .int _) (vcb call_len cv_len T.len_ (by decide +kernel) (acons (vv 4) anil)) (vindex (vv 4) (vv 5))) anil))))))))
abbrev s__law_sequence : Stmt := topS 30
theorem sc__law_sequence : FnScope ["u", "many", "found", "over", "turn", "top", "bottom"] ["u", "many"] (defScope s__law_sequence) := ⟨rfl, rfl, rfl, by decide +kernel, rfl, by decide +kernel, by decide +kernel⟩
def t__law_sequence : WS :=
  (wSeq (wAsg (wVar 0) (wGt [(wSet 5), (wSet 6)]))
  (wSeq (wNew (wLst (wCons (wOp oFdiv (wVar 5) (wVar 6)) wNil)) 2)
  (wSeq (wAsg (wOp oMod (wCB oToInt (wCons (wVar 5) wNil)) (wVar 6)) (wSet 3))
  (wSeq (wFor (wRng1 (wCons (wOp oSub (wVar 1) (wC (.int 1))) wNil)) (wSet 4)
  (wSeq (wAsg (wOp oMul (wC (.int 2)) (wVar 3)) (wSet 3))
  (wSeq (wApp 2 (wOp oFdiv (wVar 3) (wVar 6)))
  (wAsg (wOp oMod (wCB oToInt (wCons (wVar 3) wNil)) (wVar 6)) (wSet 3)))))
  (wRet (wVar 2))))))
theorem d__law_sequence {f__law_sequence_ : Addr} {cdv : Value} {A : Around} {outer : List PySem.Env} {s : Shared} {H : Hp} {E : XK} {as : List (Option V)} (T : Tx mg) (hr : Room 0 (A.deeper (envOfC "_law_sequence" (defScope s__law_sequence) s.heap.objs.size f__law_sequence_ cdv))) :
    PSs (cxOf CX0 P w K mg base ["u", "many", "found", "over", "turn", "top", "bottom"] "_law_sequence" (defScope s__law_sequence) f__law_sequence_ cdv A outer s H E).nox (defBody s__law_sequence) (upS K (as, ts) t__law_sequence) :=
  (scons (sasg (vv 0) (gtup rfl (gcons (gset (i := 5) sc__law_sequence.nd) (gcons (gset (i := 6) sc__law_sequence.nd) gnil))))
  (scons (snew (i := 2) sc__law_sequence.nd (vlst (acons (vop op_fdiv' (opv_I fun _ _ _ => .int _) (vv 5) (vv 6)) anil)))
  (scons (sset (i := 3) sc__law_sequence.nd (vop op_modN (opv_I fun _ _ _ => .int _) (vct call_int1 cv_int T.int_ (by decide +kernel) (acons (vv 5) anil)) (vv 6)))
  (scons (sfor rfl (irng1 T.range_ (acons (vop op_sub (opv_I0 fun _ _ _ => .int _) (vv 1) vint) anil)) (gset (i := 4) sc__law_sequence.nd)
  (scons (sset (i := 3) sc__law_sequence.nd (vop op_mul' (opv_I fun _ _ _ => .int _) vint (vv 3)))
  (scons (sapp 2 (vop op_fdiv' (opv_I fun _ _ _ => .int _) (vv 3) (vv 6)))
  (sone (sset (i := 3) sc__law_sequence.nd (vop op_modN (opv_I fun _ _ _ => .int _) (vct call_int1 cv_int T.int_ (by decide +kernel) (acons (vv 3) anil)) (vv 6)))))) PassesOwn.never)
  (sone (sret (vv 2)))))))
abbrev s__law_due : Stmt := topS 32
theorem sc__law_due : FnScope ["u", "line", "turn", "ahead", "many"] ["u"] (defScope s__law_due) := ⟨rfl, rfl, rfl, by decide +kernel, rfl, by decide +kernel, by decide +kernel⟩
def t__law_due : WS :=
  (wSeq (wAsg (wCall 1 S__law_rounds (wCons (wVar 0) wNil)) (wGt [(wSet 3), (wSet 4)]))
  (wSeq (wAsg (wCall 2 S__law_sequence (wCons (wVar 0) (wCons (wOp oAdd (wVar 3) (wVar 4)) wNil))) (wSet 1))
  (wSeq (wFor (wRng1 (wCons (wVar 3) wNil)) (wSet 2)
  (wSeq (wIfS (wOrT (wTest (wOp oEq (wVar 3) (wC (.int 0)))) (wTest (wOp oNe (wOp itemD (wVar 1) (wOp oSub (wVar 3) (wC (.int 1)))) (wOp itemD (wVar 1) (wOp oSub (wOp oAdd (wVar 3) (wVar 4)) (wC (.int 1)))))))
  wBrk
  wNext)
  (wPar 3 1 (wCons (wOp oSub (wVar 3) (wC (.int 1))) (wCons (wSl (wVar 1) wNoPart (wPart (wOp oSub (wOp oAdd (wVar 3) (wVar 4)) (wC (.int 1))))) wNil)))))
  (wRet (wTup (wCons (wCB oTupOf (wCons (wSl (wVar 1) wNoPart (wPart (wVar 3))) wNil)) (wCons (wCB oTupOf (wCons (wSl (wVar 1) (wPart (wVar 3)) (wPart (wOp oAdd (wVar 3) (wVar 4)))) wNil)) wNil)))))))
theorem d__law_due {f__law_due_ : Addr} {cdv : Value} {A : Around} {outer : List PySem.Env} {s : Shared} {H : Hp} {E : XK} {as : List (Option V)} (T : Tx mg) {f__law_rounds : Addr} {fd__law_rounds : FuncData} (c__law_rounds : FOk P w K ts mg base 1 1 "_law_rounds" f__law_rounds fd__law_rounds ["u"] S__law_rounds) {f__law_sequence : Addr} {fd__law_sequence : FuncData} (c__law_sequence : FOk P w K ts mg base 1 2 "_law_sequence" f__law_sequence fd__law_sequence ["u", "many"] S__law_sequence) (hr : Room 1 (A.deeper (envOfC "_law_due" (defScope s__law_due) s.heap.objs.size f__law_due_ cdv))) :
    PSs (cxOf CX0 P w K mg base ["u", "line", "turn", "ahead", "many"] "_law_due" (defScope s__law_due) f__law_due_ cdv A outer s H E).nox (defBody s__law_due) (upS K (as, ts) t__law_due) :=
  (scons (sasg (vcall ⟨c__law_rounds.fn, c__law_rounds.g, c__law_rounds.kp, c__law_rounds.b⟩ hr (acons (vv 0) anil)) (gtup rfl (gcons (gset (i := 3) sc__law_due.nd) (gcons (gset (i := 4) sc__law_due.nd) gnil))))
  (scons (sset (i := 1) sc__law_due.nd (vcall ⟨c__law_sequence.fn, c__law_sequence.g, c__law_sequence.kp, c__law_sequence.b⟩ hr (acons (vv 0) (acons (vop op_add' opv_add (vv 3) (vv 4)) anil))))
  (scons (sfor rfl (irng1 T.range_ (acons (vv 3) anil)) (gset (i := 2) sc__law_due.nd)
  (scons (sif (L2.PW.pt (wor (tcmp (op_eqD hr.units) opv_eq (vv 3) vint) (wor1 (tcmp (op_neD hr.units) opv_ne (vix ix_seq opv_ix (vv 1) (vop op_sub (opv_I0 fun _ _ _ => .int _) (vv 3) vint)) (vix ix_seq opv_ix (vv 1) (vop op_sub (opv_I0 fun _ _ _ => .int _) (vop op_add' opv_add (vv 3) (vv 4)) vint))))))
  (sone sbrk)
  snil)
  (sone (spar (i := 3) (j := 1) rfl sc__law_due.nd (acons (vop op_sub (opv_I0 fun _ _ _ => .int _) (vv 3) vint) (acons (vsl (vv 1) onone (osome (vop op_sub (opv_I0 fun _ _ _ => .int _) (vop op_add' opv_add (vv 3) (vv 4)) vint))) anil))))) PassesOwn.never)
  (sone (sret (vtup (acons (vct call_tuple_of cv_tuple T.tuple_ (by decide +kernel) (acons (vsl (vv 1) onone (osome (vv 3))) anil)) (acons (vct call_tuple_of cv_tuple T.tuple_ (by decide +kernel) (acons (vsl (vv 1) (osome (vv 3)) (osome (vop op_add' opv_add (vv 3) (vv 4)))) anil)) anil))))))))
abbrev s__law_is_right : Stmt := topS 33
theorem sc__law_is_right : FnScope ["u", "due", "many", "line", "low", "ahead", "again"] ["u", "due"] (defScope s__law_is_right) := ⟨rfl, rfl, rfl, by decide +kernel, rfl, by decide +kernel, by decide +kernel⟩
def t__law_is_right : WS :=
  (wSeq (wAsg (wVar 1) (wGt [(wSet 5), (wSet 6)]))
  (wSeq (wAsg (wOp oAdd (wOp oAdd (wCB oLen (wCons (wVar 5) wNil)) (wOp oMul (wC (.int 2)) (wCB oLen (wCons (wVar 6) wNil)))) (wC (.int 2))) (wSet 2))
  (wSeq (wAsg (wOp oAdd (wStay (wCBN oSeqN (wCons (wVar 5) wNil))) (wOp oRepL (wStay (wCBN oSeqN (wCons (wVar 6) wNil))) (wC (.int 4)))) (wSet 3))
  (wSeq (wIfS (wOrT (wTest (wOp oNe (wSl (wVar 3) wNoPart (wPart (wCB oMin2 (wCons (wVar 2) (wCons (wCB oLen (wCons (wVar 3) wNil)) wNil))))) (wCall 2 S__law_sequence (wCons (wVar 0) (wCons (wCB oMin2 (wCons (wVar 2) (wCons (wCB oLen (wCons (wVar 3) wNil)) wNil))) wNil))))) (wTest (wOp oEq (wVar 6) (wOp oRepT (wTup (wCons (wC (.int 1)) wNil)) (wCB oLen (wCons (wVar 6) wNil))))))
  (wRet (wC (.bool false)))
  wNext)
  (wSeq (wIfS (wAndT (wTest (wOp oNe (wVar 5) (wTup wNil))) (wTest (wOp oEq (wOp itemD (wVar 5) (wNeg (wC (.int 1)))) (wOp itemD (wVar 6) (wNeg (wC (.int 1)))))))
  (wRet (wC (.bool false)))
  wNext)
  (wSeq (wFor (wRng2 (wCons (wC (.int 1)) (wCons (wCB oLen (wCons (wVar 6) wNil)) wNil))) (wSet 4)
  (wIfS (wAndT (wTest (wOp oEq (wOp oMod (wCB oToInt (wCons (wCB oLen (wCons (wVar 6) wNil)) wNil)) (wVar 4)) (wC (.int 0)))) (wTest (wOp oEq (wVar 6) (wOp oRepT (wSl (wVar 6) wNoPart (wPart (wVar 4))) (wOp oFdiv (wCB oLen (wCons (wVar 6) wNil)) (wVar 4))))))
  (wRet (wC (.bool false)))
  wNext))
  (wRet (wC (.bool true)))))))))
theorem d__law_is_right {f__law_is_right_ : Addr} {cdv : Value} {A : Around} {outer : List PySem.Env} {s : Shared} {H : Hp} {E : XK} {as : List (Option V)} (T : Tx mg) {f__law_sequence : Addr} {fd__law_sequence : FuncData} (c__law_sequence : FOk P w K ts mg base 1 2 "_law_sequence" f__law_sequence fd__law_sequence ["u", "many"] S__law_sequence) (hr : Room 1 (A.deeper (envOfC "_law_is_right" (defScope s__law_is_right) s.heap.objs.size f__law_is_right_ cdv))) :
    PSs (cxOf CX0 P w K mg base ["u", "due", "many", "line", "low", "ahead", "again"] "_law_is_right" (defScope s__law_is_right) f__law_is_right_ cdv A outer s H E).nox (defBody s__law_is_right) (upS K (as, ts) t__law_is_right) :=
  (scons (sasg (vv 1) (gtup rfl (gcons (gset (i := 5) sc__law_is_right.nd) (gcons (gset (i := 6) sc__law_is_right.nd) gnil))))
  (scons (sset (i := 2) sc__law_is_right.nd (vop op_add' opv_add (vop op_add' opv_add (vcb call_len cv_len T.len_ (by decide +kernel) (acons (vv 5) anil)) (vop op_mul' (opv_I fun _ _ _ => .int _) vint (vcb call_len cv_len T.len_ (by decide +kernel) (acons (vv 6) anil)))) vint))
  (scons (sset (i := 3) sc__law_is_right.nd (vop op_add' opv_add (vstay (vctN call_list_of cv_list T.list_ (by decide +kernel) (acons (vv 5) anil))) (vop op_repL opv_repL (vstay (vctN call_list_of cv_list T.list_ (by decide +kernel) (acons (vv 6) anil))) vint)))
  (scons (sif (L2.PW.pt (wor (tcmp (op_neD hr.units) opv_ne (vsl (vv 3) onone (osome (vcb (call_min2 rfl) (cv_i2 fun _ _ _ => .int _) T.min_ (by decide +kernel) (acons (vv 2) (acons (vcb call_len cv_len T.len_ (by decide +kernel) (acons (vv 3) anil)) anil))))) (vcall ⟨c__law_sequence.fn, c__law_sequence.g, c__law_sequence.kp, c__law_sequence.b⟩ hr (acons (vv 0) (acons (vcb (call_min2 rfl) (cv_i2 fun _ _ _ => .int _) T.min_ (by decide +kernel) (acons (vv 2) (acons (vcb call_len cv_len T.len_ (by decide +kernel) (acons (vv 3) anil)) anil))) anil)))) (wor1 (tcmp (op_eqD hr.units) opv_eq (vv 6) (vop op_repT' opv_repT (vtup (acons vint anil)) (vcb call_len cv_len T.len_ (by decide +kernel) (acons (vv 6) anil)))))))
  (sone (sret vbl))
  snil)
  (scons (sif (L2.PW.pt (wand (tcmp (op_neD hr.units) opv_ne (vv 5) (vtup anil)) (wand1 (tcmp (op_eqD hr.units) opv_eq (vix ix_seq opv_ix (vv 5) (vneg vint)) (vix ix_seq opv_ix (vv 6) (vneg vint))))))
  (sone (sret vbl))
  snil)
  (scons (sfor rfl (irng2 T.range_ (acons vint (acons (vcb call_len cv_len T.len_ (by decide +kernel) (acons (vv 6) anil)) anil))) (gset (i := 4) sc__law_is_right.nd)
  (sone (sif (L2.PW.pt (wand (tcmp (op_eqD hr.units) opv_eq (vop op_modN (opv_I fun _ _ _ => .int _) (vct call_int1 cv_int T.int_ (by decide +kernel) (acons (vcb call_len cv_len T.len_ (by decide +kernel) (acons (vv 6) anil)) anil)) (vv 4)) vint) (wand1 (tcmp (op_eqD hr.units) opv_eq (vv 6) (vop op_repT' opv_repT (vsl (vv 6) onone (osome (vv 4))) (vop op_fdiv' (opv_I fun _ _ _ => .int _) (vcb call_len cv_len T.len_ (by decide +kernel) (acons (vv 6) anil)) (vv 4)))))))
  (sone (sret vbl))
  snil)) PassesOwn.never)
  (sone (sret vbl))))))))
abbrev s__law_same : Stmt := topS 28
theorem sc__law_same : FnScope ["found", "due", "at"] ["found", "due"] (defScope s__law_same) := ⟨rfl, rfl, rfl, by decide +kernel, rfl, by decide +kernel, by decide +kernel⟩
def t__law_same (j : Nat) : WS :=
  (wSeq (wIfS (wTest (wIsi2 "tuple" "list" (wVar 1)))
  (wSeq (wIfS (wOrT (wTest (wOp oNe (wIsi "tuple" (wVar 0)) (wIsi "tuple" (wVar 1)))) (wTest (wOp oNe (wIsi "list" (wVar 0)) (wIsi "list" (wVar 1)))))
  (wRet (wC (.bool false)))
  wNext)
  (wSeq (wIfS (wTest (wOp oNe (wCB oLen (wCons (wVar 0) wNil)) (wCB oLen (wCons (wVar 1) wNil))))
  (wRet (wC (.bool false)))
  wNext)
  (wRet (wOp oEq (wStay (wLc (wRng1 (wCons (wCB oLen (wCons (wVar 1) wNil)) wNil)) (wSet 2) (wNotT (wTest (wCall 2 (S__law_same j) (wCons (wOp itemD (wVar 0) (wVar 2)) (wCons (wOp itemD (wVar 1) (wVar 2)) wNil))))) (wVar 2) [2])) (wStay (wLst wNil))))))
  wNext)
  (wSeq (wIfS (wTest (wOp (oIsN false) (wVar 1) (wC .none)))
  (wRet (wOp (oIsN false) (wVar 0) (wC .none)))
  wNext)
  (wSeq (wIfS (wTest (wIsi "str" (wVar 1)))
  (wRet (wAnd (wIsi "str" (wVar 0)) (wOp oEq (wVar 0) (wVar 1))))
  wNext)
  (wSeq (wIfS (wOrT (wTest (wIsi "bool" (wVar 1))) (wTest (wIsi "bool" (wVar 0))))
  (wRet (wAnd (wIsi "bool" (wVar 1)) (wAnd (wIsi "bool" (wVar 0)) (wOp oEq (wVar 0) (wVar 1)))))
  wNext)
  (wRet (wAnd (wIsi "int" (wVar 0)) (wOp oEq (wVar 0) (wVar 1))))))))
theorem d__law_same {j : Nat} {f__law_same_ : Addr} {cdv : Value} {A : Around} {outer : List PySem.Env} {s : Shared} {H : Hp} {E : XK} {as : List (Option V)} (T : Tx mg) {f__law_same : Addr} {fd__law_same : FuncData} (c__law_same : FOk P w K ts mg base (1 + j) 2 "_law_same" f__law_same fd__law_same ["found", "due"] (S__law_same j)) (hr : Room (1 + j) (A.deeper (envOfC "_law_same" (defScope s__law_same) s.heap.objs.size f__law_same_ cdv))) :
    PSs (cxOf CX0 P w K mg base ["found", "due", "at"] "_law_same" (defScope s__law_same) f__law_same_ cdv A outer s H E).nox (defBody s__law_same) (upS K (as, ts) (t__law_same j)) :=
  (scons (sif (tval (visi2 T.isinstance T.tuple_ (by decide +kernel) T.list_ (by decide +kernel) (vv 1)))
  (scons (sif (L2.PW.pt (wor (tcmp (op_neD hr.units) opv_ne (visi T.isinstance T.tuple_ (by decide +kernel) (vv 0)) (visi T.isinstance T.tuple_ (by decide +kernel) (vv 1))) (wor1 (tcmp (op_neD hr.units) opv_ne (visi T.isinstance T.list_ (by decide +kernel) (vv 0)) (visi T.isinstance T.list_ (by decide +kernel) (vv 1))))))
  (sone (sret vbl))
  snil)
  (scons (sif (tcmp (op_neD hr.units) opv_ne (vcb call_len cv_len T.len_ (by decide +kernel) (acons (vv 0) anil)) (vcb call_len cv_len T.len_ (by decide +kernel) (acons (vv 1) anil)))
  (sone (sret vbl))
  snil)
  (sone (sret (vcmp (op_eqD hr.units) opv_eq (vstay (vlc [("at", 2)] rfl (sc__law_same.nd) (irng1 T.range_ (acons (vcb call_len cv_len T.len_ (by decide +kernel) (acons (vv 1) anil)) anil)) (fun _ _ _ _ _ => (gup (gset (i := 2) sc__law_same.nd))) (fun _ _ _ _ _ => (tsone (tnot (tval (vcall ⟨c__law_same.fn, c__law_same.g, c__law_same.kp, c__law_same.b⟩ hr (acons (vix ix_seq opv_ix (vv 0) (vv 2)) (acons (vix ix_seq opv_ix (vv 1) (vv 2)) anil))))))) (fun _ _ _ _ _ => (vv 2)) (blkOk_by (N := ["found", "due", "at"]) (sc := defScope s__law_same) (by decide +kernel)) (by decide))) (vstay (vlst anil)))))))
  snil)
  (scons (sif (tcmp op_isN opv_isN (vv 1) vnon)
  (sone (sret (vcmp op_isN opv_isN (vv 0) vnon)))
  snil)
  (scons (sif (tval (visi T.isinstance T.str_ (by decide +kernel) (vv 1)))
  (sone (sret (vand (visi T.isinstance T.str_ (by decide +kernel) (vv 0)) (vone (vcmp (op_eqD hr.units) opv_eq (vv 0) (vv 1))))))
  snil)
  (scons (sif (L2.PW.pt (wor (tval (visi T.isinstance T.bool_ (by decide +kernel) (vv 1))) (wor1 (tval (visi T.isinstance T.bool_ (by decide +kernel) (vv 0))))))
  (sone (sret (vand (visi T.isinstance T.bool_ (by decide +kernel) (vv 1)) (vand (visi T.isinstance T.bool_ (by decide +kernel) (vv 0)) (vone (vcmp (op_eqD hr.units) opv_eq (vv 0) (vv 1)))))))
  snil)
  (sone (sret (vand (visi T.isinstance T.int_ (by decide +kernel) (vv 0)) (vone (vcmp (op_eqD hr.units) opv_eq (vv 0) (vv 1))))))))))
abbrev s_is_integer : Stmt := topS 6
theorem sc_is_integer : FnScope ["told"] ["told"] (defScope s_is_integer) := ⟨rfl, rfl, rfl, by decide +kernel, rfl, by decide +kernel, by decide +kernel⟩
def t_is_integer : WS :=
  (wRet (wAnd (wIsi "int" (wVar 0)) (wNot (wIsi "bool" (wVar 0)))))
theorem d_is_integer {f_is_integer_ : Addr} {cdv : Value} {A : Around} {outer : List PySem.Env} {s : Shared} {H : Hp} {E : XK} {as : List (Option V)} (T : Tx mg) (hr : Room 0 (A.deeper (envOfC "is_integer" (defScope s_is_integer) s.heap.objs.size f_is_integer_ cdv))) :
    PSs (cxOf CX0 P w K mg base ["told"] "is_integer" (defScope s_is_integer) f_is_integer_ cdv A outer s H E).nox (defBody s_is_integer) (upS K (as, ts) t_is_integer) :=
  (sone (sret (vand (visi T.isinstance T.int_ (by decide +kernel) (vv 0)) (vone (vnot (visi T.isinstance T.bool_ (by decide +kernel) (vv 0)))))))
abbrev s_is_integer_from : Stmt := topS 7
theorem sc_is_integer_from : FnScope ["told", "least"] ["told", "least"] (defScope s_is_integer_from) := ⟨rfl, rfl, rfl, by decide +kernel, rfl, by decide +kernel, by decide +kernel⟩
def t_is_integer_from : WS :=
  (wRet (wAnd (wCall 1 S_is_integer (wCons (wVar 0) wNil)) (wOp oGe (wVar 0) (wVar 1))))
theorem d_is_integer_from {f_is_integer_from_ : Addr} {cdv : Value} {A : Around} {outer : List PySem.Env} {s : Shared} {H : Hp} {E : XK} {as : List (Option V)} (T : Tx mg) {f_is_integer : Addr} {fd_is_integer : FuncData} (c_is_integer : FOk P w K ts mg base 1 1 "is_integer" f_is_integer fd_is_integer ["told"] S_is_integer) (hr : Room 1 (A.deeper (envOfC "is_integer_from" (defScope s_is_integer_from) s.heap.objs.size f_is_integer_from_ cdv))) :
    PSs (cxOf CX0 P w K mg base ["told", "least"] "is_integer_from" (defScope s_is_integer_from) f_is_integer_from_ cdv A outer s H E).nox (defBody s_is_integer_from) (upS K (as, ts) t_is_integer_from) :=
  (sone (sret (vand (vcall ⟨c_is_integer.fn, c_is_integer.g, c_is_integer.kp, c_is_integer.b⟩ hr (acons (vv 0) anil)) (vone (vcmp op_ge (opv_I0 fun _ _ _ => .bl _) (vv 0) (vv 1))))))
abbrev s_lowest : Stmt := topS 8
theorem sc_lowest : FnScope ["top", "bottom", "common"] ["top", "bottom"] (defScope s_lowest) := ⟨rfl, rfl, rfl, by decide +kernel, rfl, by decide +kernel, by decide +kernel⟩
def t_lowest : WS :=
  (wSeq (wAsg (wCB oGcd (wCons (wVar 0) (wCons (wVar 1) wNil))) (wSet 2))
  (wRet (wTup (wCons (wOp oFdiv (wVar 0) (wVar 2)) (wCons (wOp oFdiv (wVar 1) (wVar 2)) wNil)))))
theorem d_lowest {f_lowest_ : Addr} {cdv : Value} {A : Around} {outer : List PySem.Env} {s : Shared} {H : Hp} {E : XK} {as : List (Option V)} (T : Tx mg) (hr : Room 0 (A.deeper (envOfC "lowest" (defScope s_lowest) s.heap.objs.size f_lowest_ cdv))) :
    PSs (cxOf CX0 P w K mg base ["top", "bottom", "common"] "lowest" (defScope s_lowest) f_lowest_ cdv A outer s H E).nox (defBody s_lowest) (upS K (as, ts) t_lowest) :=
  (scons (sset (i := 2) sc_lowest.nd (vcm cr_gcd (cv_i2 fun _ _ _ => .int _) T.gcd (acons (vv 0) (acons (vv 1) anil))))
  (sone (sret (vtup (acons (vop op_fdiv' (opv_I fun _ _ _ => .int _) (vv 0) (vv 2)) (acons (vop op_fdiv' (opv_I fun _ _ _ => .int _) (vv 1) (vv 2)) anil))))))
abbrev s_is_number : Stmt := topS 10
theorem sc_is_number : FnScope ["told", "top", "bottom"] ["told"] (defScope s_is_number) := ⟨rfl, rfl, rfl, by decide +kernel, rfl, by decide +kernel, by decide +kernel⟩
def t_is_number : WS :=
  (wSeq (wIfS (wOrT (wNotT (wTest (wIsi "tuple" (wVar 0)))) (wTest (wOp oNe (wCB oLen (wCons (wVar 0) wNil)) (wC (.int 2)))))
  (wRet (wC (.bool false)))
  wNext)
  (wSeq (wAsg (wVar 0) (wGt [(wSet 1), (wSet 2)]))
  (wRet (wAnd (wCall 1 S_is_integer (wCons (wVar 1) wNil)) (wAnd (wCall 2 S_is_integer_from (wCons (wVar 2) (wCons (wC (.int 1)) wNil))) (wOp oEq (wCall 2 S_lowest (wCons (wVar 1) (wCons (wVar 2) wNil))) (wVar 0)))))))
theorem d_is_number {f_is_number_ : Addr} {cdv : Value} {A : Around} {outer : List PySem.Env} {s : Shared} {H : Hp} {E : XK} {as : List (Option V)} (T : Tx mg) {f_is_integer : Addr} {fd_is_integer : FuncData} (c_is_integer : FOk P w K ts mg base 1 1 "is_integer" f_is_integer fd_is_integer ["told"] S_is_integer) {f_is_integer_from : Addr} {fd_is_integer_from : FuncData} (c_is_integer_from : FOk P w K ts mg base 2 2 "is_integer_from" f_is_integer_from fd_is_integer_from ["told", "least"] S_is_integer_from) {f_lowest : Addr} {fd_lowest : FuncData} (c_lowest : FOk P w K ts mg base 1 2 "lowest" f_lowest fd_lowest ["top", "bottom"] S_lowest) (hr : Room 2 (A.deeper (envOfC "is_number" (defScope s_is_number) s.heap.objs.size f_is_number_ cdv))) :
    PSs (cxOf CX0 P w K mg base ["told", "top", "bottom"] "is_number" (defScope s_is_number) f_is_number_ cdv A outer s H E).nox (defBody s_is_number) (upS K (as, ts) t_is_number) :=
  (scons (sif (L2.PW.pt (wor (tnot (tval (visi T.isinstance T.tuple_ (by decide +kernel) (vv 0)))) (wor1 (tcmp (op_neD hr.units) opv_ne (vcb call_len cv_len T.len_ (by decide +kernel) (acons (vv 0) anil)) vint))))
  (sone (sret vbl))
  snil)
  (scons (sasg (vv 0) (gtup rfl (gcons (gset (i := 1) sc_is_number.nd) (gcons (gset (i := 2) sc_is_number.nd) gnil))))
  (sone (sret (vand (vcall ⟨c_is_integer.fn, c_is_integer.g, c_is_integer.kp, c_is_integer.b⟩ (hr.mono (by decide)) (acons (vv 1) anil)) (vand (vcall ⟨c_is_integer_from.fn, c_is_integer_from.g, c_is_integer_from.kp, c_is_integer_from.b⟩ hr (acons (vv 2) (acons vint anil))) (vone (vcmp (op_eqD hr.units) opv_eq (vcall ⟨c_lowest.fn, c_lowest.g, c_lowest.kp, c_lowest.b⟩ (hr.mono (by decide)) (acons (vv 1) (acons (vv 2) anil))) (vv 0)))))))))
abbrev s_check_number : Stmt := topS 13
theorem sc_check_number : FnScope ["number"] ["number"] (defScope s_check_number) := ⟨rfl, rfl, rfl, by decide +kernel, rfl, by decide +kernel, by decide +kernel⟩
def t_check_number : WS :=
  (wIfS (wOrT (wNotT (wTest (wCall 1 S_is_number (wCons (wVar 0) wNil)))) (wNotT (wTest (wChain oLe oLe (wC (.int 0)) (wOp itemD (wVar 0) (wC (.int 0))) (wOp itemD (wVar 0) (wC (.int 1)))))))
  wNever
  wNext)
theorem d_check_number {f_check_number_ : Addr} {cdv : Value} {A : Around} {outer : List PySem.Env} {s : Shared} {H : Hp} {E : XK} {as : List (Option V)} (T : Tx mg) {f_is_number : Addr} {fd_is_number : FuncData} (c_is_number : FOk P w K ts mg base 3 1 "is_number" f_is_number fd_is_number ["told"] S_is_number) (hr : Room 3 (A.deeper (envOfC "check_number" (defScope s_check_number) s.heap.objs.size f_check_number_ cdv))) :
    PSs (cxOf CX0 P w K mg base ["number"] "check_number" (defScope s_check_number) f_check_number_ cdv A outer s H E).nox (defBody s_check_number) (upS K (as, ts) t_check_number) :=
  (sone (sif (L2.PW.pt (wor (tnot (tval (vcall ⟨c_is_number.fn, c_is_number.g, c_is_number.kp, c_is_number.b⟩ hr (acons (vv 0) anil)))) (wor1 (tnot (tchain op_le (opv_I0 fun _ _ _ => .bl _) op_le (opv_I0 fun _ _ _ => .bl _) vint (vix ix_seq opv_ix (vv 0) vint) (vix ix_seq opv_ix (vv 0) vint))))))
  (sone snever)
  snil))
abbrev s_tails_of : Stmt := topS 14
theorem sc_tails_of : FnScope ["number", "tops", "places", "start", "top", "bottom"] ["number"] (defScope s_tails_of) := ⟨rfl, rfl, rfl, by decide +kernel, rfl, by decide +kernel, by decide +kernel⟩
def t_tails_of : WS :=
  (wSeq (wAsg (wVar 0) (wGt [(wSet 4), (wSet 5)]))
  (wSeq (wNew (wLst wNil) 1)
  (wSeq (wDnew 2)
  (wSeq (wWhile (wDnin 2 (wVar 4))
  (wSeq (wDput 2 (wVar 4) (wCB oLen (wCons (wVar 1) wNil)))
  (wSeq (wApp 1 (wVar 4))
  (wAsg (wOp oMul (wOp oMod (wVar 4) (wVar 5)) (wC (.int 2))) (wSet 4)))))
  (wSeq (wAsg (wDget 2 (wVar 4)) (wSet 3))
  (wRet (wTup (wCons (wSl (wVar 1) wNoPart (wPart (wVar 3))) (wCons (wSl (wVar 1) (wPart (wVar 3)) wNoPart) wNil)))))))))
theorem d_tails_of {f_tails_of_ : Addr} {cdv : Value} {A : Around} {outer : List PySem.Env} {s : Shared} {H : Hp} {E : XK} {as : List (Option V)} (T : Tx mg) (hr : Room 0 (A.deeper (envOfC "tails_of" (defScope s_tails_of) s.heap.objs.size f_tails_of_ cdv))) :
    PSs (cxOf CX0 P w K mg base ["number", "tops", "places", "start", "top", "bottom"] "tails_of" (defScope s_tails_of) f_tails_of_ cdv A outer s H E).nox (defBody s_tails_of) (upS K (as, ts) t_tails_of) :=
  (scons (sasg (vv 0) (gtup rfl (gcons (gset (i := 4) sc_tails_of.nd) (gcons (gset (i := 5) sc_tails_of.nd) gnil))))
  (scons (snew (i := 1) sc_tails_of.nd (vlst anil))
  (scons (sdnew (i := 2) sc_tails_of.nd)
  (scons (swhile PassesOwn.never (tdnin 2 (hu_of hr) (vv 4))
  (scons (sdput 2 (hu_of hr) (vv 4) (vcb call_len cv_len T.len_ (by decide +kernel) (acons (vv 1) anil)))
  (scons (sapp 1 (vv 4))
  (sone (sset (i := 4) sc_tails_of.nd (vop op_mul' (opv_I fun _ _ _ => .int _) (vop op_modN (opv_I fun _ _ _ => .int _) (vv 4) (vv 5)) vint))))))
  (scons (sset (i := 3) sc_tails_of.nd (vdget 2 (hu_of hr) (vv 4)))
  (sone (sret (vtup (acons (vsl (vv 1) onone (osome (vv 3))) (acons (vsl (vv 1) (osome (vv 3)) onone) anil))))))))))
abbrev s_figures : Stmt := topS 12
theorem sc_figures : FnScope ["number", "bottom", "ahead", "again", "top"] ["number"] (defScope s_figures) := ⟨rfl, rfl, rfl, by decide +kernel, rfl, by decide +kernel, by decide +kernel⟩
def t_figures : WS :=
  (wSeq (wDrop (wCall 1 S_check_number (wCons (wVar 0) wNil)))
  (wSeq (wAsg (wOp itemD (wVar 0) (wC (.int 1))) (wSet 1))
  (wSeq (wAsg (wCall 1 S_tails_of (wCons (wVar 0) wNil)) (wGt [(wSet 2), (wSet 3)]))
  (wRet (wTup (wCons (wGTup (wSeqOf (wVar 2)) (wSet 4) wYes (wOp oFdiv (wVar 4) (wVar 1)) [4]) (wCons (wGTup (wSeqOf (wVar 3)) (wSet 4) wYes (wOp oFdiv (wVar 4) (wVar 1)) [4]) wNil)))))))
theorem d_figures {f_figures_ : Addr} {cdv : Value} {A : Around} {outer : List PySem.Env} {s : Shared} {H : Hp} {E : XK} {as : List (Option V)} (T : Tx mg) {c_ P_ : Addr} (G : GxD base mg ts cdv c_ P_) {f_check_number : Addr} {fd_check_number : FuncData} (c_check_number : FOk P w K ts mg base 4 1 "check_number" f_check_number fd_check_number ["number"] S_check_number) {f_tails_of : Addr} {fd_tails_of : FuncData} (c_tails_of : FOk P w K ts mg base 1 1 "tails_of" f_tails_of fd_tails_of ["number"] S_tails_of) (hr : Room 4 (A.deeper (envOfC "figures" (defScope s_figures) s.heap.objs.size f_figures_ cdv))) :
    PSs (cxOf CX0 P w K mg base ["number", "bottom", "ahead", "again", "top"] "figures" (defScope s_figures) f_figures_ cdv A outer s H E).nox (defBody s_figures) (upS K (as, ts) t_figures) :=
  (scons (sdrop (vcall ⟨c_check_number.fn, c_check_number.g, c_check_number.kp, c_check_number.b⟩ hr (acons (vv 0) anil)))
  (scons (sset (i := 1) sc_figures.nd (vix ix_seq opv_ix (vv 0) vint))
  (scons (sasg (vcall ⟨c_tails_of.fn, c_tails_of.g, c_tails_of.kp, c_tails_of.b⟩ (hr.mono (by decide)) (acons (vv 0) anil)) (gtup rfl (gcons (gset (i := 2) sc_figures.nd) (gcons (gset (i := 3) sc_figures.nd) gnil))))
  (sone (sret (vtup (acons (vgtup (k := 2) [("top", 4)] T.tuple_ rfl sc_figures.nd hr ⟨G.hP, G.TB, G.hc⟩ (iseq (vv 2)) (fun _ _ _ _ _ _ _ _ => (gup (gset (i := 4) sc_figures.nd))) (fun _ _ _ _ _ _ _ _ hr => tsnil) (fun _ _ _ _ _ _ _ _ hr => (vop op_fdiv' (opv_I fun _ _ _ => .int _) (vv 4) (vv 1))) (blkOk_by (N := ["number", "bottom", "ahead", "again", "top"]) (sc := defScope s_figures) (by decide +kernel)) (by decide +kernel) (by decide)) (acons (vgtup (k := 2) [("top", 4)] T.tuple_ rfl sc_figures.nd hr ⟨G.hP, G.TB, G.hc⟩ (iseq (vv 3)) (fun _ _ _ _ _ _ _ _ => (gup (gset (i := 4) sc_figures.nd))) (fun _ _ _ _ _ _ _ _ hr => tsnil) (fun _ _ _ _ _ _ _ _ hr => (vop op_fdiv' (opv_I fun _ _ _ => .int _) (vv 4) (vv 1))) (blkOk_by (N := ["number", "bottom", "ahead", "again", "top"]) (sc := defScope s_figures) (by decide +kernel)) (by decide +kernel) (by decide)) anil))))))))
abbrev s_in_base_two : Stmt := topS 19
theorem sc_in_base_two : FnScope ["row", "found", "part"] ["row"] (defScope s_in_base_two) := ⟨rfl, rfl, rfl, by decide +kernel, rfl, by decide +kernel, by decide +kernel⟩
def t_in_base_two : WS :=
  (wSeq (wAsg (wC (.int 0)) (wSet 1))
  (wSeq (wFor (wSeqOf (wVar 0)) (wSet 2)
  (wAsg (wOp oAdd (wOp oMul (wC (.int 2)) (wVar 1)) (wVar 2)) (wSet 1)))
  (wRet (wVar 1))))
theorem d_in_base_two {f_in_base_two_ : Addr} {cdv : Value} {A : Around} {outer : List PySem.Env} {s : Shared} {H : Hp} {E : XK} {as : List (Option V)} (T : Tx mg) (hr : Room 0 (A.deeper (envOfC "in_base_two" (defScope s_in_base_two) s.heap.objs.size f_in_base_two_ cdv))) :
    PSs (cxOf CX0 P w K mg base ["row", "found", "part"] "in_base_two" (defScope s_in_base_two) f_in_base_two_ cdv A outer s H E).nox (defBody s_in_base_two) (upS K (as, ts) t_in_base_two) :=
  (scons (sset (i := 1) sc_in_base_two.nd vint)
  (scons (sfor rfl (iseq (vv 0)) (gset (i := 2) sc_in_base_two.nd)
  (sone (sset (i := 1) sc_in_base_two.nd (vop op_add' opv_add (vop op_mul' (opv_I fun _ _ _ => .int _) vint (vv 1)) (vv 2)))) PassesOwn.never)
  (sone (sret (vv 1)))))
abbrev s_sum_of_row : Stmt := topS 18
theorem sc_sum_of_row : FnScope ["ahead", "again", "repeats", "top"] ["ahead", "again"] (defScope s_sum_of_row) := ⟨rfl, rfl, rfl, by decide +kernel, rfl, by decide +kernel, by decide +kernel⟩
def t_sum_of_row : WS :=
  (wSeq (wAsg (wOp oSub (wOp oShl' (wC (.int 1)) (wCB oLen (wCons (wVar 1) wNil))) (wC (.int 1))) (wSet 2))
  (wSeq (wAsg (wOp oAdd (wOp oMul (wCall 1 S_in_base_two (wCons (wVar 0) wNil)) (wVar 2)) (wCall 1 S_in_base_two (wCons (wVar 1) wNil))) (wSet 3))
  (wRet (wCall 2 S_lowest (wCons (wOp oMul (wC (.int 2)) (wVar 3)) (wCons (wOp oShl' (wVar 2) (wCB oLen (wCons (wVar 0) wNil))) wNil))))))
theorem d_sum_of_row {f_sum_of_row_ : Addr} {cdv : Value} {A : Around} {outer : List PySem.Env} {s : Shared} {H : Hp} {E : XK} {as : List (Option V)} (T : Tx mg) {f_lowest : Addr} {fd_lowest : FuncData} (c_lowest : FOk P w K ts mg base 1 2 "lowest" f_lowest fd_lowest ["top", "bottom"] S_lowest) {f_in_base_two : Addr} {fd_in_base_two : FuncData} (c_in_base_two : FOk P w K ts mg base 1 1 "in_base_two" f_in_base_two fd_in_base_two ["row"] S_in_base_two) (hr : Room 1 (A.deeper (envOfC "sum_of_row" (defScope s_sum_of_row) s.heap.objs.size f_sum_of_row_ cdv))) :
    PSs (cxOf CX0 P w K mg base ["ahead", "again", "repeats", "top"] "sum_of_row" (defScope s_sum_of_row) f_sum_of_row_ cdv A outer s H E).nox (defBody s_sum_of_row) (upS K (as, ts) t_sum_of_row) :=
  (scons (sset (i := 2) sc_sum_of_row.nd (vop op_sub (opv_I0 fun _ _ _ => .int _) (vop op_shl' (opv_I fun _ _ _ => .int _) vint (vcb call_len cv_len T.len_ (by decide +kernel) (acons (vv 1) anil))) vint))
  (scons (sset (i := 3) sc_sum_of_row.nd (vop op_add' opv_add (vop op_mul' (opv_I fun _ _ _ => .int _) (vcall ⟨c_in_base_two.fn, c_in_base_two.g, c_in_base_two.kp, c_in_base_two.b⟩ hr (acons (vv 0) anil)) (vv 2)) (vcall ⟨c_in_base_two.fn, c_in_base_two.g, c_in_base_two.kp, c_in_base_two.b⟩ hr (acons (vv 1) anil))))
  (sone (sret (vcall ⟨c_lowest.fn, c_lowest.g, c_lowest.kp, c_lowest.b⟩ hr (acons (vop op_mul' (opv_I fun _ _ _ => .int _) vint (vv 3)) (acons (vop op_shl' (opv_I fun _ _ _ => .int _) (vv 2) (vcb call_len cv_len T.len_ (by decide +kernel) (acons (vv 0) anil))) anil)))))))
abbrev s_is_signs : Stmt := topS 17
theorem sc_is_signs : FnScope ["told", "sign"] ["told"] (defScope s_is_signs) := ⟨rfl, rfl, rfl, by decide +kernel, rfl, by decide +kernel, by decide +kernel⟩
def t_is_signs : WS :=
  (wRet (wAnd (wIsi "tuple" (wVar 0)) (wGAll (wSeqOf (wVar 0)) (wSet 1) wYes (wAnd (wCall 2 S_is_integer_from (wCons (wVar 1) (wCons (wC (.int 0)) wNil))) (wOp oLe (wVar 1) (wC (.int 1)))) [1])))
theorem d_is_signs {f_is_signs_ : Addr} {cdv : Value} {A : Around} {outer : List PySem.Env} {s : Shared} {H : Hp} {E : XK} {as : List (Option V)} (T : Tx mg) {c_ P_ : Addr} (G : GxD base mg ts cdv c_ P_) {f_is_integer_from : Addr} {fd_is_integer_from : FuncData} (c_is_integer_from : FOk P w K ts mg base 2 2 "is_integer_from" f_is_integer_from fd_is_integer_from ["told", "least"] S_is_integer_from) (hr : Room 4 (A.deeper (envOfC "is_signs" (defScope s_is_signs) s.heap.objs.size f_is_signs_ cdv))) :
    PSs (cxOf CX0 P w K mg base ["told", "sign"] "is_signs" (defScope s_is_signs) f_is_signs_ cdv A outer s H E).nox (defBody s_is_signs) (upS K (as, ts) t_is_signs) :=
  (sone (sret (vand (visi T.isinstance T.tuple_ (by decide +kernel) (vv 0)) (vone (vgall (k := 2) [("sign", 1)] T.all_ rfl sc_is_signs.nd hr ⟨G.hP, G.TB, G.hc⟩ (iseq (vv 0)) (fun _ _ _ _ _ _ _ _ => (gup (gset (i := 1) sc_is_signs.nd))) (fun _ _ _ _ _ _ _ _ hr => tsnil) (fun _ _ _ _ _ _ _ _ hr => (vand (vcall ⟨c_is_integer_from.fn, c_is_integer_from.g, c_is_integer_from.kp, c_is_integer_from.b⟩ hr (acons (vv 1) (acons vint anil))) (vone (vcmp op_le (opv_I0 fun _ _ _ => .bl _) (vv 1) vint)))) (blkOk_by (N := ["told", "sign"]) (sc := defScope s_is_signs) (by decide +kernel)) (by decide +kernel) (by decide))))))
abbrev s_is_figures : Stmt := topS 16
theorem sc_is_figures : FnScope ["told"] ["told"] (defScope s_is_figures) := ⟨rfl, rfl, rfl, by decide +kernel, rfl, by decide +kernel, by decide +kernel⟩
def t_is_figures : WS :=
  (wSeq (wIfS (wOrT (wNotT (wTest (wIsi "tuple" (wVar 0)))) (wTest (wOp oNe (wCB oLen (wCons (wVar 0) wNil)) (wC (.int 2)))))
  (wRet (wC (.bool false)))
  wNext)
  (wRet (wAnd (wCall 1 S_is_signs (wCons (wOp itemD (wVar 0) (wC (.int 0))) wNil)) (wAnd (wCall 1 S_is_signs (wCons (wOp itemD (wVar 0) (wC (.int 1))) wNil)) (wOp oGt (wCB oLen (wCons (wOp itemD (wVar 0) (wC (.int 1))) wNil)) (wC (.int 0)))))))
theorem d_is_figures {f_is_figures_ : Addr} {cdv : Value} {A : Around} {outer : List PySem.Env} {s : Shared} {H : Hp} {E : XK} {as : List (Option V)} (T : Tx mg) {f_is_signs : Addr} {fd_is_signs : FuncData} (c_is_signs : FOk P w K ts mg base 5 1 "is_signs" f_is_signs fd_is_signs ["told"] S_is_signs) (hr : Room 5 (A.deeper (envOfC "is_figures" (defScope s_is_figures) s.heap.objs.size f_is_figures_ cdv))) :
    PSs (cxOf CX0 P w K mg base ["told"] "is_figures" (defScope s_is_figures) f_is_figures_ cdv A outer s H E).nox (defBody s_is_figures) (upS K (as, ts) t_is_figures) :=
  (scons (sif (L2.PW.pt (wor (tnot (tval (visi T.isinstance T.tuple_ (by decide +kernel) (vv 0)))) (wor1 (tcmp (op_neD hr.units) opv_ne (vcb call_len cv_len T.len_ (by decide +kernel) (acons (vv 0) anil)) vint))))
  (sone (sret vbl))
  snil)
  (sone (sret (vand (vcall ⟨c_is_signs.fn, c_is_signs.g, c_is_signs.kp, c_is_signs.b⟩ hr (acons (vix ix_seq opv_ix (vv 0) vint) anil)) (vand (vcall ⟨c_is_signs.fn, c_is_signs.g, c_is_signs.kp, c_is_signs.b⟩ hr (acons (vix ix_seq opv_ix (vv 0) vint) anil)) (vone (vcmp op_gt (opv_I0 fun _ _ _ => .bl _) (vcb call_len cv_len T.len_ (by decide +kernel) (acons (vix ix_seq opv_ix (vv 0) vint) anil)) vint)))))))
abbrev s_number : Stmt := topS 15
theorem sc_number : FnScope ["told", "found"] ["told"] (defScope s_number) := ⟨rfl, rfl, rfl, by decide +kernel, rfl, by decide +kernel, by decide +kernel⟩
def t_number : WS :=
  (wSeq (wIfS (wNotT (wTest (wCall 1 S_is_figures (wCons (wVar 0) wNil))))
  wNever
  wNext)
  (wSeq (wAsg (wCall 2 S_sum_of_row (wCons (wOp itemD (wVar 0) (wC (.int 0))) (wCons (wOp itemD (wVar 0) (wC (.int 1))) wNil))) (wSet 1))
  (wSeq (wIfS (wTest (wOp oGt (wOp itemD (wVar 1) (wC (.int 0))) (wOp itemD (wVar 1) (wC (.int 1)))))
  wNever
  wNext)
  (wRet (wVar 1)))))
theorem d_number {f_number_ : Addr} {cdv : Value} {A : Around} {outer : List PySem.Env} {s : Shared} {H : Hp} {E : XK} {as : List (Option V)} (T : Tx mg) {f_sum_of_row : Addr} {fd_sum_of_row : FuncData} (c_sum_of_row : FOk P w K ts mg base 2 2 "sum_of_row" f_sum_of_row fd_sum_of_row ["ahead", "again"] S_sum_of_row) {f_is_figures : Addr} {fd_is_figures : FuncData} (c_is_figures : FOk P w K ts mg base 6 1 "is_figures" f_is_figures fd_is_figures ["told"] S_is_figures) (hr : Room 6 (A.deeper (envOfC "number" (defScope s_number) s.heap.objs.size f_number_ cdv))) :
    PSs (cxOf CX0 P w K mg base ["told", "found"] "number" (defScope s_number) f_number_ cdv A outer s H E).nox (defBody s_number) (upS K (as, ts) t_number) :=
  (scons (sif (tnot (tval (vcall ⟨c_is_figures.fn, c_is_figures.g, c_is_figures.kp, c_is_figures.b⟩ hr (acons (vv 0) anil))))
  (sone snever)
  snil)
  (scons (sset (i := 1) sc_number.nd (vcall ⟨c_sum_of_row.fn, c_sum_of_row.g, c_sum_of_row.kp, c_sum_of_row.b⟩ (hr.mono (by decide)) (acons (vix ix_seq opv_ix (vv 0) vint) (acons (vix ix_seq opv_ix (vv 0) vint) anil))))
  (scons (sif (tcmp op_gt (opv_I0 fun _ _ _ => .bl _) (vix ix_seq opv_ix (vv 1) vint) (vix ix_seq opv_ix (vv 1) vint))
  (sone snever)
  snil)
  (sone (sret (vv 1))))))
abbrev s_law : Stmt := topS 34
theorem sc_law : FnScope ["script", "at", "deck", "turn", "u", "due"] ["script"] (defScope s_law) := ⟨rfl, rfl, rfl, by decide +kernel, rfl, by decide +kernel, by decide +kernel⟩
def t_law : WS :=
  (wSeq (wFor (wRng1 (wCons (wCB oMax2 (wCons (wC (.int 2)) (wCons (wCB oMin2 (wCons (wCB oLen (wCons (wVar 0) wNil)) (wCons (wC (.int 12)) wNil))) wNil))) wNil)) (wSet 1)
  (wSeq (wNew (wCallN 2 S__law_deck (wCons (wVar 0) (wCons (wVar 1) wNil))) 2)
  (wFor (wRng1 (wCons (wC (.int 4)) wNil)) (wSet 3)
  (wSeq (wAsg (wCallIo 2 S__law_drawn_number (wCons (wVar 2) (wCons (wC (.int 200)) wNil))) (wSet 4))
  (wSeq (wAsg (wCall 1 S__law_due (wCons (wVar 4) wNil)) (wSet 5))
  (wSeq (wIfS (wNotT (wTest (wCall 2 S__law_is_right (wCons (wVar 4) (wCons (wVar 5) wNil)))))
  (wRet (wC (.bool false)))
  wNext)
  (wIfS (wNotT (wTest (wCall 2 (S__law_same 8) (wCons (wStay (wLst (wCons (wCall 1 S_figures (wCons (wVar 4) wNil)) (wCons (wCallK 0 1 [0] S_figures wNil (wCons (wVar 4) wNil)) (wCons (wCall 1 S_number (wCons (wVar 5) wNil)) (wCons (wCallK 0 1 [0] S_number wNil (wCons (wVar 5) wNil)) wNil)))))) (wCons (wStay (wLst (wCons (wVar 5) (wCons (wVar 5) (wCons (wVar 4) (wCons (wVar 4) wNil)))))) wNil)))))
  (wRet (wC (.bool false)))
  wNext)))))))
  (wRet (wC (.bool true))))
theorem d_law {f_law_ : Addr} {cdv : Value} {A : Around} {outer : List PySem.Env} {s : Shared} {H : Hp} {E : XK} {as : List (Option V)} (T : Tx mg) {f__law_deck : Addr} {fd__law_deck : FuncData} (c__law_deck : FOk P w K ts mg base 1 2 "_law_deck" f__law_deck fd__law_deck ["script", "at"] S__law_deck) {f__law_drawn_number : Addr} {fd__law_drawn_number : FuncData} (c__law_drawn_number : FOk P w K ts mg base 3 2 "_law_drawn_number" f__law_drawn_number fd__law_drawn_number ["deck", "most"] S__law_drawn_number) {f__law_due : Addr} {fd__law_due : FuncData} (c__law_due : FOk P w K ts mg base 2 1 "_law_due" f__law_due fd__law_due ["u"] S__law_due) {f__law_is_right : Addr} {fd__law_is_right : FuncData} (c__law_is_right : FOk P w K ts mg base 2 2 "_law_is_right" f__law_is_right fd__law_is_right ["u", "due"] S__law_is_right) {f__law_same : Addr} {fd__law_same : FuncData} (c__law_same : FOk P w K ts mg base 9 2 "_law_same" f__law_same fd__law_same ["found", "due"] (S__law_same 8)) {f_figures : Addr} {fd_figures : FuncData} (c_figures : FOk P w K ts mg base 5 1 "figures" f_figures fd_figures ["number"] S_figures) {f_number : Addr} {fd_number : FuncData} (c_number : FOk P w K ts mg base 7 1 "number" f_number fd_number ["told"] S_number) (kw_figures_0_number : KwB K fd_figures ["number"] 0 ["number"] [0]) (kw_number_0_told : KwB K fd_number ["told"] 0 ["told"] [0]) (hr : Room 9 (A.deeper (envOfC "law" (defScope s_law) s.heap.objs.size f_law_ cdv))) :
    PSs (cxOf CX0 P w K mg base ["script", "at", "deck", "turn", "u", "due"] "law" (defScope s_law) f_law_ cdv A outer s H E).nox (defBody s_law) (upS K (as, ts) t_law) :=
  (scons (sfor rfl (irng1 T.range_ (acons (vcb (call_max2 rfl) (cv_i2 fun _ _ _ => .int _) T.max_ (by decide +kernel) (acons vint (acons (vcb (call_min2 rfl) (cv_i2 fun _ _ _ => .int _) T.min_ (by decide +kernel) (acons (vcb call_len cv_len T.len_ (by decide +kernel) (acons (vv 0) anil)) (acons vint anil))) anil))) anil)) (gset (i := 1) sc_law.nd)
  (scons (snew (i := 2) sc_law.nd (vcallN ⟨c__law_deck.fn, c__law_deck.g, c__law_deck.kp, c__law_deck.b⟩ (hr.mono (by decide)) (acons (vv 0) (acons (vv 1) anil))))
  (sone (sfor rfl (irng1 T.range_ (acons vint anil)) (gset (i := 3) sc_law.nd)
  (scons (sset (i := 4) sc_law.nd (vcallIo ⟨c__law_drawn_number.fn, c__law_drawn_number.g, c__law_drawn_number.kp, c__law_drawn_number.b⟩ (hr.mono (by decide)) (acons (vv 2) (acons vint anil))))
  (scons (sset (i := 5) sc_law.nd (vcall ⟨c__law_due.fn, c__law_due.g, c__law_due.kp, c__law_due.b⟩ (hr.mono (by decide)) (acons (vv 4) anil)))
  (scons (sif (tnot (tval (vcall ⟨c__law_is_right.fn, c__law_is_right.g, c__law_is_right.kp, c__law_is_right.b⟩ (hr.mono (by decide)) (acons (vv 4) (acons (vv 5) anil)))))
  (sone (sret vbl))
  snil)
  (sone (sif (tnot (tval (vcall ⟨c__law_same.fn, c__law_same.g, c__law_same.kp, c__law_same.b⟩ hr (acons (vstay (vlst (acons (vcall ⟨c_figures.fn, c_figures.g, c_figures.kp, c_figures.b⟩ (hr.mono (by decide)) (acons (vv 4) anil)) (acons (vcallK0 (pm := [0]) ⟨c_figures.fn, c_figures.g, c_figures.kp, c_figures.b⟩ (hr.mono (by decide)) kw_figures_0_number (akcons (vv 4) aknil)) (acons (vcall ⟨c_number.fn, c_number.g, c_number.kp, c_number.b⟩ (hr.mono (by decide)) (acons (vv 5) anil)) (acons (vcallK0 (pm := [0]) ⟨c_number.fn, c_number.g, c_number.kp, c_number.b⟩ (hr.mono (by decide)) kw_number_0_told (akcons (vv 5) aknil)) anil)))))) (acons (vstay (vlst (acons (vv 5) (acons (vv 5) (acons (vv 4) (acons (vv 4) anil)))))) anil)))))
  (sone (sret vbl))
  snil))))) PassesOwn.never))) PassesOwn.never)
  (sone (sret vbl)))
end
end K03

end

/-! #### K03T -/
section
set_option autoImplicit false
set_option maxRecDepth 100000
set_option maxHeartbeats 2000000
set_option exponentiation.threshold 5000
namespace K03
open PySem PySem.Spec PyProof.Rows L2 VL
theorem h_is_integer (ρ : En) (Q : RV → En → Prop) (h : S_is_integer ρ Q) : t_is_integer (endsV 1 Q) (ρ ++ List.replicate (1 - 1) .un) := by
  obtain ⟨d, rfl, h⟩ := h
  unfold t_is_integer
  cases d <;> (simp only [VL.wSeq, VL.wNext, VL.wNever, VL.wAsg, VL.wSet, VL.wVar, VL.wFrz, VL.wC, VL.wOp, VL.wTest, VL.wNotT, VL.wAndT, VL.wOrT, VL.wAnd, VL.wOr, VL.wNot, VL.wIf, VL.wNil, VL.wCons, VL.wTup, VL.wLst, VL.wStay, VL.wNew, VL.wPar, VL.wAug, VL.wDrop, VL.wRet, VL.wRetN, VL.wRet0, VL.wIfS, VL.wBrk, VL.wCnt, VL.wGt, VL.wGs, VL.wCB, VL.wCBN, VL.wCall, VL.wCallN, VL.wCallIo, VL.wCallIoN, VL.wCallK, VL.wIsi, VL.wIsi2, VL.wApp, VL.wExt, VL.wIns, VL.wSetIt, VL.wNoPart, VL.wPart, VL.wSl, VL.wSlN, VL.wChain, VL.wNeg, VL.wDnew, VL.wDput, VL.wDget, VL.wDin, VL.wDnin, VL.wIndex, VL.wRev, VL.wParNE, VL.wParEN, VL.wPar3, VL.wYes, VL.wSeqOf, VL.wRng1, VL.wRng2, VL.oI, VL.oI0, VL.oLt, VL.oLe, VL.oGt, VL.oGe, VL.oSub, VL.oMul, VL.oFdiv, VL.oMod, VL.oPow, VL.oShl', VL.oAbs, VL.oMax2, VL.oMin2, VL.oGcd, VL.atI_0, VL.atI_1, VL.atI_2, VL.ixN_20, VL.ixN_21, and_assoc, VL.shp_int, VL.shp_bool, VL.shp_none, VL.eqv_int, VL.eqv_bool, VL.isiD, VL.tyD, String.reduceBEq, Bool.not_true, Bool.not_false, Bool.and_true, Bool.and_false, Bool.true_and, Bool.false_and, Bool.or_true, Bool.or_false, Bool.true_or, Bool.false_or, decide_true, decide_false, Bool.not_eq_true', Bool.not_eq_eq_eq_not, decide_eq_true_eq, decide_eq_false_iff_not, VL.oInt1, VL.oInt2, VL.oLen, VL.oToInt, VL.oAdd, VL.oEq, VL.oNe, VL.oIsN, VL.oIn, VL.itemD, VL.isN, VL.der, VL.ders, VL.dats, VL.ioA, VL.endsV, VL.retE, VL.keepC, Option.map, List.range_succ, List.range_zero, List.map_cons, List.map_nil, List.map_append, List.nil_append, List.cons_append, List.append_nil, List.replicate_zero, List.replicate_succ, List.length_cons, List.length_nil, Nat.sub_self, List.getElem?_cons_zero, List.getElem?_cons_succ, List.set_cons_zero, List.set_cons_succ, Option.some.injEq, exists_eq_left', exists_eq_left, exists_eq_right, exists_and_left, exists_and_right, and_true, true_and, CV.d.injEq, CV.loc.injEq, Cell.lst.injEq, Cell.dat.injEq, Cell.dic.injEq, PyData.int.injEq, PyData.bool.injEq, PyData.list.injEq, PyData.tuple.injEq, PyData.str.injEq, reduceCtorEq, false_and, and_false, exists_false, false_or, or_false, if_true, if_false, reduceIte, Bool.false_eq_true, Nat.reduceAdd, Nat.reduceSub, Nat.succ_sub_succ, Nat.zero_add, VL.gP, List.filterMap_cons, List.filterMap_nil, List.cons.injEq, VL.wDisp0, VL.wDisp, VL.wPairs, VL.oLcm, VL.wPop, VL.wRevM, VL.wClearM, VL.wTupRg, VL.wListRg, VL.wR1, VL.wR2, VL.wRevN, VL.oRepT, VL.oRepL]; simpa [isiD, tyD, isIntD] using h)
theorem h_is_integer_from (ρ : En) (Q : RV → En → Prop) (h : S_is_integer_from ρ Q) : t_is_integer_from (endsV 2 Q) (ρ ++ List.replicate (2 - 2) .un) := by
  obtain ⟨d, m, rfl, h⟩ := h
  unfold t_is_integer_from
  cases d <;> (simp only [VL.wSeq, VL.wNext, VL.wNever, VL.wAsg, VL.wSet, VL.wVar, VL.wFrz, VL.wC, VL.wOp, VL.wTest, VL.wNotT, VL.wAndT, VL.wOrT, VL.wAnd, VL.wOr, VL.wNot, VL.wIf, VL.wNil, VL.wCons, VL.wTup, VL.wLst, VL.wStay, VL.wNew, VL.wPar, VL.wAug, VL.wDrop, VL.wRet, VL.wRetN, VL.wRet0, VL.wIfS, VL.wBrk, VL.wCnt, VL.wGt, VL.wGs, VL.wCB, VL.wCBN, VL.wCall, VL.wCallN, VL.wCallIo, VL.wCallIoN, VL.wCallK, VL.wIsi, VL.wIsi2, VL.wApp, VL.wExt, VL.wIns, VL.wSetIt, VL.wNoPart, VL.wPart, VL.wSl, VL.wSlN, VL.wChain, VL.wNeg, VL.wDnew, VL.wDput, VL.wDget, VL.wDin, VL.wDnin, VL.wIndex, VL.wRev, VL.wParNE, VL.wParEN, VL.wPar3, VL.wYes, VL.wSeqOf, VL.wRng1, VL.wRng2, VL.oI, VL.oI0, VL.oLt, VL.oLe, VL.oGt, VL.oGe, VL.oSub, VL.oMul, VL.oFdiv, VL.oMod, VL.oPow, VL.oShl', VL.oAbs, VL.oMax2, VL.oMin2, VL.oGcd, VL.atI_0, VL.atI_1, VL.atI_2, VL.ixN_20, VL.ixN_21, and_assoc, VL.shp_int, VL.shp_bool, VL.shp_none, VL.eqv_int, VL.eqv_bool, VL.isiD, VL.tyD, String.reduceBEq, Bool.not_true, Bool.not_false, Bool.and_true, Bool.and_false, Bool.true_and, Bool.false_and, Bool.or_true, Bool.or_false, Bool.true_or, Bool.false_or, decide_true, decide_false, Bool.not_eq_true', Bool.not_eq_eq_eq_not, decide_eq_true_eq, decide_eq_false_iff_not, VL.oInt1, VL.oInt2, VL.oLen, VL.oToInt, VL.oAdd, VL.oEq, VL.oNe, VL.oIsN, VL.oIn, VL.itemD, VL.isN, VL.der, VL.ders, VL.dats, VL.ioA, VL.endsV, VL.retE, VL.keepC, Option.map, List.range_succ, List.range_zero, List.map_cons, List.map_nil, List.map_append, List.nil_append, List.cons_append, List.append_nil, List.replicate_zero, List.replicate_succ, List.length_cons, List.length_nil, Nat.sub_self, List.getElem?_cons_zero, List.getElem?_cons_succ, List.set_cons_zero, List.set_cons_succ, Option.some.injEq, exists_eq_left', exists_eq_left, exists_eq_right, exists_and_left, exists_and_right, and_true, true_and, CV.d.injEq, CV.loc.injEq, Cell.lst.injEq, Cell.dat.injEq, Cell.dic.injEq, PyData.int.injEq, PyData.bool.injEq, PyData.list.injEq, PyData.tuple.injEq, PyData.str.injEq, reduceCtorEq, false_and, and_false, exists_false, false_or, or_false, if_true, if_false, reduceIte, Bool.false_eq_true, Nat.reduceAdd, Nat.reduceSub, Nat.succ_sub_succ, Nat.zero_add, VL.gP, List.filterMap_cons, List.filterMap_nil, List.cons.injEq, VL.wDisp0, VL.wDisp, VL.wPairs, VL.oLcm, VL.wPop, VL.wRevM, VL.wClearM, VL.wTupRg, VL.wListRg, VL.wR1, VL.wR2, VL.wRevN, VL.oRepT, VL.oRepL, S_is_integer]; simpa [isIntD, fromD] using h)
theorem h_lowest (ρ : En) (Q : RV → En → Prop) (h : S_lowest ρ Q) : t_lowest (endsV 2 Q) (ρ ++ List.replicate (3 - 2) .un) := by
  obtain ⟨a, b, rfl, h0, hb, h⟩ := h
  unfold t_lowest
  simp only [VL.wSeq, VL.wNext, VL.wNever, VL.wAsg, VL.wSet, VL.wVar, VL.wFrz, VL.wC, VL.wOp, VL.wTest, VL.wNotT, VL.wAndT, VL.wOrT, VL.wAnd, VL.wOr, VL.wNot, VL.wIf, VL.wNil, VL.wCons, VL.wTup, VL.wLst, VL.wStay, VL.wNew, VL.wPar, VL.wAug, VL.wDrop, VL.wRet, VL.wRetN, VL.wRet0, VL.wIfS, VL.wBrk, VL.wCnt, VL.wGt, VL.wGs, VL.wCB, VL.wCBN, VL.wCall, VL.wCallN, VL.wCallIo, VL.wCallIoN, VL.wCallK, VL.wIsi, VL.wIsi2, VL.wApp, VL.wExt, VL.wIns, VL.wSetIt, VL.wNoPart, VL.wPart, VL.wSl, VL.wSlN, VL.wChain, VL.wNeg, VL.wDnew, VL.wDput, VL.wDget, VL.wDin, VL.wDnin, VL.wIndex, VL.wRev, VL.wParNE, VL.wParEN, VL.wPar3, VL.wYes, VL.wSeqOf, VL.wRng1, VL.wRng2, VL.oI, VL.oI0, VL.oLt, VL.oLe, VL.oGt, VL.oGe, VL.oSub, VL.oMul, VL.oFdiv, VL.oMod, VL.oPow, VL.oShl', VL.oAbs, VL.oMax2, VL.oMin2, VL.oGcd, VL.atI_0, VL.atI_1, VL.atI_2, VL.ixN_20, VL.ixN_21, and_assoc, VL.shp_int, VL.shp_bool, VL.shp_none, VL.eqv_int, VL.eqv_bool, VL.isiD, VL.tyD, String.reduceBEq, Bool.not_true, Bool.not_false, Bool.and_true, Bool.and_false, Bool.true_and, Bool.false_and, Bool.or_true, Bool.or_false, Bool.true_or, Bool.false_or, decide_true, decide_false, Bool.not_eq_true', Bool.not_eq_eq_eq_not, decide_eq_true_eq, decide_eq_false_iff_not, VL.oInt1, VL.oInt2, VL.oLen, VL.oToInt, VL.oAdd, VL.oEq, VL.oNe, VL.oIsN, VL.oIn, VL.itemD, VL.isN, VL.der, VL.ders, VL.dats, VL.ioA, VL.endsV, VL.retE, VL.keepC, Option.map, List.range_succ, List.range_zero, List.map_cons, List.map_nil, List.map_append, List.nil_append, List.cons_append, List.append_nil, List.replicate_zero, List.replicate_succ, List.length_cons, List.length_nil, Nat.sub_self, List.getElem?_cons_zero, List.getElem?_cons_succ, List.set_cons_zero, List.set_cons_succ, Option.some.injEq, exists_eq_left', exists_eq_left, exists_eq_right, exists_and_left, exists_and_right, and_true, true_and, CV.d.injEq, CV.loc.injEq, Cell.lst.injEq, Cell.dat.injEq, Cell.dic.injEq, PyData.int.injEq, PyData.bool.injEq, PyData.list.injEq, PyData.tuple.injEq, PyData.str.injEq, reduceCtorEq, false_and, and_false, exists_false, false_or, or_false, if_true, if_false, reduceIte, Bool.false_eq_true, Nat.reduceAdd, Nat.reduceSub, Nat.succ_sub_succ, Nat.zero_add, VL.gP, List.filterMap_cons, List.filterMap_nil, List.cons.injEq, VL.wDisp0, VL.wDisp, VL.wPairs, VL.oLcm, VL.wPop, VL.wRevM, VL.wClearM, VL.wTupRg, VL.wListRg, VL.wR1, VL.wR2, VL.wRevN, VL.oRepT, VL.oRepL]
  refine ⟨cdv_gcd a a b h0 hb, cdv_gcd b a b h0 hb, by decide, ?_⟩
  rw [low_tup a b h0]
  exact h
theorem h_is_number (ρ : En) (Q : RV → En → Prop) (h : S_is_number ρ Q) : t_is_number (endsV 1 Q) (ρ ++ List.replicate (3 - 1) .un) := by
  obtain ⟨q, rfl, hb, h⟩ := h
  unfold t_is_number rD
  simp only [VL.wSeq, VL.wNext, VL.wNever, VL.wAsg, VL.wSet, VL.wVar, VL.wFrz, VL.wC, VL.wOp, VL.wTest, VL.wNotT, VL.wAndT, VL.wOrT, VL.wAnd, VL.wOr, VL.wNot, VL.wIf, VL.wNil, VL.wCons, VL.wTup, VL.wLst, VL.wStay, VL.wNew, VL.wPar, VL.wAug, VL.wDrop, VL.wRet, VL.wRetN, VL.wRet0, VL.wIfS, VL.wBrk, VL.wCnt, VL.wGt, VL.wGs, VL.wCB, VL.wCBN, VL.wCall, VL.wCallN, VL.wCallIo, VL.wCallIoN, VL.wCallK, VL.wIsi, VL.wIsi2, VL.wApp, VL.wExt, VL.wIns, VL.wSetIt, VL.wNoPart, VL.wPart, VL.wSl, VL.wSlN, VL.wChain, VL.wNeg, VL.wDnew, VL.wDput, VL.wDget, VL.wDin, VL.wDnin, VL.wIndex, VL.wRev, VL.wParNE, VL.wParEN, VL.wPar3, VL.wYes, VL.wSeqOf, VL.wRng1, VL.wRng2, VL.oI, VL.oI0, VL.oLt, VL.oLe, VL.oGt, VL.oGe, VL.oSub, VL.oMul, VL.oFdiv, VL.oMod, VL.oPow, VL.oShl', VL.oAbs, VL.oMax2, VL.oMin2, VL.oGcd, VL.atI_0, VL.atI_1, VL.atI_2, VL.ixN_20, VL.ixN_21, and_assoc, VL.shp_int, VL.shp_bool, VL.shp_none, VL.eqv_int, VL.eqv_bool, VL.isiD, VL.tyD, String.reduceBEq, Bool.not_true, Bool.not_false, Bool.and_true, Bool.and_false, Bool.true_and, Bool.false_and, Bool.or_true, Bool.or_false, Bool.true_or, Bool.false_or, decide_true, decide_false, Bool.not_eq_true', Bool.not_eq_eq_eq_not, decide_eq_true_eq, decide_eq_false_iff_not, VL.oInt1, VL.oInt2, VL.oLen, VL.oToInt, VL.oAdd, VL.oEq, VL.oNe, VL.oIsN, VL.oIn, VL.itemD, VL.isN, VL.der, VL.ders, VL.dats, VL.ioA, VL.endsV, VL.retE, VL.keepC, Option.map, List.range_succ, List.range_zero, List.map_cons, List.map_nil, List.map_append, List.nil_append, List.cons_append, List.append_nil, List.replicate_zero, List.replicate_succ, List.length_cons, List.length_nil, Nat.sub_self, List.getElem?_cons_zero, List.getElem?_cons_succ, List.set_cons_zero, List.set_cons_succ, Option.some.injEq, exists_eq_left', exists_eq_left, exists_eq_right, exists_and_left, exists_and_right, and_true, true_and, CV.d.injEq, CV.loc.injEq, Cell.lst.injEq, Cell.dat.injEq, Cell.dic.injEq, PyData.int.injEq, PyData.bool.injEq, PyData.list.injEq, PyData.tuple.injEq, PyData.str.injEq, reduceCtorEq, false_and, and_false, exists_false, false_or, or_false, if_true, if_false, reduceIte, Bool.false_eq_true, Nat.reduceAdd, Nat.reduceSub, Nat.succ_sub_succ, Nat.zero_add, VL.gP, List.filterMap_cons, List.filterMap_nil, List.cons.injEq, VL.wDisp0, VL.wDisp, VL.wPairs, VL.oLcm, VL.wPop, VL.wRevM, VL.wClearM, VL.wTupRg, VL.wListRg, VL.wR1, VL.wR2, VL.wRevN, VL.oRepT, VL.oRepL, S_lowest, S_is_integer, S_is_integer_from, isIntD, fromD]
  have hp := den_pos q
  rw [if_neg (show ¬ ¬ ((2 : Nat) : Int) = 2 by decide), if_pos (show (1 : Int) ≤ (q.den : Int) by omega)]
  refine ⟨hp, hb, shp_rD _, rfl, ?_⟩
  rw [qdiv]
  have e := eqv_rD q q
  rw [decide_eq_true rfl] at e
  rw [show PyData.eqv (rD q) (PyData.tuple [PyData.int q.num, PyData.int (q.den : Int)]) = true from e]
  exact h
theorem q_num0 {q : Rat} (h : 0 ≤ q) : 0 ≤ q.num := Rat.num_nonneg.mpr h
theorem q_num1 {q : Rat} (h : q ≤ 1) : q.num ≤ (q.den : Int) := by
  have := (Rat.le_iff q 1).mp h
  simpa using this
theorem h_check_number (ρ : En) (Q : RV → En → Prop) (h : S_check_number ρ Q) : t_check_number (endsV 1 Q) (ρ ++ List.replicate (1 - 1) .un) := by
  obtain ⟨q, rfl, hb, h0, h1, h⟩ := h
  unfold t_check_number
  simp only [VL.wSeq, VL.wNext, VL.wNever, VL.wAsg, VL.wSet, VL.wVar, VL.wFrz, VL.wC, VL.wOp, VL.wTest, VL.wNotT, VL.wAndT, VL.wOrT, VL.wAnd, VL.wOr, VL.wNot, VL.wIf, VL.wNil, VL.wCons, VL.wTup, VL.wLst, VL.wStay, VL.wNew, VL.wPar, VL.wAug, VL.wDrop, VL.wRet, VL.wRetN, VL.wRet0, VL.wIfS, VL.wBrk, VL.wCnt, VL.wGt, VL.wGs, VL.wCB, VL.wCBN, VL.wCall, VL.wCallN, VL.wCallIo, VL.wCallIoN, VL.wCallK, VL.wIsi, VL.wIsi2, VL.wApp, VL.wExt, VL.wIns, VL.wSetIt, VL.wNoPart, VL.wPart, VL.wSl, VL.wSlN, VL.wChain, VL.wNeg, VL.wDnew, VL.wDput, VL.wDget, VL.wDin, VL.wDnin, VL.wIndex, VL.wRev, VL.wParNE, VL.wParEN, VL.wPar3, VL.wYes, VL.wSeqOf, VL.wRng1, VL.wRng2, VL.oI, VL.oI0, VL.oLt, VL.oLe, VL.oGt, VL.oGe, VL.oSub, VL.oMul, VL.oFdiv, VL.oMod, VL.oPow, VL.oShl', VL.oAbs, VL.oMax2, VL.oMin2, VL.oGcd, VL.atI_0, VL.atI_1, VL.atI_2, VL.ixN_20, VL.ixN_21, and_assoc, VL.shp_int, VL.shp_bool, VL.shp_none, VL.eqv_int, VL.eqv_bool, VL.isiD, VL.tyD, String.reduceBEq, Bool.not_true, Bool.not_false, Bool.and_true, Bool.and_false, Bool.true_and, Bool.false_and, Bool.or_true, Bool.or_false, Bool.true_or, Bool.false_or, decide_true, decide_false, Bool.not_eq_true', Bool.not_eq_eq_eq_not, decide_eq_true_eq, decide_eq_false_iff_not, VL.oInt1, VL.oInt2, VL.oLen, VL.oToInt, VL.oAdd, VL.oEq, VL.oNe, VL.oIsN, VL.oIn, VL.itemD, VL.isN, VL.der, VL.ders, VL.dats, VL.ioA, VL.endsV, VL.retE, VL.keepC, Option.map, List.range_succ, List.range_zero, List.map_cons, List.map_nil, List.map_append, List.nil_append, List.cons_append, List.append_nil, List.replicate_zero, List.replicate_succ, List.length_cons, List.length_nil, Nat.sub_self, List.getElem?_cons_zero, List.getElem?_cons_succ, List.set_cons_zero, List.set_cons_succ, Option.some.injEq, exists_eq_left', exists_eq_left, exists_eq_right, exists_and_left, exists_and_right, and_true, true_and, CV.d.injEq, CV.loc.injEq, Cell.lst.injEq, Cell.dat.injEq, Cell.dic.injEq, PyData.int.injEq, PyData.bool.injEq, PyData.list.injEq, PyData.tuple.injEq, PyData.str.injEq, reduceCtorEq, false_and, and_false, exists_false, false_or, or_false, if_true, if_false, reduceIte, Bool.false_eq_true, Nat.reduceAdd, Nat.reduceSub, Nat.succ_sub_succ, Nat.zero_add, VL.gP, List.filterMap_cons, List.filterMap_nil, List.cons.injEq, VL.wDisp0, VL.wDisp, VL.wPairs, VL.oLcm, VL.wPop, VL.wRevM, VL.wClearM, VL.wTupRg, VL.wListRg, VL.wR1, VL.wR2, VL.wRevN, VL.oRepT, VL.oRepL, S_is_number]
  refine ⟨q, rfl, hb, ?_⟩
  unfold rD
  simp only [VL.wSeq, VL.wNext, VL.wNever, VL.wAsg, VL.wSet, VL.wVar, VL.wFrz, VL.wC, VL.wOp, VL.wTest, VL.wNotT, VL.wAndT, VL.wOrT, VL.wAnd, VL.wOr, VL.wNot, VL.wIf, VL.wNil, VL.wCons, VL.wTup, VL.wLst, VL.wStay, VL.wNew, VL.wPar, VL.wAug, VL.wDrop, VL.wRet, VL.wRetN, VL.wRet0, VL.wIfS, VL.wBrk, VL.wCnt, VL.wGt, VL.wGs, VL.wCB, VL.wCBN, VL.wCall, VL.wCallN, VL.wCallIo, VL.wCallIoN, VL.wCallK, VL.wIsi, VL.wIsi2, VL.wApp, VL.wExt, VL.wIns, VL.wSetIt, VL.wNoPart, VL.wPart, VL.wSl, VL.wSlN, VL.wChain, VL.wNeg, VL.wDnew, VL.wDput, VL.wDget, VL.wDin, VL.wDnin, VL.wIndex, VL.wRev, VL.wParNE, VL.wParEN, VL.wPar3, VL.wYes, VL.wSeqOf, VL.wRng1, VL.wRng2, VL.oI, VL.oI0, VL.oLt, VL.oLe, VL.oGt, VL.oGe, VL.oSub, VL.oMul, VL.oFdiv, VL.oMod, VL.oPow, VL.oShl', VL.oAbs, VL.oMax2, VL.oMin2, VL.oGcd, VL.atI_0, VL.atI_1, VL.atI_2, VL.ixN_20, VL.ixN_21, and_assoc, VL.shp_int, VL.shp_bool, VL.shp_none, VL.eqv_int, VL.eqv_bool, VL.isiD, VL.tyD, String.reduceBEq, Bool.not_true, Bool.not_false, Bool.and_true, Bool.and_false, Bool.true_and, Bool.false_and, Bool.or_true, Bool.or_false, Bool.true_or, Bool.false_or, decide_true, decide_false, Bool.not_eq_true', Bool.not_eq_eq_eq_not, decide_eq_true_eq, decide_eq_false_iff_not, VL.oInt1, VL.oInt2, VL.oLen, VL.oToInt, VL.oAdd, VL.oEq, VL.oNe, VL.oIsN, VL.oIn, VL.itemD, VL.isN, VL.der, VL.ders, VL.dats, VL.ioA, VL.endsV, VL.retE, VL.keepC, Option.map, List.range_succ, List.range_zero, List.map_cons, List.map_nil, List.map_append, List.nil_append, List.cons_append, List.append_nil, List.replicate_zero, List.replicate_succ, List.length_cons, List.length_nil, Nat.sub_self, List.getElem?_cons_zero, List.getElem?_cons_succ, List.set_cons_zero, List.set_cons_succ, Option.some.injEq, exists_eq_left', exists_eq_left, exists_eq_right, exists_and_left, exists_and_right, and_true, true_and, CV.d.injEq, CV.loc.injEq, Cell.lst.injEq, Cell.dat.injEq, Cell.dic.injEq, PyData.int.injEq, PyData.bool.injEq, PyData.list.injEq, PyData.tuple.injEq, PyData.str.injEq, reduceCtorEq, false_and, and_false, exists_false, false_or, or_false, if_true, if_false, reduceIte, Bool.false_eq_true, Nat.reduceAdd, Nat.reduceSub, Nat.succ_sub_succ, Nat.zero_add, VL.gP, List.filterMap_cons, List.filterMap_nil, List.cons.injEq, VL.wDisp0, VL.wDisp, VL.wPairs, VL.oLcm, VL.wPop, VL.wRevM, VL.wClearM, VL.wTupRg, VL.wListRg, VL.wR1, VL.wR2, VL.wRevN, VL.oRepT, VL.oRepL]
  refine ⟨q_num0 h0, ?_⟩
  rw [if_neg (by have := q_num1 h1; omega)]
  exact h
theorem fmod_lt {a m : Int} (h : 0 < m) : ∃ r : Nat, a.fmod m = r ∧ (r : Int) < m := by
  have h1 := Int.fmod_nonneg_of_pos a h
  have h2 := Int.fmod_lt_of_pos a h
  exact ⟨(a.fmod m).toNat, by omega, by omega⟩
theorem h__law_take (ρ : En) (Q : RV → En → Prop) (h : S__law_take ρ Q) : t__law_take (endsV 2 Q) (ρ ++ List.replicate (3 - 2) .un) := by
  obtain ⟨a, b, m, rfl, h0, h1, h⟩ := h
  unfold t__law_take
  simp only [VL.wSeq, VL.wNext, VL.wNever, VL.wAsg, VL.wSet, VL.wVar, VL.wFrz, VL.wC, VL.wOp, VL.wTest, VL.wNotT, VL.wAndT, VL.wOrT, VL.wAnd, VL.wOr, VL.wNot, VL.wIf, VL.wNil, VL.wCons, VL.wTup, VL.wLst, VL.wStay, VL.wNew, VL.wPar, VL.wAug, VL.wDrop, VL.wRet, VL.wRetN, VL.wRet0, VL.wIfS, VL.wBrk, VL.wCnt, VL.wGt, VL.wGs, VL.wCB, VL.wCBN, VL.wCall, VL.wCallN, VL.wCallIo, VL.wCallIoN, VL.wCallK, VL.wIsi, VL.wIsi2, VL.wApp, VL.wExt, VL.wIns, VL.wSetIt, VL.wNoPart, VL.wPart, VL.wSl, VL.wSlN, VL.wChain, VL.wNeg, VL.wDnew, VL.wDput, VL.wDget, VL.wDin, VL.wDnin, VL.wIndex, VL.wRev, VL.wParNE, VL.wParEN, VL.wPar3, VL.wYes, VL.wSeqOf, VL.wRng1, VL.wRng2, VL.oI, VL.oI0, VL.oLt, VL.oLe, VL.oGt, VL.oGe, VL.oSub, VL.oMul, VL.oFdiv, VL.oMod, VL.oPow, VL.oShl', VL.oAbs, VL.oMax2, VL.oMin2, VL.oGcd, VL.atI_0, VL.atI_1, VL.atI_2, VL.ixN_20, VL.ixN_21, and_assoc, VL.shp_int, VL.shp_bool, VL.shp_none, VL.eqv_int, VL.eqv_bool, VL.isiD, VL.tyD, String.reduceBEq, Bool.not_true, Bool.not_false, Bool.and_true, Bool.and_false, Bool.true_and, Bool.false_and, Bool.or_true, Bool.or_false, Bool.true_or, Bool.false_or, decide_true, decide_false, Bool.not_eq_true', Bool.not_eq_eq_eq_not, decide_eq_true_eq, decide_eq_false_iff_not, VL.oInt1, VL.oInt2, VL.oLen, VL.oToInt, VL.oAdd, VL.oEq, VL.oNe, VL.oIsN, VL.oIn, VL.itemD, VL.isN, VL.der, VL.ders, VL.dats, VL.ioA, VL.endsV, VL.retE, VL.keepC, Option.map, List.range_succ, List.range_zero, List.map_cons, List.map_nil, List.map_append, List.nil_append, List.cons_append, List.append_nil, List.replicate_zero, List.replicate_succ, List.length_cons, List.length_nil, Nat.sub_self, List.getElem?_cons_zero, List.getElem?_cons_succ, List.set_cons_zero, List.set_cons_succ, Option.some.injEq, exists_eq_left', exists_eq_left, exists_eq_right, exists_and_left, exists_and_right, and_true, true_and, CV.d.injEq, CV.loc.injEq, Cell.lst.injEq, Cell.dat.injEq, Cell.dic.injEq, PyData.int.injEq, PyData.bool.injEq, PyData.list.injEq, PyData.tuple.injEq, PyData.str.injEq, reduceCtorEq, false_and, and_false, exists_false, false_or, or_false, if_true, if_false, reduceIte, Bool.false_eq_true, Nat.reduceAdd, Nat.reduceSub, Nat.succ_sub_succ, Nat.zero_add, VL.gP, List.filterMap_cons, List.filterMap_nil, List.cons.injEq, VL.wDisp0, VL.wDisp, VL.wPairs, VL.oLcm, VL.wPop, VL.wRevM, VL.wClearM, VL.wTupRg, VL.wListRg, VL.wR1, VL.wR2, VL.wRevN, VL.oRepT, VL.oRepL]
  have hm : m ≠ 0 := by omega
  have bm : Bd m := small_bd (by omega) (by omega)
  by_cases g : 0 < a
  · rw [if_pos g]
    obtain ⟨r, e, l⟩ := fmod_lt (a := a) h0
    rw [e]
    exact ⟨hm, cdv_pos h0 bm, ⟨_, rfl⟩, h r _ _ l⟩
  · rw [if_neg g]
    obtain ⟨r, e, l⟩ := fmod_lt (a := ((b * 6364136223846793005 + 1442695040888963407).fmod (2 ^ Int.toNat 64)).fdiv (2 ^ Int.toNat 33)) h0
    refine ⟨.inl (.inr ⟨by decide, by decide⟩), ⟨by decide, by decide, by decide⟩, by decide, ⟨_, rfl⟩, ⟨by decide, by decide, by decide⟩, cdv_pos (by decide) (small_bd (by decide) (by decide)), hm, ?_⟩
    rw [e]
    exact h r _ _ l
theorem atI_ints {ns : List Int} {k : Nat} (h : k < ns.length) : atI (ns.map PyData.int) (k : Int) = some (.int ns[k]) := by
  unfold atI
  rw [show ixN (ns.map PyData.int).length (k : Int) = some k by simp [ixN]; omega]
  simp [h]
theorem h__law_deck (ρ : En) (Q : RV → En → Prop) (h : S__law_deck ρ Q) : t__law_deck (endsV 2 Q) (ρ ++ List.replicate (4 - 2) .un) := by
  obtain ⟨ns, k, rfl, h⟩ := h
  unfold t__law_deck intL
  have ck : ∀ x : Int, COk 7919 x := fun x => .inl (.inl ⟨by decide, by decide⟩)
  have ck2 : ∀ x : Int, COk 31 x := fun x => .inl (.inl ⟨by decide, by decide⟩)
  have sm : ∀ x : Int, 0 ≤ x.fmod 2305843009213693951 ∧ x.fmod 2305843009213693951 < 2305843009213693951 := fun x => ⟨Int.fmod_nonneg_of_pos _ (by decide), Int.fmod_lt_of_pos _ (by decide)⟩
  have c1 : ∀ x y : Int, COk y (x.fmod 2305843009213693951) := fun x y => .inl (.inr ⟨by have := sm x; omega, by have := sm x; omega⟩)
  have cp : CPow 10 18 := ⟨by decide, by decide, by decide⟩
  have ne : (2305843009213693951 : Int) ≠ 0 := by decide
  have sz : 2 ≤ sizeLine := by decide
  simp only [VL.wSeq, VL.wNext, VL.wNever, VL.wAsg, VL.wSet, VL.wVar, VL.wFrz, VL.wC, VL.wOp, VL.wTest, VL.wNotT, VL.wAndT, VL.wOrT, VL.wAnd, VL.wOr, VL.wNot, VL.wIf, VL.wNil, VL.wCons, VL.wTup, VL.wLst, VL.wStay, VL.wNew, VL.wPar, VL.wAug, VL.wDrop, VL.wRet, VL.wRetN, VL.wRet0, VL.wIfS, VL.wBrk, VL.wCnt, VL.wGt, VL.wGs, VL.wCB, VL.wCBN, VL.wCall, VL.wCallN, VL.wCallIo, VL.wCallIoN, VL.wCallK, VL.wIsi, VL.wIsi2, VL.wApp, VL.wExt, VL.wIns, VL.wSetIt, VL.wNoPart, VL.wPart, VL.wSl, VL.wSlN, VL.wChain, VL.wNeg, VL.wDnew, VL.wDput, VL.wDget, VL.wDin, VL.wDnin, VL.wIndex, VL.wRev, VL.wParNE, VL.wParEN, VL.wPar3, VL.wYes, VL.wSeqOf, VL.wRng1, VL.wRng2, VL.oI, VL.oI0, VL.oLt, VL.oLe, VL.oGt, VL.oGe, VL.oSub, VL.oMul, VL.oFdiv, VL.oMod, VL.oPow, VL.oShl', VL.oAbs, VL.oMax2, VL.oMin2, VL.oGcd, VL.atI_0, VL.atI_1, VL.atI_2, VL.ixN_20, VL.ixN_21, and_assoc, VL.shp_int, VL.shp_bool, VL.shp_none, VL.eqv_int, VL.eqv_bool, VL.isiD, VL.tyD, String.reduceBEq, Bool.not_true, Bool.not_false, Bool.and_true, Bool.and_false, Bool.true_and, Bool.false_and, Bool.or_true, Bool.or_false, Bool.true_or, Bool.false_or, decide_true, decide_false, Bool.not_eq_true', Bool.not_eq_eq_eq_not, decide_eq_true_eq, decide_eq_false_iff_not, VL.oInt1, VL.oInt2, VL.oLen, VL.oToInt, VL.oAdd, VL.oEq, VL.oNe, VL.oIsN, VL.oIn, VL.itemD, VL.isN, VL.der, VL.ders, VL.dats, VL.ioA, VL.endsV, VL.retE, VL.keepC, Option.map, List.range_succ, List.range_zero, List.map_cons, List.map_nil, List.map_append, List.nil_append, List.cons_append, List.append_nil, List.replicate_zero, List.replicate_succ, List.length_cons, List.length_nil, Nat.sub_self, List.getElem?_cons_zero, List.getElem?_cons_succ, List.set_cons_zero, List.set_cons_succ, Option.some.injEq, exists_eq_left', exists_eq_left, exists_eq_right, exists_and_left, exists_and_right, and_true, true_and, CV.d.injEq, CV.loc.injEq, Cell.lst.injEq, Cell.dat.injEq, Cell.dic.injEq, PyData.int.injEq, PyData.bool.injEq, PyData.list.injEq, PyData.tuple.injEq, PyData.str.injEq, reduceCtorEq, false_and, and_false, exists_false, false_or, or_false, if_true, if_false, reduceIte, Bool.false_eq_true, Nat.reduceAdd, Nat.reduceSub, Nat.succ_sub_succ, Nat.zero_add, VL.gP, List.filterMap_cons, List.filterMap_nil, List.cons.injEq, VL.wDisp0, VL.wDisp, VL.wPairs, VL.oLcm, VL.wPop, VL.wRevM, VL.wClearM, VL.wTupRg, VL.wListRg, VL.wR1, VL.wR2, VL.wRevN, VL.oRepT, VL.oRepL, List.length_map]
  by_cases g : k < ns.length
  · rw [if_pos (by omega)]
    simp only [VL.wSeq, VL.wNext, VL.wNever, VL.wAsg, VL.wSet, VL.wVar, VL.wFrz, VL.wC, VL.wOp, VL.wTest, VL.wNotT, VL.wAndT, VL.wOrT, VL.wAnd, VL.wOr, VL.wNot, VL.wIf, VL.wNil, VL.wCons, VL.wTup, VL.wLst, VL.wStay, VL.wNew, VL.wPar, VL.wAug, VL.wDrop, VL.wRet, VL.wRetN, VL.wRet0, VL.wIfS, VL.wBrk, VL.wCnt, VL.wGt, VL.wGs, VL.wCB, VL.wCBN, VL.wCall, VL.wCallN, VL.wCallIo, VL.wCallIoN, VL.wCallK, VL.wIsi, VL.wIsi2, VL.wApp, VL.wExt, VL.wIns, VL.wSetIt, VL.wNoPart, VL.wPart, VL.wSl, VL.wSlN, VL.wChain, VL.wNeg, VL.wDnew, VL.wDput, VL.wDget, VL.wDin, VL.wDnin, VL.wIndex, VL.wRev, VL.wParNE, VL.wParEN, VL.wPar3, VL.wYes, VL.wSeqOf, VL.wRng1, VL.wRng2, VL.oI, VL.oI0, VL.oLt, VL.oLe, VL.oGt, VL.oGe, VL.oSub, VL.oMul, VL.oFdiv, VL.oMod, VL.oPow, VL.oShl', VL.oAbs, VL.oMax2, VL.oMin2, VL.oGcd, VL.atI_0, VL.atI_1, VL.atI_2, VL.ixN_20, VL.ixN_21, and_assoc, VL.shp_int, VL.shp_bool, VL.shp_none, VL.eqv_int, VL.eqv_bool, VL.isiD, VL.tyD, String.reduceBEq, Bool.not_true, Bool.not_false, Bool.and_true, Bool.and_false, Bool.true_and, Bool.false_and, Bool.or_true, Bool.or_false, Bool.true_or, Bool.false_or, decide_true, decide_false, Bool.not_eq_true', Bool.not_eq_eq_eq_not, decide_eq_true_eq, decide_eq_false_iff_not, VL.oInt1, VL.oInt2, VL.oLen, VL.oToInt, VL.oAdd, VL.oEq, VL.oNe, VL.oIsN, VL.oIn, VL.itemD, VL.isN, VL.der, VL.ders, VL.dats, VL.ioA, VL.endsV, VL.retE, VL.keepC, Option.map, List.range_succ, List.range_zero, List.map_cons, List.map_nil, List.map_append, List.nil_append, List.cons_append, List.append_nil, List.replicate_zero, List.replicate_succ, List.length_cons, List.length_nil, Nat.sub_self, List.getElem?_cons_zero, List.getElem?_cons_succ, List.set_cons_zero, List.set_cons_succ, Option.some.injEq, exists_eq_left', exists_eq_left, exists_eq_right, exists_and_left, exists_and_right, and_true, true_and, CV.d.injEq, CV.loc.injEq, Cell.lst.injEq, Cell.dat.injEq, Cell.dic.injEq, PyData.int.injEq, PyData.bool.injEq, PyData.list.injEq, PyData.tuple.injEq, PyData.str.injEq, reduceCtorEq, false_and, and_false, exists_false, false_or, or_false, if_true, if_false, reduceIte, Bool.false_eq_true, Nat.reduceAdd, Nat.reduceSub, Nat.succ_sub_succ, Nat.zero_add, VL.gP, List.filterMap_cons, List.filterMap_nil, List.cons.injEq, VL.wDisp0, VL.wDisp, VL.wPairs, VL.oLcm, VL.wPop, VL.wRevM, VL.wClearM, VL.wTupRg, VL.wListRg, VL.wR1, VL.wR2, VL.wRevN, VL.oRepT, VL.oRepL, atI_ints g]
    refine ⟨ck _, ne, c1 _ _, c1 _ _, ck2 _, ne, cp, ?_⟩
    by_cases g2 : ns[k] < 10 ^ Int.toNat 18
    · rw [if_pos g2]
      exact ⟨sz, h _ _⟩
    · rw [if_neg g2]
      exact ⟨cp, sz, h _ _⟩
  · rw [if_neg (by omega)]
    refine ⟨ck _, ne, c1 _ _, c1 _ _, ck2 _, ne, cp, ?_⟩
    rw [if_pos (by decide)]
    exact ⟨sz, h _ _⟩
theorem h__law_gcd (ρ : En) (Q : RV → En → Prop) (h : S__law_gcd ρ Q) : t__law_gcd (endsV 2 Q) (ρ ++ List.replicate (2 - 2) .un) := by
  obtain ⟨u, v, rfl, h⟩ := h
  unfold t__law_gcd
  simp only [VL.wSeq, VL.wNext, VL.wNever, VL.wAsg, VL.wSet, VL.wVar, VL.wFrz, VL.wC, VL.wOp, VL.wTest, VL.wNotT, VL.wAndT, VL.wOrT, VL.wAnd, VL.wOr, VL.wNot, VL.wIf, VL.wNil, VL.wCons, VL.wTup, VL.wLst, VL.wStay, VL.wNew, VL.wPar, VL.wAug, VL.wDrop, VL.wRet, VL.wRetN, VL.wRet0, VL.wIfS, VL.wBrk, VL.wCnt, VL.wGt, VL.wGs, VL.wCB, VL.wCBN, VL.wCall, VL.wCallN, VL.wCallIo, VL.wCallIoN, VL.wCallK, VL.wIsi, VL.wIsi2, VL.wApp, VL.wExt, VL.wIns, VL.wSetIt, VL.wNoPart, VL.wPart, VL.wSl, VL.wSlN, VL.wChain, VL.wNeg, VL.wDnew, VL.wDput, VL.wDget, VL.wDin, VL.wDnin, VL.wIndex, VL.wRev, VL.wParNE, VL.wParEN, VL.wPar3, VL.wYes, VL.wSeqOf, VL.wRng1, VL.wRng2, VL.oI, VL.oI0, VL.oLt, VL.oLe, VL.oGt, VL.oGe, VL.oSub, VL.oMul, VL.oFdiv, VL.oMod, VL.oPow, VL.oShl', VL.oAbs, VL.oMax2, VL.oMin2, VL.oGcd, VL.atI_0, VL.atI_1, VL.atI_2, VL.ixN_20, VL.ixN_21, and_assoc, VL.shp_int, VL.shp_bool, VL.shp_none, VL.eqv_int, VL.eqv_bool, VL.isiD, VL.tyD, String.reduceBEq, Bool.not_true, Bool.not_false, Bool.and_true, Bool.and_false, Bool.true_and, Bool.false_and, Bool.or_true, Bool.or_false, Bool.true_or, Bool.false_or, decide_true, decide_false, Bool.not_eq_true', Bool.not_eq_eq_eq_not, decide_eq_true_eq, decide_eq_false_iff_not, VL.oInt1, VL.oInt2, VL.oLen, VL.oToInt, VL.oAdd, VL.oEq, VL.oNe, VL.oIsN, VL.oIn, VL.itemD, VL.isN, VL.der, VL.ders, VL.dats, VL.ioA, VL.endsV, VL.retE, VL.keepC, Option.map, List.range_succ, List.range_zero, List.map_cons, List.map_nil, List.map_append, List.nil_append, List.cons_append, List.append_nil, List.replicate_zero, List.replicate_succ, List.length_cons, List.length_nil, Nat.sub_self, List.getElem?_cons_zero, List.getElem?_cons_succ, List.set_cons_zero, List.set_cons_succ, Option.some.injEq, exists_eq_left', exists_eq_left, exists_eq_right, exists_and_left, exists_and_right, and_true, true_and, CV.d.injEq, CV.loc.injEq, Cell.lst.injEq, Cell.dat.injEq, Cell.dic.injEq, PyData.int.injEq, PyData.bool.injEq, PyData.list.injEq, PyData.tuple.injEq, PyData.str.injEq, reduceCtorEq, false_and, and_false, exists_false, false_or, or_false, if_true, if_false, reduceIte, Bool.false_eq_true, Nat.reduceAdd, Nat.reduceSub, Nat.succ_sub_succ, Nat.zero_add, VL.gP, List.filterMap_cons, List.filterMap_nil, List.cons.injEq, VL.wDisp0, VL.wDisp, VL.wPairs, VL.oLcm, VL.wPop, VL.wRevM, VL.wClearM, VL.wTupRg, VL.wListRg, VL.wR1, VL.wR2, VL.wRevN, VL.oRepT, VL.oRepL, wWhile]
  refine ⟨fun m ρ => ∃ a b : Nat, ρ = [.dat (.int a), .dat (.int b)] ∧ Nat.gcd a b = Nat.gcd u v ∧ m = b, ⟨v, u, v, rfl, rfl, rfl⟩, ?_⟩
  rintro m ρ ⟨a, b, rfl, hg, rfl⟩
  simp only [VL.wSeq, VL.wNext, VL.wNever, VL.wAsg, VL.wSet, VL.wVar, VL.wFrz, VL.wC, VL.wOp, VL.wTest, VL.wNotT, VL.wAndT, VL.wOrT, VL.wAnd, VL.wOr, VL.wNot, VL.wIf, VL.wNil, VL.wCons, VL.wTup, VL.wLst, VL.wStay, VL.wNew, VL.wPar, VL.wAug, VL.wDrop, VL.wRet, VL.wRetN, VL.wRet0, VL.wIfS, VL.wBrk, VL.wCnt, VL.wGt, VL.wGs, VL.wCB, VL.wCBN, VL.wCall, VL.wCallN, VL.wCallIo, VL.wCallIoN, VL.wCallK, VL.wIsi, VL.wIsi2, VL.wApp, VL.wExt, VL.wIns, VL.wSetIt, VL.wNoPart, VL.wPart, VL.wSl, VL.wSlN, VL.wChain, VL.wNeg, VL.wDnew, VL.wDput, VL.wDget, VL.wDin, VL.wDnin, VL.wIndex, VL.wRev, VL.wParNE, VL.wParEN, VL.wPar3, VL.wYes, VL.wSeqOf, VL.wRng1, VL.wRng2, VL.oI, VL.oI0, VL.oLt, VL.oLe, VL.oGt, VL.oGe, VL.oSub, VL.oMul, VL.oFdiv, VL.oMod, VL.oPow, VL.oShl', VL.oAbs, VL.oMax2, VL.oMin2, VL.oGcd, VL.atI_0, VL.atI_1, VL.atI_2, VL.ixN_20, VL.ixN_21, and_assoc, VL.shp_int, VL.shp_bool, VL.shp_none, VL.eqv_int, VL.eqv_bool, VL.isiD, VL.tyD, String.reduceBEq, Bool.not_true, Bool.not_false, Bool.and_true, Bool.and_false, Bool.true_and, Bool.false_and, Bool.or_true, Bool.or_false, Bool.true_or, Bool.false_or, decide_true, decide_false, Bool.not_eq_true', Bool.not_eq_eq_eq_not, decide_eq_true_eq, decide_eq_false_iff_not, VL.oInt1, VL.oInt2, VL.oLen, VL.oToInt, VL.oAdd, VL.oEq, VL.oNe, VL.oIsN, VL.oIn, VL.itemD, VL.isN, VL.der, VL.ders, VL.dats, VL.ioA, VL.endsV, VL.retE, VL.keepC, Option.map, List.range_succ, List.range_zero, List.map_cons, List.map_nil, List.map_append, List.nil_append, List.cons_append, List.append_nil, List.replicate_zero, List.replicate_succ, List.length_cons, List.length_nil, Nat.sub_self, List.getElem?_cons_zero, List.getElem?_cons_succ, List.set_cons_zero, List.set_cons_succ, Option.some.injEq, exists_eq_left', exists_eq_left, exists_eq_right, exists_and_left, exists_and_right, and_true, true_and, CV.d.injEq, CV.loc.injEq, Cell.lst.injEq, Cell.dat.injEq, Cell.dic.injEq, PyData.int.injEq, PyData.bool.injEq, PyData.list.injEq, PyData.tuple.injEq, PyData.str.injEq, reduceCtorEq, false_and, and_false, exists_false, false_or, or_false, if_true, if_false, reduceIte, Bool.false_eq_true, Nat.reduceAdd, Nat.reduceSub, Nat.succ_sub_succ, Nat.zero_add, VL.gP, List.filterMap_cons, List.filterMap_nil, List.cons.injEq, VL.wDisp0, VL.wDisp, VL.wPairs, VL.oLcm, VL.wPop, VL.wRevM, VL.wClearM, VL.wTupRg, VL.wListRg, VL.wR1, VL.wR2, VL.wRevN, VL.oRepT, VL.oRepL]
  by_cases g : m = 0
  · subst g
    rw [if_neg (by simp)]
    rw [Nat.gcd_zero_right] at hg
    rw [hg]
    exact h
  · rw [if_pos (by omega)]
    refine ⟨by omega, a % m, Nat.mod_lt _ (by omega), m, rfl, a % m, ?_, ?_, rfl⟩
    · rw [Int.fmod_eq_emod_of_nonneg _ (by omega), Int.natCast_emod]
    · rw [← hg, Nat.gcd_comm a m, Nat.gcd_rec m a, Nat.gcd_comm]
theorem base2_take {row : List Int} {i : Nat} {x : Int} (h : row[i]? = some x) : base2 (row.take (i + 1)) = 2 * base2 (row.take i) + x := by
  rw [List.take_add_one, h]
  exact base2_app _ _
theorem int_at {ns : List Int} {i : Nat} {d : D} (h : (ns.map PyData.int)[i]? = some d) : ∃ x, d = .int x ∧ ns[i]? = some x := by
  rw [List.getElem?_map] at h
  cases e : ns[i]? with
  | none =>
    rw [e] at h
    cases h
  | some x =>
    rw [e] at h
    cases h
    exact ⟨x, rfl, rfl⟩
theorem h_in_base_two (ρ : En) (Q : RV → En → Prop) (h : S_in_base_two ρ Q) : t_in_base_two (endsV 1 Q) (ρ ++ List.replicate (3 - 1) .un) := by
  obtain ⟨row, rfl, h⟩ := h
  unfold t_in_base_two intT
  simp only [VL.wSeq, VL.wNext, VL.wNever, VL.wAsg, VL.wSet, VL.wVar, VL.wFrz, VL.wC, VL.wOp, VL.wTest, VL.wNotT, VL.wAndT, VL.wOrT, VL.wAnd, VL.wOr, VL.wNot, VL.wIf, VL.wNil, VL.wCons, VL.wTup, VL.wLst, VL.wStay, VL.wNew, VL.wPar, VL.wAug, VL.wDrop, VL.wRet, VL.wRetN, VL.wRet0, VL.wIfS, VL.wBrk, VL.wCnt, VL.wGt, VL.wGs, VL.wCB, VL.wCBN, VL.wCall, VL.wCallN, VL.wCallIo, VL.wCallIoN, VL.wCallK, VL.wIsi, VL.wIsi2, VL.wApp, VL.wExt, VL.wIns, VL.wSetIt, VL.wNoPart, VL.wPart, VL.wSl, VL.wSlN, VL.wChain, VL.wNeg, VL.wDnew, VL.wDput, VL.wDget, VL.wDin, VL.wDnin, VL.wIndex, VL.wRev, VL.wParNE, VL.wParEN, VL.wPar3, VL.wYes, VL.wSeqOf, VL.wRng1, VL.wRng2, VL.oI, VL.oI0, VL.oLt, VL.oLe, VL.oGt, VL.oGe, VL.oSub, VL.oMul, VL.oFdiv, VL.oMod, VL.oPow, VL.oShl', VL.oAbs, VL.oMax2, VL.oMin2, VL.oGcd, VL.atI_0, VL.atI_1, VL.atI_2, VL.ixN_20, VL.ixN_21, and_assoc, VL.shp_int, VL.shp_bool, VL.shp_none, VL.eqv_int, VL.eqv_bool, VL.isiD, VL.tyD, String.reduceBEq, Bool.not_true, Bool.not_false, Bool.and_true, Bool.and_false, Bool.true_and, Bool.false_and, Bool.or_true, Bool.or_false, Bool.true_or, Bool.false_or, decide_true, decide_false, Bool.not_eq_true', Bool.not_eq_eq_eq_not, decide_eq_true_eq, decide_eq_false_iff_not, VL.oInt1, VL.oInt2, VL.oLen, VL.oToInt, VL.oAdd, VL.oEq, VL.oNe, VL.oIsN, VL.oIn, VL.itemD, VL.isN, VL.der, VL.ders, VL.dats, VL.ioA, VL.endsV, VL.retE, VL.keepC, Option.map, List.range_succ, List.range_zero, List.map_cons, List.map_nil, List.map_append, List.nil_append, List.cons_append, List.append_nil, List.replicate_zero, List.replicate_succ, List.length_cons, List.length_nil, Nat.sub_self, List.getElem?_cons_zero, List.getElem?_cons_succ, List.set_cons_zero, List.set_cons_succ, Option.some.injEq, exists_eq_left', exists_eq_left, exists_eq_right, exists_and_left, exists_and_right, and_true, true_and, CV.d.injEq, CV.loc.injEq, Cell.lst.injEq, Cell.dat.injEq, Cell.dic.injEq, PyData.int.injEq, PyData.bool.injEq, PyData.list.injEq, PyData.tuple.injEq, PyData.str.injEq, reduceCtorEq, false_and, and_false, exists_false, false_or, or_false, if_true, if_false, reduceIte, Bool.false_eq_true, Nat.reduceAdd, Nat.reduceSub, Nat.succ_sub_succ, Nat.zero_add, VL.gP, List.filterMap_cons, List.filterMap_nil, List.cons.injEq, VL.wDisp0, VL.wDisp, VL.wPairs, VL.oLcm, VL.wPop, VL.wRevM, VL.wClearM, VL.wTupRg, VL.wListRg, VL.wR1, VL.wR2, VL.wRevN, VL.oRepT, VL.oRepL, wFor]
  refine ⟨fun i ρ => ∃ c, ρ = [.dat (.tuple (row.map .int)), .dat (.int (base2 (row.take i))), c], ⟨_, rfl⟩, ?_, ?_⟩
  · rintro i ρ d ⟨c, rfl⟩ hd
    obtain ⟨x, rfl, hx⟩ := int_at hd
    simp only [VL.wSeq, VL.wNext, VL.wNever, VL.wAsg, VL.wSet, VL.wVar, VL.wFrz, VL.wC, VL.wOp, VL.wTest, VL.wNotT, VL.wAndT, VL.wOrT, VL.wAnd, VL.wOr, VL.wNot, VL.wIf, VL.wNil, VL.wCons, VL.wTup, VL.wLst, VL.wStay, VL.wNew, VL.wPar, VL.wAug, VL.wDrop, VL.wRet, VL.wRetN, VL.wRet0, VL.wIfS, VL.wBrk, VL.wCnt, VL.wGt, VL.wGs, VL.wCB, VL.wCBN, VL.wCall, VL.wCallN, VL.wCallIo, VL.wCallIoN, VL.wCallK, VL.wIsi, VL.wIsi2, VL.wApp, VL.wExt, VL.wIns, VL.wSetIt, VL.wNoPart, VL.wPart, VL.wSl, VL.wSlN, VL.wChain, VL.wNeg, VL.wDnew, VL.wDput, VL.wDget, VL.wDin, VL.wDnin, VL.wIndex, VL.wRev, VL.wParNE, VL.wParEN, VL.wPar3, VL.wYes, VL.wSeqOf, VL.wRng1, VL.wRng2, VL.oI, VL.oI0, VL.oLt, VL.oLe, VL.oGt, VL.oGe, VL.oSub, VL.oMul, VL.oFdiv, VL.oMod, VL.oPow, VL.oShl', VL.oAbs, VL.oMax2, VL.oMin2, VL.oGcd, VL.atI_0, VL.atI_1, VL.atI_2, VL.ixN_20, VL.ixN_21, and_assoc, VL.shp_int, VL.shp_bool, VL.shp_none, VL.eqv_int, VL.eqv_bool, VL.isiD, VL.tyD, String.reduceBEq, Bool.not_true, Bool.not_false, Bool.and_true, Bool.and_false, Bool.true_and, Bool.false_and, Bool.or_true, Bool.or_false, Bool.true_or, Bool.false_or, decide_true, decide_false, Bool.not_eq_true', Bool.not_eq_eq_eq_not, decide_eq_true_eq, decide_eq_false_iff_not, VL.oInt1, VL.oInt2, VL.oLen, VL.oToInt, VL.oAdd, VL.oEq, VL.oNe, VL.oIsN, VL.oIn, VL.itemD, VL.isN, VL.der, VL.ders, VL.dats, VL.ioA, VL.endsV, VL.retE, VL.keepC, Option.map, List.range_succ, List.range_zero, List.map_cons, List.map_nil, List.map_append, List.nil_append, List.cons_append, List.append_nil, List.replicate_zero, List.replicate_succ, List.length_cons, List.length_nil, Nat.sub_self, List.getElem?_cons_zero, List.getElem?_cons_succ, List.set_cons_zero, List.set_cons_succ, Option.some.injEq, exists_eq_left', exists_eq_left, exists_eq_right, exists_and_left, exists_and_right, and_true, true_and, CV.d.injEq, CV.loc.injEq, Cell.lst.injEq, Cell.dat.injEq, Cell.dic.injEq, PyData.int.injEq, PyData.bool.injEq, PyData.list.injEq, PyData.tuple.injEq, PyData.str.injEq, reduceCtorEq, false_and, and_false, exists_false, false_or, or_false, if_true, if_false, reduceIte, Bool.false_eq_true, Nat.reduceAdd, Nat.reduceSub, Nat.succ_sub_succ, Nat.zero_add, VL.gP, List.filterMap_cons, List.filterMap_nil, List.cons.injEq, VL.wDisp0, VL.wDisp, VL.wPairs, VL.oLcm, VL.wPop, VL.wRevM, VL.wClearM, VL.wTupRg, VL.wListRg, VL.wR1, VL.wR2, VL.wRevN, VL.oRepT, VL.oRepL]
    exact ⟨.inl (.inl ⟨by decide, by decide⟩), (base2_take hx).symm, _, rfl⟩
  · rintro ρ ⟨c, rfl⟩
    simp only [VL.wSeq, VL.wNext, VL.wNever, VL.wAsg, VL.wSet, VL.wVar, VL.wFrz, VL.wC, VL.wOp, VL.wTest, VL.wNotT, VL.wAndT, VL.wOrT, VL.wAnd, VL.wOr, VL.wNot, VL.wIf, VL.wNil, VL.wCons, VL.wTup, VL.wLst, VL.wStay, VL.wNew, VL.wPar, VL.wAug, VL.wDrop, VL.wRet, VL.wRetN, VL.wRet0, VL.wIfS, VL.wBrk, VL.wCnt, VL.wGt, VL.wGs, VL.wCB, VL.wCBN, VL.wCall, VL.wCallN, VL.wCallIo, VL.wCallIoN, VL.wCallK, VL.wIsi, VL.wIsi2, VL.wApp, VL.wExt, VL.wIns, VL.wSetIt, VL.wNoPart, VL.wPart, VL.wSl, VL.wSlN, VL.wChain, VL.wNeg, VL.wDnew, VL.wDput, VL.wDget, VL.wDin, VL.wDnin, VL.wIndex, VL.wRev, VL.wParNE, VL.wParEN, VL.wPar3, VL.wYes, VL.wSeqOf, VL.wRng1, VL.wRng2, VL.oI, VL.oI0, VL.oLt, VL.oLe, VL.oGt, VL.oGe, VL.oSub, VL.oMul, VL.oFdiv, VL.oMod, VL.oPow, VL.oShl', VL.oAbs, VL.oMax2, VL.oMin2, VL.oGcd, VL.atI_0, VL.atI_1, VL.atI_2, VL.ixN_20, VL.ixN_21, and_assoc, VL.shp_int, VL.shp_bool, VL.shp_none, VL.eqv_int, VL.eqv_bool, VL.isiD, VL.tyD, String.reduceBEq, Bool.not_true, Bool.not_false, Bool.and_true, Bool.and_false, Bool.true_and, Bool.false_and, Bool.or_true, Bool.or_false, Bool.true_or, Bool.false_or, decide_true, decide_false, Bool.not_eq_true', Bool.not_eq_eq_eq_not, decide_eq_true_eq, decide_eq_false_iff_not, VL.oInt1, VL.oInt2, VL.oLen, VL.oToInt, VL.oAdd, VL.oEq, VL.oNe, VL.oIsN, VL.oIn, VL.itemD, VL.isN, VL.der, VL.ders, VL.dats, VL.ioA, VL.endsV, VL.retE, VL.keepC, Option.map, List.range_succ, List.range_zero, List.map_cons, List.map_nil, List.map_append, List.nil_append, List.cons_append, List.append_nil, List.replicate_zero, List.replicate_succ, List.length_cons, List.length_nil, Nat.sub_self, List.getElem?_cons_zero, List.getElem?_cons_succ, List.set_cons_zero, List.set_cons_succ, Option.some.injEq, exists_eq_left', exists_eq_left, exists_eq_right, exists_and_left, exists_and_right, and_true, true_and, CV.d.injEq, CV.loc.injEq, Cell.lst.injEq, Cell.dat.injEq, Cell.dic.injEq, PyData.int.injEq, PyData.bool.injEq, PyData.list.injEq, PyData.tuple.injEq, PyData.str.injEq, reduceCtorEq, false_and, and_false, exists_false, false_or, or_false, if_true, if_false, reduceIte, Bool.false_eq_true, Nat.reduceAdd, Nat.reduceSub, Nat.succ_sub_succ, Nat.zero_add, VL.gP, List.filterMap_cons, List.filterMap_nil, List.cons.injEq, VL.wDisp0, VL.wDisp, VL.wPairs, VL.oLcm, VL.wPop, VL.wRevM, VL.wClearM, VL.wTupRg, VL.wListRg, VL.wR1, VL.wR2, VL.wRevN, VL.oRepT, VL.oRepL, List.length_map, List.take_length]
    exact h
theorem rng_at {n i : Nat} {d : D} (h : (rngD 0 (n : Int))[i]? = some d) : d = .int i ∧ i < n := by
  unfold rngD at h
  rw [List.getElem?_map] at h
  cases e : (List.range ((n : Int) - 0).toNat)[i]? with
  | none =>
    rw [e] at h
    cases h
  | some x =>
    rw [e] at h
    cases h
    obtain ⟨h1, h2⟩ := List.getElem?_eq_some_iff.mp e
    rw [List.getElem_range] at h2
    rw [List.length_range] at h1
    subst h2
    exact ⟨congrArg PyData.int (Int.zero_add _), by omega⟩
theorem rng_len {n : Nat} : (rngD 0 (n : Int)).length = n := by simp [rngD]
theorem h__law_pair (ρ : En) (Q : RV → En → Prop) (h : S__law_pair ρ Q) : t__law_pair (endsV 2 Q) (ρ ++ List.replicate (3 - 2) .un) := by
  obtain ⟨a, b, rfl, h0, hb, h⟩ := h
  unfold t__law_pair
  have ab : ∀ x : Int, (if x < 0 then -x else x) = (x.natAbs : Int) := fun x => by split <;> omega
  simp only [VL.wSeq, VL.wNext, VL.wNever, VL.wAsg, VL.wSet, VL.wVar, VL.wFrz, VL.wC, VL.wOp, VL.wTest, VL.wNotT, VL.wAndT, VL.wOrT, VL.wAnd, VL.wOr, VL.wNot, VL.wIf, VL.wNil, VL.wCons, VL.wTup, VL.wLst, VL.wStay, VL.wNew, VL.wPar, VL.wAug, VL.wDrop, VL.wRet, VL.wRetN, VL.wRet0, VL.wIfS, VL.wBrk, VL.wCnt, VL.wGt, VL.wGs, VL.wCB, VL.wCBN, VL.wCall, VL.wCallN, VL.wCallIo, VL.wCallIoN, VL.wCallK, VL.wIsi, VL.wIsi2, VL.wApp, VL.wExt, VL.wIns, VL.wSetIt, VL.wNoPart, VL.wPart, VL.wSl, VL.wSlN, VL.wChain, VL.wNeg, VL.wDnew, VL.wDput, VL.wDget, VL.wDin, VL.wDnin, VL.wIndex, VL.wRev, VL.wParNE, VL.wParEN, VL.wPar3, VL.wYes, VL.wSeqOf, VL.wRng1, VL.wRng2, VL.oI, VL.oI0, VL.oLt, VL.oLe, VL.oGt, VL.oGe, VL.oSub, VL.oMul, VL.oFdiv, VL.oMod, VL.oPow, VL.oShl', VL.oAbs, VL.oMax2, VL.oMin2, VL.oGcd, VL.atI_0, VL.atI_1, VL.atI_2, VL.ixN_20, VL.ixN_21, and_assoc, VL.shp_int, VL.shp_bool, VL.shp_none, VL.eqv_int, VL.eqv_bool, VL.isiD, VL.tyD, String.reduceBEq, Bool.not_true, Bool.not_false, Bool.and_true, Bool.and_false, Bool.true_and, Bool.false_and, Bool.or_true, Bool.or_false, Bool.true_or, Bool.false_or, decide_true, decide_false, Bool.not_eq_true', Bool.not_eq_eq_eq_not, decide_eq_true_eq, decide_eq_false_iff_not, VL.oInt1, VL.oInt2, VL.oLen, VL.oToInt, VL.oAdd, VL.oEq, VL.oNe, VL.oIsN, VL.oIn, VL.itemD, VL.isN, VL.der, VL.ders, VL.dats, VL.ioA, VL.endsV, VL.retE, VL.keepC, Option.map, List.range_succ, List.range_zero, List.map_cons, List.map_nil, List.map_append, List.nil_append, List.cons_append, List.append_nil, List.replicate_zero, List.replicate_succ, List.length_cons, List.length_nil, Nat.sub_self, List.getElem?_cons_zero, List.getElem?_cons_succ, List.set_cons_zero, List.set_cons_succ, Option.some.injEq, exists_eq_left', exists_eq_left, exists_eq_right, exists_and_left, exists_and_right, and_true, true_and, CV.d.injEq, CV.loc.injEq, Cell.lst.injEq, Cell.dat.injEq, Cell.dic.injEq, PyData.int.injEq, PyData.bool.injEq, PyData.list.injEq, PyData.tuple.injEq, PyData.str.injEq, reduceCtorEq, false_and, and_false, exists_false, false_or, or_false, if_true, if_false, reduceIte, Bool.false_eq_true, Nat.reduceAdd, Nat.reduceSub, Nat.succ_sub_succ, Nat.zero_add, VL.gP, List.filterMap_cons, List.filterMap_nil, List.cons.injEq, VL.wDisp0, VL.wDisp, VL.wPairs, VL.oLcm, VL.wPop, VL.wRevM, VL.wClearM, VL.wTupRg, VL.wListRg, VL.wR1, VL.wR2, VL.wRevN, VL.oRepT, VL.oRepL, S__law_gcd, ab]
  refine ⟨a.natAbs, rfl, b.natAbs, rfl, ?_⟩
  rw [if_neg (by omega)]
  have e : ((Nat.gcd a.natAbs b.natAbs : Nat) : Int) = (Int.gcd a b : Nat) := rfl
  rw [e]
  refine ⟨cdv_gcd a a b h0 hb, cdv_gcd b a b h0 hb, by decide, ?_⟩
  rw [low_tup a b h0]
  exact h
theorem bd_den {p : Rat} (h : p.den < 2 ^ 2000) : Bd p.den := by
  unfold Bd
  rw [Int.natAbs_natCast]
  exact Nat.lt_trans h (Nat.pow_lt_pow_right (by decide) (by decide))
theorem bd_den2 {p q : Rat} (h : p.den < 2 ^ 2000) (h' : q.den < 2 ^ 2000) : Bd ((p.den : Int) * (q.den : Int)) := by
  unfold Bd
  rw [Int.natAbs_mul, Int.natAbs_natCast, Int.natAbs_natCast, show (2 : Nat) ^ 4000 = 2 ^ 2000 * 2 ^ 2000 by rw [← Nat.pow_add]]
  exact Nat.mul_lt_mul'' h h'
theorem add_q (p q : Rat) : (((p.num * (q.den : Int) + q.num * (p.den : Int) : Int) : Rat)) / (((p.den : Int) * (q.den : Int) : Int) : Rat) = p + q := by
  have e1 := qdiv p
  have e2 := qdiv q
  have n1 := bne (den_pos p)
  have n2 := bne (den_pos q)
  rw [Rat.intCast_add, Rat.intCast_mul, Rat.intCast_mul, Rat.intCast_mul]
  generalize ((p.den : Int) : Rat) = x at *
  generalize ((q.den : Int) : Rat) = y at *
  rw [← e1, ← e2]
  grind
theorem mul_q (p q : Rat) : (((p.num * q.num : Int) : Rat)) / (((p.den : Int) * (q.den : Int) : Int) : Rat) = p * q := by
  have e1 := qdiv p
  have e2 := qdiv q
  have n1 := bne (den_pos p)
  have n2 := bne (den_pos q)
  rw [Rat.intCast_mul, Rat.intCast_mul]
  generalize ((p.den : Int) : Rat) = x at *
  generalize ((q.den : Int) : Rat) = y at *
  rw [← e1, ← e2]
  grind
theorem lt_q (p q : Rat) : (p.num * (q.den : Int) - q.num * (p.den : Int) < 0) ↔ p < q := by
  rw [Rat.lt_iff]
  omega
end K03

end

/-! #### K03R -/
section
set_option autoImplicit false
set_option maxRecDepth 100000
set_option maxHeartbeats 2000000
set_option exponentiation.threshold 5000
namespace K03
open PySem PySem.Spec PyProof.Rows L2 VL
theorem num_bd {q : Rat} (n : Num q) : Bd q.den := by
  have := n.den
  exact small_bd (by omega) (by omega)
theorem num_small {q : Rat} (n : Num q) : 0 ≤ q.num ∧ q.num ≤ 200 ∧ q.num ≤ (q.den : Int) := by
  have h1 := q_num0 n.lo
  have h2 := q_num1 n.hi
  have := n.den
  exact ⟨h1, by omega, h2⟩
theorem cdv_num {q : Rat} (n : Num q) (x : Int) : CDv x (q.den : Int) := cdv_pos (den_pos q) (num_bd n)
theorem seq_gen {t u : WS} {w : WEn} {ρ : En} (h : ∀ k : En → Prop, (∀ ρ', k ρ' = u w ρ') → t { w with nx := k } ρ) : wSeq t u w ρ := h _ (fun _ => rfl)
theorem csh {x : Int} {j : Nat} (hx : x.natAbs < 2 ^ 400000) (hj : j ≤ 400000) : CSh x j := by
  have := log2_lt hx (by decide)
  exact ⟨by omega, by omega⟩
theorem csh_small {x : Int} {j : Nat} (h0 : 0 ≤ x) (h1 : x < 2 ^ 64) (hj : j ≤ 400000) : CSh x j := csh (Nat.lt_of_lt_of_le (small_bd h0 h1) (Nat.pow_le_pow_right (by decide) (by decide))) hj
theorem base2_bd : ∀ (row : List Int), (∀ x ∈ row, 0 ≤ x ∧ x ≤ 512) → ∀ c : Int, 0 ≤ c → 0 ≤ row.foldl (fun f p => 2 * f + p) c ∧ row.foldl (fun f p => 2 * f + p) c ≤ (c + 512) * 2 ^ row.length
  | [], _, c, hc => by
    show 0 ≤ c ∧ c ≤ (c + 512) * 2 ^ 0
    omega
  | x :: r, h, c, hc => by
    have hx := h x List.mem_cons_self
    have ih := base2_bd r (fun y hy => h y (List.mem_cons_of_mem _ hy)) (2 * c + x) (by omega)
    refine ⟨ih.1, Int.le_trans ih.2 ?_⟩
    rw [List.length_cons, Int.pow_succ, Int.mul_comm ((2 : Int) ^ r.length) 2, ← Int.mul_assoc]
    exact Int.mul_le_mul_of_nonneg_right (by omega) (Int.le_of_lt (Int.pow_pos (by decide)))
theorem ipow_le {m n : Nat} (h : m ≤ n) : (2 : Int) ^ m ≤ 2 ^ n := by
  have a : ((2 ^ m : Nat) : Int) = (2 : Int) ^ m := by simp
  have b : ((2 ^ n : Nat) : Int) = (2 : Int) ^ n := by simp
  have := Nat.pow_le_pow_right (n := 2) (by decide) h
  omega
theorem base2_big {row : List Int} (h : ∀ x ∈ row, 0 ≤ x ∧ x ≤ 512) (l : row.length ≤ 201) : 0 ≤ base2 row ∧ base2 row ≤ 512 * 2 ^ 201 := by
  have b := base2_bd row h 0 (by decide)
  refine ⟨b.1, Int.le_trans b.2 ?_⟩
  rw [Int.zero_add]
  exact Int.mul_le_mul_of_nonneg_left (ipow_le l) (by decide)
theorem natAbs_lt {x : Int} {m : Nat} (h0 : 0 ≤ x) (h : x < 2 ^ m) : x.natAbs < 2 ^ m := by
  have e : ((2 ^ m : Nat) : Int) = (2 : Int) ^ m := by simp
  omega
theorem h_sum_of_row (ρ : En) (Q : RV → En → Prop) (h : S_sum_of_row ρ Q) : t_sum_of_row (endsV 2 Q) (ρ ++ List.replicate (4 - 2) .un) := by
  obtain ⟨ahead, again, rfl, l1, l2, l3, b1, b2, h⟩ := h
  unfold t_sum_of_row
  unfold intT
  simp only [VL.wSeq, VL.wNext, VL.wNever, VL.wAsg, VL.wSet, VL.wVar, VL.wFrz, VL.wC, VL.wOp, VL.wTest, VL.wNotT, VL.wAndT, VL.wOrT, VL.wAnd, VL.wOr, VL.wNot, VL.wIf, VL.wNil, VL.wCons, VL.wTup, VL.wLst, VL.wStay, VL.wNew, VL.wPar, VL.wAug, VL.wDrop, VL.wRet, VL.wRetN, VL.wRet0, VL.wIfS, VL.wBrk, VL.wCnt, VL.wGt, VL.wGs, VL.wCB, VL.wCBN, VL.wCall, VL.wCallN, VL.wCallIo, VL.wCallIoN, VL.wCallK, VL.wIsi, VL.wIsi2, VL.wApp, VL.wExt, VL.wIns, VL.wSetIt, VL.wNoPart, VL.wPart, VL.wSl, VL.wSlN, VL.wChain, VL.wNeg, VL.wDnew, VL.wDput, VL.wDget, VL.wDin, VL.wDnin, VL.wIndex, VL.wRev, VL.wParNE, VL.wParEN, VL.wPar3, VL.wYes, VL.wSeqOf, VL.wRng1, VL.wRng2, VL.oI, VL.oI0, VL.oLt, VL.oLe, VL.oGt, VL.oGe, VL.oSub, VL.oMul, VL.oFdiv, VL.oMod, VL.oPow, VL.oShl', VL.oAbs, VL.oMax2, VL.oMin2, VL.oGcd, VL.atI_0, VL.atI_1, VL.atI_2, VL.ixN_20, VL.ixN_21, and_assoc, VL.shp_int, VL.shp_bool, VL.shp_none, VL.eqv_int, VL.eqv_bool, VL.isiD, VL.tyD, String.reduceBEq, Bool.not_true, Bool.not_false, Bool.and_true, Bool.and_false, Bool.true_and, Bool.false_and, Bool.or_true, Bool.or_false, Bool.true_or, Bool.false_or, decide_true, decide_false, Bool.not_eq_true', Bool.not_eq_eq_eq_not, decide_eq_true_eq, decide_eq_false_iff_not, VL.oInt1, VL.oInt2, VL.oLen, VL.oToInt, VL.oAdd, VL.oEq, VL.oNe, VL.oIsN, VL.oIn, VL.itemD, VL.isN, VL.der, VL.ders, VL.dats, VL.ioA, VL.endsV, VL.retE, VL.keepC, Option.map, List.range_succ, List.range_zero, List.map_cons, List.map_nil, List.map_append, List.nil_append, List.cons_append, List.append_nil, List.replicate_zero, List.replicate_succ, List.length_cons, List.length_nil, Nat.sub_self, List.getElem?_cons_zero, List.getElem?_cons_succ, List.set_cons_zero, List.set_cons_succ, Option.some.injEq, exists_eq_left', exists_eq_left, exists_eq_right, exists_and_left, exists_and_right, and_true, true_and, CV.d.injEq, CV.loc.injEq, Cell.lst.injEq, Cell.dat.injEq, Cell.dic.injEq, PyData.int.injEq, PyData.bool.injEq, PyData.list.injEq, PyData.tuple.injEq, PyData.str.injEq, reduceCtorEq, false_and, and_false, exists_false, false_or, or_false, if_true, if_false, reduceIte, Bool.false_eq_true, Nat.reduceAdd, Nat.reduceSub, Nat.succ_sub_succ, Nat.zero_add, VL.gP, List.filterMap_cons, List.filterMap_nil, List.cons.injEq, VL.wDisp0, VL.wDisp, VL.wPairs, VL.oLcm, VL.wPop, VL.wRevM, VL.wClearM, VL.wTupRg, VL.wListRg, VL.wR1, VL.wR2, VL.wRevN, VL.oRepT, VL.oRepL, S_in_base_two, S_lowest, intT, List.length_map, Int.toNat_natCast, Int.one_mul]
  have r1 : (1 : Int) ≤ 2 ^ again.length - 1 := by
    have := ipow_le l3
    omega
  have r2 : (2 : Int) ^ again.length - 1 < 2 ^ 202 := by
    have := ipow_le (show again.length ≤ 201 from l2)
    omega
  have a1 := base2_big b1 l1
  have p1 : (0 : Int) < 2 ^ ahead.length := Int.pow_pos (by decide)
  have p2 : (2 : Int) ^ ahead.length ≤ 2 ^ 201 := ipow_le l1
  have pr : (0 : Int) < (2 ^ again.length - 1) * 2 ^ ahead.length := Int.mul_pos (by omega) p1
  have pl : ((2 : Int) ^ again.length - 1) * 2 ^ ahead.length < 2 ^ 404 := by
    have := Int.mul_le_mul (Int.le_of_lt r2) p2 (Int.le_of_lt p1) (by decide)
    exact Int.lt_of_le_of_lt this (by decide)
  have k1 : ∀ {x : Int} {m : Nat}, 0 ≤ x → x < 2 ^ m → m ≤ 400000 → x.natAbs < 2 ^ 400000 := fun a b c => Nat.lt_of_lt_of_le (natAbs_lt a b) (Nat.pow_le_pow_right (by decide) c)
  have k2 : ∀ {x : Int} {m : Nat}, 0 ≤ x → x < 2 ^ m → m ≤ 400000 → x.natAbs < 2 ^ 490000 := fun a b c => Nat.lt_of_lt_of_le (natAbs_lt a b) (Nat.pow_le_pow_right (by decide) (by omega))
  refine ⟨csh_small (by decide) (by decide) (by omega), ahead, rfl, cok_bd (k2 (m := 300) a1.1 (by omega) (by decide)) (k2 (m := 202) (by omega) r2 (by decide)), again, rfl, .inl (.inl ⟨by decide, by decide⟩), csh (k1 (m := 202) (by omega) r2 (by decide)) (by omega), pr, ?_, ?_⟩
  · exact Nat.lt_of_lt_of_le (natAbs_lt (by omega) pl) (Nat.pow_le_pow_right (by decide) (by decide))
  · exact h
theorem tp_bd {q : Rat} (n : Num q) (i : Nat) : 0 ≤ tp q.num q.den i ∧ tp q.num q.den i ≤ 512 := by
  have ns := num_small n
  have hp := den_pos q
  have hd := n.den
  cases i with
  | zero => exact ⟨ns.1, by show q.num ≤ 512; omega⟩
  | succ i =>
    rw [tp_succ]
    have a := rs_nonneg (a := q.num) hp i
    have b := rs_lt (a := q.num) hp i
    omega
theorem seg_bd {q : Rat} (n : Num q) (N t : Nat) : ∀ x ∈ seg (tp q.num q.den) N t, 0 ≤ x ∧ x ≤ 512 := by
  intro x hx
  unfold seg at hx
  obtain ⟨i, _, rfl⟩ := List.mem_map.mp hx
  exact tp_bd n _
theorem den_le (n d : Int) (h : 0 < d) : ((((n : Rat) / (d : Rat)).den : Nat) : Int) ≤ d := by
  rw [← low_den n d h, Int.fdiv_eq_ediv_of_nonneg _ (by omega)]
  exact Int.ediv_le_self _ (by omega)
/-! ### tails_of -/
def plc (a b : Int) (n : Nat) : List (Key × D) := (List.range n).map fun i => (Sum.inl (tp a b i), PyData.int (i : Int))
theorem plc_some {a b : Int} {x : Int} : ∀ {n : Nat} {d : D}, valD (plc a b n) (.inl x) = some d → ∃ i, i < n ∧ tp a b i = x ∧ d = .int (i : Int) := by
  intro n d h
  unfold valD at h
  cases e : (plc a b n).find? (fun kv => decide (kv.1 = Sum.inl x)) with
  | none =>
    rw [e] at h
    cases h
  | some kv =>
    rw [e] at h
    cases h
    have m := List.mem_of_find?_eq_some e
    have q := List.find?_some e
    unfold plc at m
    obtain ⟨i, hi, rfl⟩ := List.mem_map.mp m
    have q' : Sum.inl (tp a b i) = (Sum.inl x : Key) := of_decide_eq_true q
    cases q'
    exact ⟨i, List.mem_range.mp hi, rfl, rfl⟩
theorem plc_none {a b : Int} {x : Int} {n : Nat} (h : valD (plc a b n) (.inl x) = none) : ∀ i, i < n → tp a b i ≠ x := by
  intro i hi e
  unfold valD at h
  rw [Option.map_eq_none_iff] at h
  have := List.find?_eq_none.mp h (Sum.inl (tp a b i), PyData.int (i : Int)) (List.mem_map.mpr ⟨i, List.mem_range.mpr hi, rfl⟩)
  exact this (decide_eq_true (by rw [e]))
theorem plc_put {a b : Int} {n : Nat} (h : ∀ i, i < n → tp a b i ≠ tp a b n) : putD (plc a b n) (.inl (tp a b n)) (.int (n : Int)) = plc a b (n + 1) := by
  unfold putD
  rw [if_neg]
  · unfold plc
    rw [List.range_succ, List.map_append]
    rfl
  · intro z
    obtain ⟨kv, m, e⟩ := List.any_eq_true.mp z
    unfold plc at m
    obtain ⟨i, hi, rfl⟩ := List.mem_map.mp m
    have q' : Sum.inl (tp a b i) = (Sum.inl (tp a b n) : Key) := of_decide_eq_true e
    injection q' with q'
    exact h i (List.mem_range.mp hi) q'
theorem seg_take (g : Nat → Int) {s n : Nat} (h : s ≤ n) : (seg g n 0).take s = seg g s 0 := by
  unfold seg
  rw [← List.map_take, List.take_range, Nat.min_eq_left h]
theorem seg_drop (g : Nat → Int) (s p : Nat) : (seg g (s + p) 0).drop s = seg g p s := by
  refine List.ext_getElem (by simp [seg]) fun i h1 h2 => ?_
  simp [seg]
theorem map_seg (g : Nat → Int) (n : Nat) : (seg g n 0).map PyData.int ++ [PyData.int (g n)] = (seg g (n + 1) 0).map PyData.int := by
  rw [seg_succ, List.map_append, Nat.zero_add]
  rfl
theorem cut_lo {ds : List D} {s : Nat} (h : s ≤ ds.length) : VL.cutD ds none (some (s : Int)) = ds.take s := by
  unfold VL.cutD
  rw [HT.sIx_nat, HT.sIx_none, Nat.min_eq_left h]
  simp
theorem cut_hi {ds : List D} {s : Nat} (h : s ≤ ds.length) : VL.cutD ds (some (s : Int)) none = ds.drop s := by
  unfold VL.cutD
  rw [HT.sIx_nat, HT.sIx_none, Nat.min_eq_left h, List.take_of_length_le (by simp)]
theorem h_tails_of (ρ : En) (Q : RV → En → Prop) (h : S_tails_of ρ Q) : t_tails_of (endsV 1 Q) (ρ ++ List.replicate (6 - 1) .un) := by
  obtain ⟨q, rfl, n, h⟩ := h
  have ns := num_small n
  have hp := den_pos q
  have hd := n.den
  unfold t_tails_of
  refine seq_gen fun k hk => ?_
  simp only [VL.wSeq, VL.wNext, VL.wNever, VL.wAsg, VL.wSet, VL.wVar, VL.wFrz, VL.wC, VL.wOp, VL.wTest, VL.wNotT, VL.wAndT, VL.wOrT, VL.wAnd, VL.wOr, VL.wNot, VL.wIf, VL.wNil, VL.wCons, VL.wTup, VL.wLst, VL.wStay, VL.wNew, VL.wPar, VL.wAug, VL.wDrop, VL.wRet, VL.wRetN, VL.wRet0, VL.wIfS, VL.wBrk, VL.wCnt, VL.wGt, VL.wGs, VL.wCB, VL.wCBN, VL.wCall, VL.wCallN, VL.wCallIo, VL.wCallIoN, VL.wCallK, VL.wIsi, VL.wIsi2, VL.wApp, VL.wExt, VL.wIns, VL.wSetIt, VL.wNoPart, VL.wPart, VL.wSl, VL.wSlN, VL.wChain, VL.wNeg, VL.wDnew, VL.wDput, VL.wDget, VL.wDin, VL.wDnin, VL.wIndex, VL.wRev, VL.wParNE, VL.wParEN, VL.wPar3, VL.wYes, VL.wSeqOf, VL.wRng1, VL.wRng2, VL.oI, VL.oI0, VL.oLt, VL.oLe, VL.oGt, VL.oGe, VL.oSub, VL.oMul, VL.oFdiv, VL.oMod, VL.oPow, VL.oShl', VL.oAbs, VL.oMax2, VL.oMin2, VL.oGcd, VL.atI_0, VL.atI_1, VL.atI_2, VL.ixN_20, VL.ixN_21, and_assoc, VL.shp_int, VL.shp_bool, VL.shp_none, VL.eqv_int, VL.eqv_bool, VL.isiD, VL.tyD, String.reduceBEq, Bool.not_true, Bool.not_false, Bool.and_true, Bool.and_false, Bool.true_and, Bool.false_and, Bool.or_true, Bool.or_false, Bool.true_or, Bool.false_or, decide_true, decide_false, Bool.not_eq_true', Bool.not_eq_eq_eq_not, decide_eq_true_eq, decide_eq_false_iff_not, VL.oInt1, VL.oInt2, VL.oLen, VL.oToInt, VL.oAdd, VL.oEq, VL.oNe, VL.oIsN, VL.oIn, VL.itemD, VL.isN, VL.der, VL.ders, VL.dats, VL.ioA, VL.endsV, VL.retE, VL.keepC, Option.map, List.range_succ, List.range_zero, List.map_cons, List.map_nil, List.map_append, List.nil_append, List.cons_append, List.append_nil, List.replicate_zero, List.replicate_succ, List.length_cons, List.length_nil, Nat.sub_self, List.getElem?_cons_zero, List.getElem?_cons_succ, List.set_cons_zero, List.set_cons_succ, Option.some.injEq, exists_eq_left', exists_eq_left, exists_eq_right, exists_and_left, exists_and_right, and_true, true_and, CV.d.injEq, CV.loc.injEq, Cell.lst.injEq, Cell.dat.injEq, Cell.dic.injEq, PyData.int.injEq, PyData.bool.injEq, PyData.list.injEq, PyData.tuple.injEq, PyData.str.injEq, reduceCtorEq, false_and, and_false, exists_false, false_or, or_false, if_true, if_false, reduceIte, Bool.false_eq_true, Nat.reduceAdd, Nat.reduceSub, Nat.succ_sub_succ, Nat.zero_add, VL.gP, List.filterMap_cons, List.filterMap_nil, List.cons.injEq, VL.wDisp0, VL.wDisp, VL.wPairs, VL.oLcm, VL.wPop, VL.wRevM, VL.wClearM, VL.wTupRg, VL.wListRg, VL.wR1, VL.wR2, VL.wRevN, VL.oRepT, VL.oRepL]
  unfold rD
  try simp only [VL.wSeq, VL.wNext, VL.wNever, VL.wAsg, VL.wSet, VL.wVar, VL.wFrz, VL.wC, VL.wOp, VL.wTest, VL.wNotT, VL.wAndT, VL.wOrT, VL.wAnd, VL.wOr, VL.wNot, VL.wIf, VL.wNil, VL.wCons, VL.wTup, VL.wLst, VL.wStay, VL.wNew, VL.wPar, VL.wAug, VL.wDrop, VL.wRet, VL.wRetN, VL.wRet0, VL.wIfS, VL.wBrk, VL.wCnt, VL.wGt, VL.wGs, VL.wCB, VL.wCBN, VL.wCall, VL.wCallN, VL.wCallIo, VL.wCallIoN, VL.wCallK, VL.wIsi, VL.wIsi2, VL.wApp, VL.wExt, VL.wIns, VL.wSetIt, VL.wNoPart, VL.wPart, VL.wSl, VL.wSlN, VL.wChain, VL.wNeg, VL.wDnew, VL.wDput, VL.wDget, VL.wDin, VL.wDnin, VL.wIndex, VL.wRev, VL.wParNE, VL.wParEN, VL.wPar3, VL.wYes, VL.wSeqOf, VL.wRng1, VL.wRng2, VL.oI, VL.oI0, VL.oLt, VL.oLe, VL.oGt, VL.oGe, VL.oSub, VL.oMul, VL.oFdiv, VL.oMod, VL.oPow, VL.oShl', VL.oAbs, VL.oMax2, VL.oMin2, VL.oGcd, VL.atI_0, VL.atI_1, VL.atI_2, VL.ixN_20, VL.ixN_21, and_assoc, VL.shp_int, VL.shp_bool, VL.shp_none, VL.eqv_int, VL.eqv_bool, VL.isiD, VL.tyD, String.reduceBEq, Bool.not_true, Bool.not_false, Bool.and_true, Bool.and_false, Bool.true_and, Bool.false_and, Bool.or_true, Bool.or_false, Bool.true_or, Bool.false_or, decide_true, decide_false, Bool.not_eq_true', Bool.not_eq_eq_eq_not, decide_eq_true_eq, decide_eq_false_iff_not, VL.oInt1, VL.oInt2, VL.oLen, VL.oToInt, VL.oAdd, VL.oEq, VL.oNe, VL.oIsN, VL.oIn, VL.itemD, VL.isN, VL.der, VL.ders, VL.dats, VL.ioA, VL.endsV, VL.retE, VL.keepC, Option.map, List.range_succ, List.range_zero, List.map_cons, List.map_nil, List.map_append, List.nil_append, List.cons_append, List.append_nil, List.replicate_zero, List.replicate_succ, List.length_cons, List.length_nil, Nat.sub_self, List.getElem?_cons_zero, List.getElem?_cons_succ, List.set_cons_zero, List.set_cons_succ, Option.some.injEq, exists_eq_left', exists_eq_left, exists_eq_right, exists_and_left, exists_and_right, and_true, true_and, CV.d.injEq, CV.loc.injEq, Cell.lst.injEq, Cell.dat.injEq, Cell.dic.injEq, PyData.int.injEq, PyData.bool.injEq, PyData.list.injEq, PyData.tuple.injEq, PyData.str.injEq, reduceCtorEq, false_and, and_false, exists_false, false_or, or_false, if_true, if_false, reduceIte, Bool.false_eq_true, Nat.reduceAdd, Nat.reduceSub, Nat.succ_sub_succ, Nat.zero_add, VL.gP, List.filterMap_cons, List.filterMap_nil, List.cons.injEq, VL.wDisp0, VL.wDisp, VL.wPairs, VL.oLcm, VL.wPop, VL.wRevM, VL.wClearM, VL.wTupRg, VL.wListRg, VL.wR1, VL.wR2, VL.wRevN, VL.oRepT, VL.oRepL]
  rw [hk]
  clear hk k
  refine seq_gen fun k hk => ?_
  simp only [VL.wSeq, VL.wNext, VL.wNever, VL.wAsg, VL.wSet, VL.wVar, VL.wFrz, VL.wC, VL.wOp, VL.wTest, VL.wNotT, VL.wAndT, VL.wOrT, VL.wAnd, VL.wOr, VL.wNot, VL.wIf, VL.wNil, VL.wCons, VL.wTup, VL.wLst, VL.wStay, VL.wNew, VL.wPar, VL.wAug, VL.wDrop, VL.wRet, VL.wRetN, VL.wRet0, VL.wIfS, VL.wBrk, VL.wCnt, VL.wGt, VL.wGs, VL.wCB, VL.wCBN, VL.wCall, VL.wCallN, VL.wCallIo, VL.wCallIoN, VL.wCallK, VL.wIsi, VL.wIsi2, VL.wApp, VL.wExt, VL.wIns, VL.wSetIt, VL.wNoPart, VL.wPart, VL.wSl, VL.wSlN, VL.wChain, VL.wNeg, VL.wDnew, VL.wDput, VL.wDget, VL.wDin, VL.wDnin, VL.wIndex, VL.wRev, VL.wParNE, VL.wParEN, VL.wPar3, VL.wYes, VL.wSeqOf, VL.wRng1, VL.wRng2, VL.oI, VL.oI0, VL.oLt, VL.oLe, VL.oGt, VL.oGe, VL.oSub, VL.oMul, VL.oFdiv, VL.oMod, VL.oPow, VL.oShl', VL.oAbs, VL.oMax2, VL.oMin2, VL.oGcd, VL.atI_0, VL.atI_1, VL.atI_2, VL.ixN_20, VL.ixN_21, and_assoc, VL.shp_int, VL.shp_bool, VL.shp_none, VL.eqv_int, VL.eqv_bool, VL.isiD, VL.tyD, String.reduceBEq, Bool.not_true, Bool.not_false, Bool.and_true, Bool.and_false, Bool.true_and, Bool.false_and, Bool.or_true, Bool.or_false, Bool.true_or, Bool.false_or, decide_true, decide_false, Bool.not_eq_true', Bool.not_eq_eq_eq_not, decide_eq_true_eq, decide_eq_false_iff_not, VL.oInt1, VL.oInt2, VL.oLen, VL.oToInt, VL.oAdd, VL.oEq, VL.oNe, VL.oIsN, VL.oIn, VL.itemD, VL.isN, VL.der, VL.ders, VL.dats, VL.ioA, VL.endsV, VL.retE, VL.keepC, Option.map, List.range_succ, List.range_zero, List.map_cons, List.map_nil, List.map_append, List.nil_append, List.cons_append, List.append_nil, List.replicate_zero, List.replicate_succ, List.length_cons, List.length_nil, Nat.sub_self, List.getElem?_cons_zero, List.getElem?_cons_succ, List.set_cons_zero, List.set_cons_succ, Option.some.injEq, exists_eq_left', exists_eq_left, exists_eq_right, exists_and_left, exists_and_right, and_true, true_and, CV.d.injEq, CV.loc.injEq, Cell.lst.injEq, Cell.dat.injEq, Cell.dic.injEq, PyData.int.injEq, PyData.bool.injEq, PyData.list.injEq, PyData.tuple.injEq, PyData.str.injEq, reduceCtorEq, false_and, and_false, exists_false, false_or, or_false, if_true, if_false, reduceIte, Bool.false_eq_true, Nat.reduceAdd, Nat.reduceSub, Nat.succ_sub_succ, Nat.zero_add, VL.gP, List.filterMap_cons, List.filterMap_nil, List.cons.injEq, VL.wDisp0, VL.wDisp, VL.wPairs, VL.oLcm, VL.wPop, VL.wRevM, VL.wClearM, VL.wTupRg, VL.wListRg, VL.wR1, VL.wR2, VL.wRevN, VL.oRepT, VL.oRepL]
  refine ⟨by decide, by decide, ?_⟩
  rw [hk]
  clear hk k
  refine seq_gen fun k hk => ?_
  simp only [VL.wSeq, VL.wNext, VL.wNever, VL.wAsg, VL.wSet, VL.wVar, VL.wFrz, VL.wC, VL.wOp, VL.wTest, VL.wNotT, VL.wAndT, VL.wOrT, VL.wAnd, VL.wOr, VL.wNot, VL.wIf, VL.wNil, VL.wCons, VL.wTup, VL.wLst, VL.wStay, VL.wNew, VL.wPar, VL.wAug, VL.wDrop, VL.wRet, VL.wRetN, VL.wRet0, VL.wIfS, VL.wBrk, VL.wCnt, VL.wGt, VL.wGs, VL.wCB, VL.wCBN, VL.wCall, VL.wCallN, VL.wCallIo, VL.wCallIoN, VL.wCallK, VL.wIsi, VL.wIsi2, VL.wApp, VL.wExt, VL.wIns, VL.wSetIt, VL.wNoPart, VL.wPart, VL.wSl, VL.wSlN, VL.wChain, VL.wNeg, VL.wDnew, VL.wDput, VL.wDget, VL.wDin, VL.wDnin, VL.wIndex, VL.wRev, VL.wParNE, VL.wParEN, VL.wPar3, VL.wYes, VL.wSeqOf, VL.wRng1, VL.wRng2, VL.oI, VL.oI0, VL.oLt, VL.oLe, VL.oGt, VL.oGe, VL.oSub, VL.oMul, VL.oFdiv, VL.oMod, VL.oPow, VL.oShl', VL.oAbs, VL.oMax2, VL.oMin2, VL.oGcd, VL.atI_0, VL.atI_1, VL.atI_2, VL.ixN_20, VL.ixN_21, and_assoc, VL.shp_int, VL.shp_bool, VL.shp_none, VL.eqv_int, VL.eqv_bool, VL.isiD, VL.tyD, String.reduceBEq, Bool.not_true, Bool.not_false, Bool.and_true, Bool.and_false, Bool.true_and, Bool.false_and, Bool.or_true, Bool.or_false, Bool.true_or, Bool.false_or, decide_true, decide_false, Bool.not_eq_true', Bool.not_eq_eq_eq_not, decide_eq_true_eq, decide_eq_false_iff_not, VL.oInt1, VL.oInt2, VL.oLen, VL.oToInt, VL.oAdd, VL.oEq, VL.oNe, VL.oIsN, VL.oIn, VL.itemD, VL.isN, VL.der, VL.ders, VL.dats, VL.ioA, VL.endsV, VL.retE, VL.keepC, Option.map, List.range_succ, List.range_zero, List.map_cons, List.map_nil, List.map_append, List.nil_append, List.cons_append, List.append_nil, List.replicate_zero, List.replicate_succ, List.length_cons, List.length_nil, Nat.sub_self, List.getElem?_cons_zero, List.getElem?_cons_succ, List.set_cons_zero, List.set_cons_succ, Option.some.injEq, exists_eq_left', exists_eq_left, exists_eq_right, exists_and_left, exists_and_right, and_true, true_and, CV.d.injEq, CV.loc.injEq, Cell.lst.injEq, Cell.dat.injEq, Cell.dic.injEq, PyData.int.injEq, PyData.bool.injEq, PyData.list.injEq, PyData.tuple.injEq, PyData.str.injEq, reduceCtorEq, false_and, and_false, exists_false, false_or, or_false, if_true, if_false, reduceIte, Bool.false_eq_true, Nat.reduceAdd, Nat.reduceSub, Nat.succ_sub_succ, Nat.zero_add, VL.gP, List.filterMap_cons, List.filterMap_nil, List.cons.injEq, VL.wDisp0, VL.wDisp, VL.wPairs, VL.oLcm, VL.wPop, VL.wRevM, VL.wClearM, VL.wTupRg, VL.wListRg, VL.wR1, VL.wR2, VL.wRevN, VL.oRepT, VL.oRepL]
  refine ⟨by decide, ?_⟩
  rw [hk]
  clear hk k
  refine seq_gen fun k hk => ?_
  unfold wWhile
  refine ⟨fun m ρ => ∃ n : Nat, ρ = [.dat (rD q), .lst false ((seg (tp q.num q.den) n 0).map .int), .dic (plc q.num q.den n), .un, .dat (.int (tp q.num q.den n)), .dat (.int q.den)] ∧ (∀ i j, i < j → j < n → tp q.num q.den i ≠ tp q.num q.den j) ∧ n + m = 202, ⟨202, 0, rfl, fun i j h1 h2 => by omega, rfl⟩, ?_⟩
  rintro m ρ ⟨n, rfl, hi, hm⟩
  have nb := tp_few (a := q.num) hp hi
  simp only [VL.wSeq, VL.wNext, VL.wNever, VL.wAsg, VL.wSet, VL.wVar, VL.wFrz, VL.wC, VL.wOp, VL.wTest, VL.wNotT, VL.wAndT, VL.wOrT, VL.wAnd, VL.wOr, VL.wNot, VL.wIf, VL.wNil, VL.wCons, VL.wTup, VL.wLst, VL.wStay, VL.wNew, VL.wPar, VL.wAug, VL.wDrop, VL.wRet, VL.wRetN, VL.wRet0, VL.wIfS, VL.wBrk, VL.wCnt, VL.wGt, VL.wGs, VL.wCB, VL.wCBN, VL.wCall, VL.wCallN, VL.wCallIo, VL.wCallIoN, VL.wCallK, VL.wIsi, VL.wIsi2, VL.wApp, VL.wExt, VL.wIns, VL.wSetIt, VL.wNoPart, VL.wPart, VL.wSl, VL.wSlN, VL.wChain, VL.wNeg, VL.wDnew, VL.wDput, VL.wDget, VL.wDin, VL.wDnin, VL.wIndex, VL.wRev, VL.wParNE, VL.wParEN, VL.wPar3, VL.wYes, VL.wSeqOf, VL.wRng1, VL.wRng2, VL.oI, VL.oI0, VL.oLt, VL.oLe, VL.oGt, VL.oGe, VL.oSub, VL.oMul, VL.oFdiv, VL.oMod, VL.oPow, VL.oShl', VL.oAbs, VL.oMax2, VL.oMin2, VL.oGcd, VL.atI_0, VL.atI_1, VL.atI_2, VL.ixN_20, VL.ixN_21, and_assoc, VL.shp_int, VL.shp_bool, VL.shp_none, VL.eqv_int, VL.eqv_bool, VL.isiD, VL.tyD, String.reduceBEq, Bool.not_true, Bool.not_false, Bool.and_true, Bool.and_false, Bool.true_and, Bool.false_and, Bool.or_true, Bool.or_false, Bool.true_or, Bool.false_or, decide_true, decide_false, Bool.not_eq_true', Bool.not_eq_eq_eq_not, decide_eq_true_eq, decide_eq_false_iff_not, VL.oInt1, VL.oInt2, VL.oLen, VL.oToInt, VL.oAdd, VL.oEq, VL.oNe, VL.oIsN, VL.oIn, VL.itemD, VL.isN, VL.der, VL.ders, VL.dats, VL.ioA, VL.endsV, VL.retE, VL.keepC, Option.map, List.range_succ, List.range_zero, List.map_cons, List.map_nil, List.map_append, List.nil_append, List.cons_append, List.append_nil, List.replicate_zero, List.replicate_succ, List.length_cons, List.length_nil, Nat.sub_self, List.getElem?_cons_zero, List.getElem?_cons_succ, List.set_cons_zero, List.set_cons_succ, Option.some.injEq, exists_eq_left', exists_eq_left, exists_eq_right, exists_and_left, exists_and_right, and_true, true_and, CV.d.injEq, CV.loc.injEq, Cell.lst.injEq, Cell.dat.injEq, Cell.dic.injEq, PyData.int.injEq, PyData.bool.injEq, PyData.list.injEq, PyData.tuple.injEq, PyData.str.injEq, reduceCtorEq, false_and, and_false, exists_false, false_or, or_false, if_true, if_false, reduceIte, Bool.false_eq_true, Nat.reduceAdd, Nat.reduceSub, Nat.succ_sub_succ, Nat.zero_add, VL.gP, List.filterMap_cons, List.filterMap_nil, List.cons.injEq, VL.wDisp0, VL.wDisp, VL.wPairs, VL.oLcm, VL.wPop, VL.wRevM, VL.wClearM, VL.wTupRg, VL.wListRg, VL.wR1, VL.wR2, VL.wRevN, VL.oRepT, VL.oRepL]
  refine ⟨Sum.inl (tp q.num q.den n), rfl, ?_⟩
  cases ev : valD (plc q.num q.den n) (Sum.inl (tp q.num q.den n)) with
  | none =>
    rw [if_pos (show (none : Option D).isSome = false from rfl)]
    have hn := plc_none ev
    refine ⟨⟨_, rfl⟩, Sum.inl (tp q.num q.den n), rfl, ?_, ⟨_, rfl⟩, ?_, by omega, .inl (.inr ⟨by decide, by decide⟩), m - 1, ?_, n + 1, map_seg _ _, ?_, rfl, ?_, ?_⟩
    · rw [show (plc q.num q.den n).length = n by simp [plc]]
      exact Nat.lt_of_le_of_lt (show n ≤ 1000 by omega) (by decide)
    · rw [List.length_map, seg_len]
      exact Nat.lt_of_le_of_lt (show n ≤ 1000 by omega) (by decide)
    · omega
    · rw [List.length_map, seg_len]
      exact plc_put hn
    · intro i j h1 h2
      by_cases e : j = n
      · subst e
        exact hn i h1
      · exact hi i j h1 (by omega)
    · omega
  | some d =>
    obtain ⟨s, h1, h2, rfl⟩ := plc_some ev
    rw [if_neg (by simp)]
    rw [hk]
    clear hk k
    simp only [VL.wSeq, VL.wNext, VL.wNever, VL.wAsg, VL.wSet, VL.wVar, VL.wFrz, VL.wC, VL.wOp, VL.wTest, VL.wNotT, VL.wAndT, VL.wOrT, VL.wAnd, VL.wOr, VL.wNot, VL.wIf, VL.wNil, VL.wCons, VL.wTup, VL.wLst, VL.wStay, VL.wNew, VL.wPar, VL.wAug, VL.wDrop, VL.wRet, VL.wRetN, VL.wRet0, VL.wIfS, VL.wBrk, VL.wCnt, VL.wGt, VL.wGs, VL.wCB, VL.wCBN, VL.wCall, VL.wCallN, VL.wCallIo, VL.wCallIoN, VL.wCallK, VL.wIsi, VL.wIsi2, VL.wApp, VL.wExt, VL.wIns, VL.wSetIt, VL.wNoPart, VL.wPart, VL.wSl, VL.wSlN, VL.wChain, VL.wNeg, VL.wDnew, VL.wDput, VL.wDget, VL.wDin, VL.wDnin, VL.wIndex, VL.wRev, VL.wParNE, VL.wParEN, VL.wPar3, VL.wYes, VL.wSeqOf, VL.wRng1, VL.wRng2, VL.oI, VL.oI0, VL.oLt, VL.oLe, VL.oGt, VL.oGe, VL.oSub, VL.oMul, VL.oFdiv, VL.oMod, VL.oPow, VL.oShl', VL.oAbs, VL.oMax2, VL.oMin2, VL.oGcd, VL.atI_0, VL.atI_1, VL.atI_2, VL.ixN_20, VL.ixN_21, and_assoc, VL.shp_int, VL.shp_bool, VL.shp_none, VL.eqv_int, VL.eqv_bool, VL.isiD, VL.tyD, String.reduceBEq, Bool.not_true, Bool.not_false, Bool.and_true, Bool.and_false, Bool.true_and, Bool.false_and, Bool.or_true, Bool.or_false, Bool.true_or, Bool.false_or, decide_true, decide_false, Bool.not_eq_true', Bool.not_eq_eq_eq_not, decide_eq_true_eq, decide_eq_false_iff_not, VL.oInt1, VL.oInt2, VL.oLen, VL.oToInt, VL.oAdd, VL.oEq, VL.oNe, VL.oIsN, VL.oIn, VL.itemD, VL.isN, VL.der, VL.ders, VL.dats, VL.ioA, VL.endsV, VL.retE, VL.keepC, Option.map, List.range_succ, List.range_zero, List.map_cons, List.map_nil, List.map_append, List.nil_append, List.cons_append, List.append_nil, List.replicate_zero, List.replicate_succ, List.length_cons, List.length_nil, Nat.sub_self, List.getElem?_cons_zero, List.getElem?_cons_succ, List.set_cons_zero, List.set_cons_succ, Option.some.injEq, exists_eq_left', exists_eq_left, exists_eq_right, exists_and_left, exists_and_right, and_true, true_and, CV.d.injEq, CV.loc.injEq, Cell.lst.injEq, Cell.dat.injEq, Cell.dic.injEq, PyData.int.injEq, PyData.bool.injEq, PyData.list.injEq, PyData.tuple.injEq, PyData.str.injEq, reduceCtorEq, false_and, and_false, exists_false, false_or, or_false, if_true, if_false, reduceIte, Bool.false_eq_true, Nat.reduceAdd, Nat.reduceSub, Nat.succ_sub_succ, Nat.zero_add, VL.gP, List.filterMap_cons, List.filterMap_nil, List.cons.injEq, VL.wDisp0, VL.wDisp, VL.wPairs, VL.oLcm, VL.wPop, VL.wRevM, VL.wClearM, VL.wTupRg, VL.wListRg, VL.wR1, VL.wR2, VL.wRevN, VL.oRepT, VL.oRepL]
    refine ⟨⟨_, rfl⟩, _, rfl, _, ev, ?_⟩
    simp only [VL.wSeq, VL.wNext, VL.wNever, VL.wAsg, VL.wSet, VL.wVar, VL.wFrz, VL.wC, VL.wOp, VL.wTest, VL.wNotT, VL.wAndT, VL.wOrT, VL.wAnd, VL.wOr, VL.wNot, VL.wIf, VL.wNil, VL.wCons, VL.wTup, VL.wLst, VL.wStay, VL.wNew, VL.wPar, VL.wAug, VL.wDrop, VL.wRet, VL.wRetN, VL.wRet0, VL.wIfS, VL.wBrk, VL.wCnt, VL.wGt, VL.wGs, VL.wCB, VL.wCBN, VL.wCall, VL.wCallN, VL.wCallIo, VL.wCallIoN, VL.wCallK, VL.wIsi, VL.wIsi2, VL.wApp, VL.wExt, VL.wIns, VL.wSetIt, VL.wNoPart, VL.wPart, VL.wSl, VL.wSlN, VL.wChain, VL.wNeg, VL.wDnew, VL.wDput, VL.wDget, VL.wDin, VL.wDnin, VL.wIndex, VL.wRev, VL.wParNE, VL.wParEN, VL.wPar3, VL.wYes, VL.wSeqOf, VL.wRng1, VL.wRng2, VL.oI, VL.oI0, VL.oLt, VL.oLe, VL.oGt, VL.oGe, VL.oSub, VL.oMul, VL.oFdiv, VL.oMod, VL.oPow, VL.oShl', VL.oAbs, VL.oMax2, VL.oMin2, VL.oGcd, VL.atI_0, VL.atI_1, VL.atI_2, VL.ixN_20, VL.ixN_21, and_assoc, VL.shp_int, VL.shp_bool, VL.shp_none, VL.eqv_int, VL.eqv_bool, VL.isiD, VL.tyD, String.reduceBEq, Bool.not_true, Bool.not_false, Bool.and_true, Bool.and_false, Bool.true_and, Bool.false_and, Bool.or_true, Bool.or_false, Bool.true_or, Bool.false_or, decide_true, decide_false, Bool.not_eq_true', Bool.not_eq_eq_eq_not, decide_eq_true_eq, decide_eq_false_iff_not, VL.oInt1, VL.oInt2, VL.oLen, VL.oToInt, VL.oAdd, VL.oEq, VL.oNe, VL.oIsN, VL.oIn, VL.itemD, VL.isN, VL.der, VL.ders, VL.dats, VL.ioA, VL.endsV, VL.retE, VL.keepC, Option.map, List.range_succ, List.range_zero, List.map_cons, List.map_nil, List.map_append, List.nil_append, List.cons_append, List.append_nil, List.replicate_zero, List.replicate_succ, List.length_cons, List.length_nil, Nat.sub_self, List.getElem?_cons_zero, List.getElem?_cons_succ, List.set_cons_zero, List.set_cons_succ, Option.some.injEq, exists_eq_left', exists_eq_left, exists_eq_right, exists_and_left, exists_and_right, and_true, true_and, CV.d.injEq, CV.loc.injEq, Cell.lst.injEq, Cell.dat.injEq, Cell.dic.injEq, PyData.int.injEq, PyData.bool.injEq, PyData.list.injEq, PyData.tuple.injEq, PyData.str.injEq, reduceCtorEq, false_and, and_false, exists_false, false_or, or_false, if_true, if_false, reduceIte, Bool.false_eq_true, Nat.reduceAdd, Nat.reduceSub, Nat.succ_sub_succ, Nat.zero_add, VL.gP, List.filterMap_cons, List.filterMap_nil, List.cons.injEq, VL.wDisp0, VL.wDisp, VL.wPairs, VL.oLcm, VL.wPop, VL.wRevM, VL.wClearM, VL.wTupRg, VL.wListRg, VL.wR1, VL.wR2, VL.wRevN, VL.oRepT, VL.oRepL]
    have l : s ≤ ((seg (tp q.num q.den) n 0).map PyData.int).length := by
      rw [List.length_map, seg_len]
      omega
    rw [cut_lo l, cut_hi l, ← List.map_take, ← List.map_drop, seg_take _ (Nat.le_of_lt h1)]
    obtain ⟨p, rfl⟩ : ∃ p, n = s + p := ⟨n - s, by omega⟩
    rw [seg_drop]
    exact ⟨by decide, h s p ⟨by omega, h2.symm, hi⟩⟩
end K03

end

/-! #### K03W -/
section
set_option autoImplicit false
set_option maxRecDepth 100000
set_option maxHeartbeats 2000000
set_option exponentiation.threshold 5000
namespace K03
open PySem PySem.Spec PyProof.Rows L2 VL
theorem z__law_same {ρ : En} {Q : RV → En → Prop} (h : S__law_same 0 ρ Q) : False := by
  obtain ⟨d, _, h, _⟩ := h
  cases h
theorem atI_at {ds : List D} {i : Nat} (hi : i < ds.length) : atI ds (i : Int) = some ds[i] := by
  unfold atI
  rw [show ixN ds.length (i : Int) = some i by simp [ixN]; omega]
  simp [hi]
theorem h__law_same (j : Nat) (ρ : En) (Q : RV → En → Prop) (h : S__law_same (j + 1) ρ Q) : t__law_same j (endsV 2 Q) (ρ ++ List.replicate (3 - 2) .un) := by
  obtain ⟨d, rfl, ok, h⟩ := h
  unfold t__law_same
  cases ok with
  | int _ i =>
    simp only [VL.wSeq, VL.wNext, VL.wNever, VL.wAsg, VL.wSet, VL.wVar, VL.wFrz, VL.wC, VL.wOp, VL.wTest, VL.wNotT, VL.wAndT, VL.wOrT, VL.wAnd, VL.wOr, VL.wNot, VL.wIf, VL.wNil, VL.wCons, VL.wTup, VL.wLst, VL.wStay, VL.wNew, VL.wPar, VL.wAug, VL.wDrop, VL.wRet, VL.wRetN, VL.wRet0, VL.wIfS, VL.wBrk, VL.wCnt, VL.wGt, VL.wGs, VL.wCB, VL.wCBN, VL.wCall, VL.wCallN, VL.wCallIo, VL.wCallIoN, VL.wCallK, VL.wIsi, VL.wIsi2, VL.wApp, VL.wExt, VL.wIns, VL.wSetIt, VL.wNoPart, VL.wPart, VL.wSl, VL.wSlN, VL.wChain, VL.wNeg, VL.wDnew, VL.wDput, VL.wDget, VL.wDin, VL.wDnin, VL.wIndex, VL.wRev, VL.wParNE, VL.wParEN, VL.wPar3, VL.wYes, VL.wSeqOf, VL.wRng1, VL.wRng2, VL.oI, VL.oI0, VL.oLt, VL.oLe, VL.oGt, VL.oGe, VL.oSub, VL.oMul, VL.oFdiv, VL.oMod, VL.oPow, VL.oShl', VL.oAbs, VL.oMax2, VL.oMin2, VL.oGcd, VL.atI_0, VL.atI_1, VL.atI_2, VL.ixN_20, VL.ixN_21, and_assoc, VL.shp_int, VL.shp_bool, VL.shp_none, VL.eqv_int, VL.eqv_bool, VL.isiD, VL.tyD, String.reduceBEq, Bool.not_true, Bool.not_false, Bool.and_true, Bool.and_false, Bool.true_and, Bool.false_and, Bool.or_true, Bool.or_false, Bool.true_or, Bool.false_or, decide_true, decide_false, Bool.not_eq_true', Bool.not_eq_eq_eq_not, decide_eq_true_eq, decide_eq_false_iff_not, VL.oInt1, VL.oInt2, VL.oLen, VL.oToInt, VL.oAdd, VL.oEq, VL.oNe, VL.oIsN, VL.oIn, VL.itemD, VL.isN, VL.der, VL.ders, VL.dats, VL.ioA, VL.endsV, VL.retE, VL.keepC, Option.map, List.range_succ, List.range_zero, List.map_cons, List.map_nil, List.map_append, List.nil_append, List.cons_append, List.append_nil, List.replicate_zero, List.replicate_succ, List.length_cons, List.length_nil, Nat.sub_self, List.getElem?_cons_zero, List.getElem?_cons_succ, List.set_cons_zero, List.set_cons_succ, Option.some.injEq, exists_eq_left', exists_eq_left, exists_eq_right, exists_and_left, exists_and_right, and_true, true_and, CV.d.injEq, CV.loc.injEq, Cell.lst.injEq, Cell.dat.injEq, Cell.dic.injEq, PyData.int.injEq, PyData.bool.injEq, PyData.list.injEq, PyData.tuple.injEq, PyData.str.injEq, reduceCtorEq, false_and, and_false, exists_false, false_or, or_false, if_true, if_false, reduceIte, Bool.false_eq_true, Nat.reduceAdd, Nat.reduceSub, Nat.succ_sub_succ, Nat.zero_add, VL.gP, List.filterMap_cons, List.filterMap_nil, List.cons.injEq, VL.wDisp0, VL.wDisp, VL.wPairs, VL.oLcm, VL.wPop, VL.wRevM, VL.wClearM, VL.wTupRg, VL.wListRg, VL.wR1, VL.wR2, VL.wRevN, VL.oRepT, VL.oRepL, tyD]
    exact h
  | lst _ ds hl hd =>
    simp only [VL.wSeq, VL.wNext, VL.wNever, VL.wAsg, VL.wSet, VL.wVar, VL.wFrz, VL.wC, VL.wOp, VL.wTest, VL.wNotT, VL.wAndT, VL.wOrT, VL.wAnd, VL.wOr, VL.wNot, VL.wIf, VL.wNil, VL.wCons, VL.wTup, VL.wLst, VL.wStay, VL.wNew, VL.wPar, VL.wAug, VL.wDrop, VL.wRet, VL.wRetN, VL.wRet0, VL.wIfS, VL.wBrk, VL.wCnt, VL.wGt, VL.wGs, VL.wCB, VL.wCBN, VL.wCall, VL.wCallN, VL.wCallIo, VL.wCallIoN, VL.wCallK, VL.wIsi, VL.wIsi2, VL.wApp, VL.wExt, VL.wIns, VL.wSetIt, VL.wNoPart, VL.wPart, VL.wSl, VL.wSlN, VL.wChain, VL.wNeg, VL.wDnew, VL.wDput, VL.wDget, VL.wDin, VL.wDnin, VL.wIndex, VL.wRev, VL.wParNE, VL.wParEN, VL.wPar3, VL.wYes, VL.wSeqOf, VL.wRng1, VL.wRng2, VL.oI, VL.oI0, VL.oLt, VL.oLe, VL.oGt, VL.oGe, VL.oSub, VL.oMul, VL.oFdiv, VL.oMod, VL.oPow, VL.oShl', VL.oAbs, VL.oMax2, VL.oMin2, VL.oGcd, VL.atI_0, VL.atI_1, VL.atI_2, VL.ixN_20, VL.ixN_21, and_assoc, VL.shp_int, VL.shp_bool, VL.shp_none, VL.eqv_int, VL.eqv_bool, VL.isiD, VL.tyD, String.reduceBEq, Bool.not_true, Bool.not_false, Bool.and_true, Bool.and_false, Bool.true_and, Bool.false_and, Bool.or_true, Bool.or_false, Bool.true_or, Bool.false_or, decide_true, decide_false, Bool.not_eq_true', Bool.not_eq_eq_eq_not, decide_eq_true_eq, decide_eq_false_iff_not, VL.oInt1, VL.oInt2, VL.oLen, VL.oToInt, VL.oAdd, VL.oEq, VL.oNe, VL.oIsN, VL.oIn, VL.itemD, VL.isN, VL.der, VL.ders, VL.dats, VL.ioA, VL.endsV, VL.retE, VL.keepC, Option.map, List.range_succ, List.range_zero, List.map_cons, List.map_nil, List.map_append, List.nil_append, List.cons_append, List.append_nil, List.replicate_zero, List.replicate_succ, List.length_cons, List.length_nil, Nat.sub_self, List.getElem?_cons_zero, List.getElem?_cons_succ, List.set_cons_zero, List.set_cons_succ, Option.some.injEq, exists_eq_left', exists_eq_left, exists_eq_right, exists_and_left, exists_and_right, and_true, true_and, CV.d.injEq, CV.loc.injEq, Cell.lst.injEq, Cell.dat.injEq, Cell.dic.injEq, PyData.int.injEq, PyData.bool.injEq, PyData.list.injEq, PyData.tuple.injEq, PyData.str.injEq, reduceCtorEq, false_and, and_false, exists_false, false_or, or_false, if_true, if_false, reduceIte, Bool.false_eq_true, Nat.reduceAdd, Nat.reduceSub, Nat.succ_sub_succ, Nat.zero_add, VL.gP, List.filterMap_cons, List.filterMap_nil, List.cons.injEq, VL.wDisp0, VL.wDisp, VL.wPairs, VL.oLcm, VL.wPop, VL.wRevM, VL.wClearM, VL.wTupRg, VL.wListRg, VL.wR1, VL.wR2, VL.wRevN, VL.oRepT, VL.oRepL, tyD]
    unfold wLc
    simp only [VL.wSeq, VL.wNext, VL.wNever, VL.wAsg, VL.wSet, VL.wVar, VL.wFrz, VL.wC, VL.wOp, VL.wTest, VL.wNotT, VL.wAndT, VL.wOrT, VL.wAnd, VL.wOr, VL.wNot, VL.wIf, VL.wNil, VL.wCons, VL.wTup, VL.wLst, VL.wStay, VL.wNew, VL.wPar, VL.wAug, VL.wDrop, VL.wRet, VL.wRetN, VL.wRet0, VL.wIfS, VL.wBrk, VL.wCnt, VL.wGt, VL.wGs, VL.wCB, VL.wCBN, VL.wCall, VL.wCallN, VL.wCallIo, VL.wCallIoN, VL.wCallK, VL.wIsi, VL.wIsi2, VL.wApp, VL.wExt, VL.wIns, VL.wSetIt, VL.wNoPart, VL.wPart, VL.wSl, VL.wSlN, VL.wChain, VL.wNeg, VL.wDnew, VL.wDput, VL.wDget, VL.wDin, VL.wDnin, VL.wIndex, VL.wRev, VL.wParNE, VL.wParEN, VL.wPar3, VL.wYes, VL.wSeqOf, VL.wRng1, VL.wRng2, VL.oI, VL.oI0, VL.oLt, VL.oLe, VL.oGt, VL.oGe, VL.oSub, VL.oMul, VL.oFdiv, VL.oMod, VL.oPow, VL.oShl', VL.oAbs, VL.oMax2, VL.oMin2, VL.oGcd, VL.atI_0, VL.atI_1, VL.atI_2, VL.ixN_20, VL.ixN_21, and_assoc, VL.shp_int, VL.shp_bool, VL.shp_none, VL.eqv_int, VL.eqv_bool, VL.isiD, VL.tyD, String.reduceBEq, Bool.not_true, Bool.not_false, Bool.and_true, Bool.and_false, Bool.true_and, Bool.false_and, Bool.or_true, Bool.or_false, Bool.true_or, Bool.false_or, decide_true, decide_false, Bool.not_eq_true', Bool.not_eq_eq_eq_not, decide_eq_true_eq, decide_eq_false_iff_not, VL.oInt1, VL.oInt2, VL.oLen, VL.oToInt, VL.oAdd, VL.oEq, VL.oNe, VL.oIsN, VL.oIn, VL.itemD, VL.isN, VL.der, VL.ders, VL.dats, VL.ioA, VL.endsV, VL.retE, VL.keepC, Option.map, List.range_succ, List.range_zero, List.map_cons, List.map_nil, List.map_append, List.nil_append, List.cons_append, List.append_nil, List.replicate_zero, List.replicate_succ, List.length_cons, List.length_nil, Nat.sub_self, List.getElem?_cons_zero, List.getElem?_cons_succ, List.set_cons_zero, List.set_cons_succ, Option.some.injEq, exists_eq_left', exists_eq_left, exists_eq_right, exists_and_left, exists_and_right, and_true, true_and, CV.d.injEq, CV.loc.injEq, Cell.lst.injEq, Cell.dat.injEq, Cell.dic.injEq, PyData.int.injEq, PyData.bool.injEq, PyData.list.injEq, PyData.tuple.injEq, PyData.str.injEq, reduceCtorEq, false_and, and_false, exists_false, false_or, or_false, if_true, if_false, reduceIte, Bool.false_eq_true, Nat.reduceAdd, Nat.reduceSub, Nat.succ_sub_succ, Nat.zero_add, VL.gP, List.filterMap_cons, List.filterMap_nil, List.cons.injEq, VL.wDisp0, VL.wDisp, VL.wPairs, VL.oLcm, VL.wPop, VL.wRevM, VL.wClearM, VL.wTupRg, VL.wListRg, VL.wR1, VL.wR2, VL.wRevN, VL.oRepT, VL.oRepL, wipeE]
    refine ⟨⟨by omega, by omega⟩, fun i acc ρ => acc = [] ∧ ρ = [.dat (.list ds), .dat (.list ds), .un], ⟨rfl, rfl⟩, ?_, ?_⟩
    · rintro i acc ρ d ⟨rfl, rfl⟩ hx
      obtain ⟨rfl, hi⟩ := rng_at hx
      simp only [VL.wSeq, VL.wNext, VL.wNever, VL.wAsg, VL.wSet, VL.wVar, VL.wFrz, VL.wC, VL.wOp, VL.wTest, VL.wNotT, VL.wAndT, VL.wOrT, VL.wAnd, VL.wOr, VL.wNot, VL.wIf, VL.wNil, VL.wCons, VL.wTup, VL.wLst, VL.wStay, VL.wNew, VL.wPar, VL.wAug, VL.wDrop, VL.wRet, VL.wRetN, VL.wRet0, VL.wIfS, VL.wBrk, VL.wCnt, VL.wGt, VL.wGs, VL.wCB, VL.wCBN, VL.wCall, VL.wCallN, VL.wCallIo, VL.wCallIoN, VL.wCallK, VL.wIsi, VL.wIsi2, VL.wApp, VL.wExt, VL.wIns, VL.wSetIt, VL.wNoPart, VL.wPart, VL.wSl, VL.wSlN, VL.wChain, VL.wNeg, VL.wDnew, VL.wDput, VL.wDget, VL.wDin, VL.wDnin, VL.wIndex, VL.wRev, VL.wParNE, VL.wParEN, VL.wPar3, VL.wYes, VL.wSeqOf, VL.wRng1, VL.wRng2, VL.oI, VL.oI0, VL.oLt, VL.oLe, VL.oGt, VL.oGe, VL.oSub, VL.oMul, VL.oFdiv, VL.oMod, VL.oPow, VL.oShl', VL.oAbs, VL.oMax2, VL.oMin2, VL.oGcd, VL.atI_0, VL.atI_1, VL.atI_2, VL.ixN_20, VL.ixN_21, and_assoc, VL.shp_int, VL.shp_bool, VL.shp_none, VL.eqv_int, VL.eqv_bool, VL.isiD, VL.tyD, String.reduceBEq, Bool.not_true, Bool.not_false, Bool.and_true, Bool.and_false, Bool.true_and, Bool.false_and, Bool.or_true, Bool.or_false, Bool.true_or, Bool.false_or, decide_true, decide_false, Bool.not_eq_true', Bool.not_eq_eq_eq_not, decide_eq_true_eq, decide_eq_false_iff_not, VL.oInt1, VL.oInt2, VL.oLen, VL.oToInt, VL.oAdd, VL.oEq, VL.oNe, VL.oIsN, VL.oIn, VL.itemD, VL.isN, VL.der, VL.ders, VL.dats, VL.ioA, VL.endsV, VL.retE, VL.keepC, Option.map, List.range_succ, List.range_zero, List.map_cons, List.map_nil, List.map_append, List.nil_append, List.cons_append, List.append_nil, List.replicate_zero, List.replicate_succ, List.length_cons, List.length_nil, Nat.sub_self, List.getElem?_cons_zero, List.getElem?_cons_succ, List.set_cons_zero, List.set_cons_succ, Option.some.injEq, exists_eq_left', exists_eq_left, exists_eq_right, exists_and_left, exists_and_right, and_true, true_and, CV.d.injEq, CV.loc.injEq, Cell.lst.injEq, Cell.dat.injEq, Cell.dic.injEq, PyData.int.injEq, PyData.bool.injEq, PyData.list.injEq, PyData.tuple.injEq, PyData.str.injEq, reduceCtorEq, false_and, and_false, exists_false, false_or, or_false, if_true, if_false, reduceIte, Bool.false_eq_true, Nat.reduceAdd, Nat.reduceSub, Nat.succ_sub_succ, Nat.zero_add, VL.gP, List.filterMap_cons, List.filterMap_nil, List.cons.injEq, VL.wDisp0, VL.wDisp, VL.wPairs, VL.oLcm, VL.wPop, VL.wRevM, VL.wClearM, VL.wTupRg, VL.wListRg, VL.wR1, VL.wR2, VL.wRevN, VL.oRepT, VL.oRepL, S__law_same, atI_at hi]
      exact hd _ (List.getElem_mem hi)
    · rintro acc ρ ⟨rfl, rfl⟩
      exact ⟨by decide, rfl, rfl, h⟩
  | tup _ ds hl hd =>
    simp only [VL.wSeq, VL.wNext, VL.wNever, VL.wAsg, VL.wSet, VL.wVar, VL.wFrz, VL.wC, VL.wOp, VL.wTest, VL.wNotT, VL.wAndT, VL.wOrT, VL.wAnd, VL.wOr, VL.wNot, VL.wIf, VL.wNil, VL.wCons, VL.wTup, VL.wLst, VL.wStay, VL.wNew, VL.wPar, VL.wAug, VL.wDrop, VL.wRet, VL.wRetN, VL.wRet0, VL.wIfS, VL.wBrk, VL.wCnt, VL.wGt, VL.wGs, VL.wCB, VL.wCBN, VL.wCall, VL.wCallN, VL.wCallIo, VL.wCallIoN, VL.wCallK, VL.wIsi, VL.wIsi2, VL.wApp, VL.wExt, VL.wIns, VL.wSetIt, VL.wNoPart, VL.wPart, VL.wSl, VL.wSlN, VL.wChain, VL.wNeg, VL.wDnew, VL.wDput, VL.wDget, VL.wDin, VL.wDnin, VL.wIndex, VL.wRev, VL.wParNE, VL.wParEN, VL.wPar3, VL.wYes, VL.wSeqOf, VL.wRng1, VL.wRng2, VL.oI, VL.oI0, VL.oLt, VL.oLe, VL.oGt, VL.oGe, VL.oSub, VL.oMul, VL.oFdiv, VL.oMod, VL.oPow, VL.oShl', VL.oAbs, VL.oMax2, VL.oMin2, VL.oGcd, VL.atI_0, VL.atI_1, VL.atI_2, VL.ixN_20, VL.ixN_21, and_assoc, VL.shp_int, VL.shp_bool, VL.shp_none, VL.eqv_int, VL.eqv_bool, VL.isiD, VL.tyD, String.reduceBEq, Bool.not_true, Bool.not_false, Bool.and_true, Bool.and_false, Bool.true_and, Bool.false_and, Bool.or_true, Bool.or_false, Bool.true_or, Bool.false_or, decide_true, decide_false, Bool.not_eq_true', Bool.not_eq_eq_eq_not, decide_eq_true_eq, decide_eq_false_iff_not, VL.oInt1, VL.oInt2, VL.oLen, VL.oToInt, VL.oAdd, VL.oEq, VL.oNe, VL.oIsN, VL.oIn, VL.itemD, VL.isN, VL.der, VL.ders, VL.dats, VL.ioA, VL.endsV, VL.retE, VL.keepC, Option.map, List.range_succ, List.range_zero, List.map_cons, List.map_nil, List.map_append, List.nil_append, List.cons_append, List.append_nil, List.replicate_zero, List.replicate_succ, List.length_cons, List.length_nil, Nat.sub_self, List.getElem?_cons_zero, List.getElem?_cons_succ, List.set_cons_zero, List.set_cons_succ, Option.some.injEq, exists_eq_left', exists_eq_left, exists_eq_right, exists_and_left, exists_and_right, and_true, true_and, CV.d.injEq, CV.loc.injEq, Cell.lst.injEq, Cell.dat.injEq, Cell.dic.injEq, PyData.int.injEq, PyData.bool.injEq, PyData.list.injEq, PyData.tuple.injEq, PyData.str.injEq, reduceCtorEq, false_and, and_false, exists_false, false_or, or_false, if_true, if_false, reduceIte, Bool.false_eq_true, Nat.reduceAdd, Nat.reduceSub, Nat.succ_sub_succ, Nat.zero_add, VL.gP, List.filterMap_cons, List.filterMap_nil, List.cons.injEq, VL.wDisp0, VL.wDisp, VL.wPairs, VL.oLcm, VL.wPop, VL.wRevM, VL.wClearM, VL.wTupRg, VL.wListRg, VL.wR1, VL.wR2, VL.wRevN, VL.oRepT, VL.oRepL, tyD]
    unfold wLc
    simp only [VL.wSeq, VL.wNext, VL.wNever, VL.wAsg, VL.wSet, VL.wVar, VL.wFrz, VL.wC, VL.wOp, VL.wTest, VL.wNotT, VL.wAndT, VL.wOrT, VL.wAnd, VL.wOr, VL.wNot, VL.wIf, VL.wNil, VL.wCons, VL.wTup, VL.wLst, VL.wStay, VL.wNew, VL.wPar, VL.wAug, VL.wDrop, VL.wRet, VL.wRetN, VL.wRet0, VL.wIfS, VL.wBrk, VL.wCnt, VL.wGt, VL.wGs, VL.wCB, VL.wCBN, VL.wCall, VL.wCallN, VL.wCallIo, VL.wCallIoN, VL.wCallK, VL.wIsi, VL.wIsi2, VL.wApp, VL.wExt, VL.wIns, VL.wSetIt, VL.wNoPart, VL.wPart, VL.wSl, VL.wSlN, VL.wChain, VL.wNeg, VL.wDnew, VL.wDput, VL.wDget, VL.wDin, VL.wDnin, VL.wIndex, VL.wRev, VL.wParNE, VL.wParEN, VL.wPar3, VL.wYes, VL.wSeqOf, VL.wRng1, VL.wRng2, VL.oI, VL.oI0, VL.oLt, VL.oLe, VL.oGt, VL.oGe, VL.oSub, VL.oMul, VL.oFdiv, VL.oMod, VL.oPow, VL.oShl', VL.oAbs, VL.oMax2, VL.oMin2, VL.oGcd, VL.atI_0, VL.atI_1, VL.atI_2, VL.ixN_20, VL.ixN_21, and_assoc, VL.shp_int, VL.shp_bool, VL.shp_none, VL.eqv_int, VL.eqv_bool, VL.isiD, VL.tyD, String.reduceBEq, Bool.not_true, Bool.not_false, Bool.and_true, Bool.and_false, Bool.true_and, Bool.false_and, Bool.or_true, Bool.or_false, Bool.true_or, Bool.false_or, decide_true, decide_false, Bool.not_eq_true', Bool.not_eq_eq_eq_not, decide_eq_true_eq, decide_eq_false_iff_not, VL.oInt1, VL.oInt2, VL.oLen, VL.oToInt, VL.oAdd, VL.oEq, VL.oNe, VL.oIsN, VL.oIn, VL.itemD, VL.isN, VL.der, VL.ders, VL.dats, VL.ioA, VL.endsV, VL.retE, VL.keepC, Option.map, List.range_succ, List.range_zero, List.map_cons, List.map_nil, List.map_append, List.nil_append, List.cons_append, List.append_nil, List.replicate_zero, List.replicate_succ, List.length_cons, List.length_nil, Nat.sub_self, List.getElem?_cons_zero, List.getElem?_cons_succ, List.set_cons_zero, List.set_cons_succ, Option.some.injEq, exists_eq_left', exists_eq_left, exists_eq_right, exists_and_left, exists_and_right, and_true, true_and, CV.d.injEq, CV.loc.injEq, Cell.lst.injEq, Cell.dat.injEq, Cell.dic.injEq, PyData.int.injEq, PyData.bool.injEq, PyData.list.injEq, PyData.tuple.injEq, PyData.str.injEq, reduceCtorEq, false_and, and_false, exists_false, false_or, or_false, if_true, if_false, reduceIte, Bool.false_eq_true, Nat.reduceAdd, Nat.reduceSub, Nat.succ_sub_succ, Nat.zero_add, VL.gP, List.filterMap_cons, List.filterMap_nil, List.cons.injEq, VL.wDisp0, VL.wDisp, VL.wPairs, VL.oLcm, VL.wPop, VL.wRevM, VL.wClearM, VL.wTupRg, VL.wListRg, VL.wR1, VL.wR2, VL.wRevN, VL.oRepT, VL.oRepL, wipeE]
    refine ⟨⟨by omega, by omega⟩, fun i acc ρ => acc = [] ∧ ρ = [.dat (.tuple ds), .dat (.tuple ds), .un], ⟨rfl, rfl⟩, ?_, ?_⟩
    · rintro i acc ρ d ⟨rfl, rfl⟩ hx
      obtain ⟨rfl, hi⟩ := rng_at hx
      simp only [VL.wSeq, VL.wNext, VL.wNever, VL.wAsg, VL.wSet, VL.wVar, VL.wFrz, VL.wC, VL.wOp, VL.wTest, VL.wNotT, VL.wAndT, VL.wOrT, VL.wAnd, VL.wOr, VL.wNot, VL.wIf, VL.wNil, VL.wCons, VL.wTup, VL.wLst, VL.wStay, VL.wNew, VL.wPar, VL.wAug, VL.wDrop, VL.wRet, VL.wRetN, VL.wRet0, VL.wIfS, VL.wBrk, VL.wCnt, VL.wGt, VL.wGs, VL.wCB, VL.wCBN, VL.wCall, VL.wCallN, VL.wCallIo, VL.wCallIoN, VL.wCallK, VL.wIsi, VL.wIsi2, VL.wApp, VL.wExt, VL.wIns, VL.wSetIt, VL.wNoPart, VL.wPart, VL.wSl, VL.wSlN, VL.wChain, VL.wNeg, VL.wDnew, VL.wDput, VL.wDget, VL.wDin, VL.wDnin, VL.wIndex, VL.wRev, VL.wParNE, VL.wParEN, VL.wPar3, VL.wYes, VL.wSeqOf, VL.wRng1, VL.wRng2, VL.oI, VL.oI0, VL.oLt, VL.oLe, VL.oGt, VL.oGe, VL.oSub, VL.oMul, VL.oFdiv, VL.oMod, VL.oPow, VL.oShl', VL.oAbs, VL.oMax2, VL.oMin2, VL.oGcd, VL.atI_0, VL.atI_1, VL.atI_2, VL.ixN_20, VL.ixN_21, and_assoc, VL.shp_int, VL.shp_bool, VL.shp_none, VL.eqv_int, VL.eqv_bool, VL.isiD, VL.tyD, String.reduceBEq, Bool.not_true, Bool.not_false, Bool.and_true, Bool.and_false, Bool.true_and, Bool.false_and, Bool.or_true, Bool.or_false, Bool.true_or, Bool.false_or, decide_true, decide_false, Bool.not_eq_true', Bool.not_eq_eq_eq_not, decide_eq_true_eq, decide_eq_false_iff_not, VL.oInt1, VL.oInt2, VL.oLen, VL.oToInt, VL.oAdd, VL.oEq, VL.oNe, VL.oIsN, VL.oIn, VL.itemD, VL.isN, VL.der, VL.ders, VL.dats, VL.ioA, VL.endsV, VL.retE, VL.keepC, Option.map, List.range_succ, List.range_zero, List.map_cons, List.map_nil, List.map_append, List.nil_append, List.cons_append, List.append_nil, List.replicate_zero, List.replicate_succ, List.length_cons, List.length_nil, Nat.sub_self, List.getElem?_cons_zero, List.getElem?_cons_succ, List.set_cons_zero, List.set_cons_succ, Option.some.injEq, exists_eq_left', exists_eq_left, exists_eq_right, exists_and_left, exists_and_right, and_true, true_and, CV.d.injEq, CV.loc.injEq, Cell.lst.injEq, Cell.dat.injEq, Cell.dic.injEq, PyData.int.injEq, PyData.bool.injEq, PyData.list.injEq, PyData.tuple.injEq, PyData.str.injEq, reduceCtorEq, false_and, and_false, exists_false, false_or, or_false, if_true, if_false, reduceIte, Bool.false_eq_true, Nat.reduceAdd, Nat.reduceSub, Nat.succ_sub_succ, Nat.zero_add, VL.gP, List.filterMap_cons, List.filterMap_nil, List.cons.injEq, VL.wDisp0, VL.wDisp, VL.wPairs, VL.oLcm, VL.wPop, VL.wRevM, VL.wClearM, VL.wTupRg, VL.wListRg, VL.wR1, VL.wR2, VL.wRevN, VL.oRepT, VL.oRepL, S__law_same, atI_at hi]
      exact hd _ (List.getElem_mem hi)
    · rintro acc ρ ⟨rfl, rfl⟩
      exact ⟨by decide, rfl, rfl, h⟩
theorem inD_ints {x : Int} {ns : List Int} : inD (.int x) (ns.map PyData.int) = decide (x ∈ ns) := by
  induction ns with
  | nil => rfl
  | cons n r ih =>
    unfold inD at ih ⊢
    rw [List.map_cons, List.any_cons, ih, eqv_int]
    by_cases e : n = x
    · subst e
      simp
    · rw [decide_eq_false e, Bool.false_or]
      simp [Ne.symm e]
theorem flat_ints {ns : List Int} : (ns.map PyData.int).all flatD = true := by
  rw [List.all_map]
  exact List.all_eq_true.mpr fun x _ => rfl
theorem mem_seg {g : Nat → Int} {n : Nat} {x : Int} : x ∈ seg g n 0 ↔ ∃ i, i < n ∧ g i = x := by
  unfold seg
  rw [List.mem_map]
  constructor
  · rintro ⟨i, hi, rfl⟩
    exact ⟨i, List.mem_range.mp hi, by rw [Nat.zero_add]⟩
  · rintro ⟨i, hi, rfl⟩
    exact ⟨i, List.mem_range.mpr hi, by rw [Nat.zero_add]⟩
theorem seg_at {g : Nat → Int} {n i : Nat} {d : D} (h : ((seg g n 0).map PyData.int)[i]? = some d) : d = .int (g i) ∧ i < n := by
  obtain ⟨x, rfl, hx⟩ := int_at h
  obtain ⟨h1, h2⟩ := List.getElem?_eq_some_iff.mp hx
  rw [seg_len] at h1
  refine ⟨?_, h1⟩
  rw [← h2]
  simp [seg]
theorem at_seg {g : Nat → Int} {n i : Nat} (h : i < n) : ((seg g n 0).map PyData.int)[i]? = some (.int (g i)) := by
  rw [List.getElem?_map]
  have : (seg g n 0)[i]? = some (g i) := by
    rw [List.getElem?_eq_getElem (by rw [seg_len]; exact h)]
    simp [seg]
  rw [this]
  rfl
end K03

end

/-! #### K03A -/
section
set_option autoImplicit false
set_option maxRecDepth 100000
set_option maxHeartbeats 2000000
set_option exponentiation.threshold 5000
namespace K03
open PySem PySem.Spec PyProof.Rows L2 VL
theorem half_D : PyData.tuple [.int 1, .int 2] = rD (1 / 2) := by
  unfold rD
  rw [show (1 / 2 : Rat).num = 1 from by decide +kernel, show (1 / 2 : Rat).den = 2 from by decide +kernel]
  rfl
theorem zero_D : PyData.tuple [.int 0, .int 1] = rD 0 := rfl
theorem pair_D (q : Rat) (a b : Int) (h : q.num = a) (h2 : (q.den : Int) = b) : PyData.tuple [.int a, .int b] = rD q := by
  subst h h2
  rfl
theorem num_div {r : Nat} {b : Int} (h0 : 1 ≤ b) (h1 : (r : Int) ≤ b) (h2 : b ≤ 200) : Num (((r : Int) : Rat) / (b : Rat)) := by
  have bp : (0 : Rat) < (b : Rat) := Rat.intCast_pos.mpr (by omega)
  have r0 : (0 : Rat) ≤ ((r : Int) : Rat) := Rat.intCast_nonneg.mpr (by omega)
  have r1 : ((r : Int) : Rat) ≤ (b : Rat) := Rat.intCast_le_intCast.mpr h1
  have xi : 0 < ((b : Rat))⁻¹ := Rat.inv_pos.mpr bp
  refine ⟨?_, ?_, ?_⟩
  · rw [Rat.div_def]
    exact Rat.mul_nonneg r0 (by grind)
  · rw [Rat.div_def]
    have m := Rat.mul_le_mul_of_nonneg_right r1 (show 0 ≤ ((b : Rat))⁻¹ by grind)
    have : (b : Rat) * (b : Rat)⁻¹ = 1 := by
      have := bne (show 0 < b by omega)
      grind
    grind
  · have := den_le (r : Int) b (by omega)
    omega
theorem num_of (q : Rat) (h0 : 0 ≤ q) (h1 : q ≤ 1) (h : q.den ≤ 200) : Num q := ⟨h0, h1, h⟩
theorem at6 {α : Type} {x0 x1 x2 x3 x4 x5 : α} {r : Nat} (h : (r : Int) < 6) {P : α → Prop} (h0 : P x0) (h1 : P x1) (h2 : P x2) (h3 : P x3) (h4 : P x4) (h5 : P x5) : ∃ x, atI [x0, x1, x2, x3, x4, x5] (r : Int) = some x ∧ P x := by
  have : r = 0 ∨ r = 1 ∨ r = 2 ∨ r = 3 ∨ r = 4 ∨ r = 5 := by omega
  rcases this with rfl | rfl | rfl | rfl | rfl | rfl
  · exact ⟨_, rfl, h0⟩
  · exact ⟨_, rfl, h1⟩
  · exact ⟨_, rfl, h2⟩
  · exact ⟨_, rfl, h3⟩
  · exact ⟨_, rfl, h4⟩
  · exact ⟨_, rfl, h5⟩
theorem at_all {ds : List D} {r : Nat} {m : Int} (h : (r : Int) < m) (hm : m = (ds.length : Int)) {P : D → Prop} (hP : ∀ x ∈ ds, P x) : ∃ x, atI ds (r : Int) = some x ∧ P x := by
  have hl : r < ds.length := by omega
  exact ⟨_, atI_at hl, hP _ (List.getElem_mem hl)⟩
theorem h__law_drawn_number (ρ : En) (Q : RV → En → Prop) (h : S__law_drawn_number ρ Q) : t__law_drawn_number (endsV 2 Q) (ρ ++ List.replicate (4 - 2) .un) := by
  obtain ⟨a, b, rfl, h⟩ := h
  unfold t__law_drawn_number
  refine seq_gen fun k hk => ?_
  simp only [VL.wSeq, VL.wNext, VL.wNever, VL.wAsg, VL.wSet, VL.wVar, VL.wFrz, VL.wC, VL.wOp, VL.wTest, VL.wNotT, VL.wAndT, VL.wOrT, VL.wAnd, VL.wOr, VL.wNot, VL.wIf, VL.wNil, VL.wCons, VL.wTup, VL.wLst, VL.wStay, VL.wNew, VL.wPar, VL.wAug, VL.wDrop, VL.wRet, VL.wRetN, VL.wRet0, VL.wIfS, VL.wBrk, VL.wCnt, VL.wGt, VL.wGs, VL.wCB, VL.wCBN, VL.wCall, VL.wCallN, VL.wCallIo, VL.wCallIoN, VL.wCallK, VL.wIsi, VL.wIsi2, VL.wApp, VL.wExt, VL.wIns, VL.wSetIt, VL.wNoPart, VL.wPart, VL.wSl, VL.wSlN, VL.wChain, VL.wNeg, VL.wDnew, VL.wDput, VL.wDget, VL.wDin, VL.wDnin, VL.wIndex, VL.wRev, VL.wParNE, VL.wParEN, VL.wPar3, VL.wYes, VL.wSeqOf, VL.wRng1, VL.wRng2, VL.oI, VL.oI0, VL.oLt, VL.oLe, VL.oGt, VL.oGe, VL.oSub, VL.oMul, VL.oFdiv, VL.oMod, VL.oPow, VL.oShl', VL.oAbs, VL.oMax2, VL.oMin2, VL.oGcd, VL.atI_0, VL.atI_1, VL.atI_2, VL.ixN_20, VL.ixN_21, and_assoc, VL.shp_int, VL.shp_bool, VL.shp_none, VL.eqv_int, VL.eqv_bool, VL.isiD, VL.tyD, String.reduceBEq, Bool.not_true, Bool.not_false, Bool.and_true, Bool.and_false, Bool.true_and, Bool.false_and, Bool.or_true, Bool.or_false, Bool.true_or, Bool.false_or, decide_true, decide_false, Bool.not_eq_true', Bool.not_eq_eq_eq_not, decide_eq_true_eq, decide_eq_false_iff_not, VL.oInt1, VL.oInt2, VL.oLen, VL.oToInt, VL.oAdd, VL.oEq, VL.oNe, VL.oIsN, VL.oIn, VL.itemD, VL.isN, VL.der, VL.ders, VL.dats, VL.ioA, VL.endsV, VL.retE, VL.keepC, Option.map, List.range_succ, List.range_zero, List.map_cons, List.map_nil, List.map_append, List.nil_append, List.cons_append, List.append_nil, List.replicate_zero, List.replicate_succ, List.length_cons, List.length_nil, Nat.sub_self, List.getElem?_cons_zero, List.getElem?_cons_succ, List.set_cons_zero, List.set_cons_succ, Option.some.injEq, exists_eq_left', exists_eq_left, exists_eq_right, exists_and_left, exists_and_right, and_true, true_and, CV.d.injEq, CV.loc.injEq, Cell.lst.injEq, Cell.dat.injEq, Cell.dic.injEq, PyData.int.injEq, PyData.bool.injEq, PyData.list.injEq, PyData.tuple.injEq, PyData.str.injEq, reduceCtorEq, false_and, and_false, exists_false, false_or, or_false, if_true, if_false, reduceIte, Bool.false_eq_true, Nat.reduceAdd, Nat.reduceSub, Nat.succ_sub_succ, Nat.zero_add, VL.gP, List.filterMap_cons, List.filterMap_nil, List.cons.injEq, VL.wDisp0, VL.wDisp, VL.wPairs, VL.oLcm, VL.wPop, VL.wRevM, VL.wClearM, VL.wTupRg, VL.wListRg, VL.wR1, VL.wR2, VL.wRevN, VL.oRepT, VL.oRepL, S__law_take, Prod.mk.injEq]
  refine ⟨⟨_, rfl⟩, by decide, by decide, fun way a1 b1 hw => ⟨⟨_, rfl⟩, by decide, by decide, fun r1 a2 b2 hr1 => ?_⟩⟩
  rw [hk]
  clear hk k a b a1 b1
  have hb0 : 1 ≤ 1 + (r1 : Int) := by omega
  have hb1 : 1 + (r1 : Int) ≤ 200 := by omega
  generalize 1 + (r1 : Int) = β at *
  refine seq_gen fun k hk => ?_
  have tail : ∀ (β a b : Int), 1 ≤ β → β ≤ 200 → k [.lst true [.int a, .int b], .dat (.int 200), .dat (.int way), .dat (.int β)] := by
    intro β a b hb0 hb1
    rw [hk]
    clear hk k
    refine seq_gen fun k hk => ?_
    have tail : ∀ (β a b : Int), 1 ≤ β → β ≤ 200 → k [.lst true [.int a, .int b], .dat (.int 200), .dat (.int way), .dat (.int β)] := by
      intro β a b hb0 hb1
      rw [hk]
      clear hk k
      refine seq_gen fun k hk => ?_
      have tail : ∀ (β a b : Int), 1 ≤ β → β ≤ 200 → k [.lst true [.int a, .int b], .dat (.int 200), .dat (.int way), .dat (.int β)] := by
        intro β a b hb0 hb1
        rw [hk]
        clear hk k
        refine seq_gen fun k hk => ?_
        have tail : ∀ (β a b : Int), 1 ≤ β → β ≤ 200 → k [.lst true [.int a, .int b], .dat (.int 200), .dat (.int way), .dat (.int β)] := by
          intro β a b hb0 hb1
          rw [hk]
          clear hk k
          simp only [VL.wSeq, VL.wNext, VL.wNever, VL.wAsg, VL.wSet, VL.wVar, VL.wFrz, VL.wC, VL.wOp, VL.wTest, VL.wNotT, VL.wAndT, VL.wOrT, VL.wAnd, VL.wOr, VL.wNot, VL.wIf, VL.wNil, VL.wCons, VL.wTup, VL.wLst, VL.wStay, VL.wNew, VL.wPar, VL.wAug, VL.wDrop, VL.wRet, VL.wRetN, VL.wRet0, VL.wIfS, VL.wBrk, VL.wCnt, VL.wGt, VL.wGs, VL.wCB, VL.wCBN, VL.wCall, VL.wCallN, VL.wCallIo, VL.wCallIoN, VL.wCallK, VL.wIsi, VL.wIsi2, VL.wApp, VL.wExt, VL.wIns, VL.wSetIt, VL.wNoPart, VL.wPart, VL.wSl, VL.wSlN, VL.wChain, VL.wNeg, VL.wDnew, VL.wDput, VL.wDget, VL.wDin, VL.wDnin, VL.wIndex, VL.wRev, VL.wParNE, VL.wParEN, VL.wPar3, VL.wYes, VL.wSeqOf, VL.wRng1, VL.wRng2, VL.oI, VL.oI0, VL.oLt, VL.oLe, VL.oGt, VL.oGe, VL.oSub, VL.oMul, VL.oFdiv, VL.oMod, VL.oPow, VL.oShl', VL.oAbs, VL.oMax2, VL.oMin2, VL.oGcd, VL.atI_0, VL.atI_1, VL.atI_2, VL.ixN_20, VL.ixN_21, and_assoc, VL.shp_int, VL.shp_bool, VL.shp_none, VL.eqv_int, VL.eqv_bool, VL.isiD, VL.tyD, String.reduceBEq, Bool.not_true, Bool.not_false, Bool.and_true, Bool.and_false, Bool.true_and, Bool.false_and, Bool.or_true, Bool.or_false, Bool.true_or, Bool.false_or, decide_true, decide_false, Bool.not_eq_true', Bool.not_eq_eq_eq_not, decide_eq_true_eq, decide_eq_false_iff_not, VL.oInt1, VL.oInt2, VL.oLen, VL.oToInt, VL.oAdd, VL.oEq, VL.oNe, VL.oIsN, VL.oIn, VL.itemD, VL.isN, VL.der, VL.ders, VL.dats, VL.ioA, VL.endsV, VL.retE, VL.keepC, Option.map, List.range_succ, List.range_zero, List.map_cons, List.map_nil, List.map_append, List.nil_append, List.cons_append, List.append_nil, List.replicate_zero, List.replicate_succ, List.length_cons, List.length_nil, Nat.sub_self, List.getElem?_cons_zero, List.getElem?_cons_succ, List.set_cons_zero, List.set_cons_succ, Option.some.injEq, exists_eq_left', exists_eq_left, exists_eq_right, exists_and_left, exists_and_right, and_true, true_and, CV.d.injEq, CV.loc.injEq, Cell.lst.injEq, Cell.dat.injEq, Cell.dic.injEq, PyData.int.injEq, PyData.bool.injEq, PyData.list.injEq, PyData.tuple.injEq, PyData.str.injEq, reduceCtorEq, false_and, and_false, exists_false, false_or, or_false, if_true, if_false, reduceIte, Bool.false_eq_true, Nat.reduceAdd, Nat.reduceSub, Nat.succ_sub_succ, Nat.zero_add, VL.gP, List.filterMap_cons, List.filterMap_nil, List.cons.injEq, VL.wDisp0, VL.wDisp, VL.wPairs, VL.oLcm, VL.wPop, VL.wRevM, VL.wClearM, VL.wTupRg, VL.wListRg, VL.wR1, VL.wR2, VL.wRevN, VL.oRepT, VL.oRepL, S__law_take, S__law_pair, Prod.mk.injEq]
          exact ⟨⟨_, rfl⟩, by omega, by omega, fun r a' b' hr => ⟨by omega, small_bd (by omega) (by omega), h _ _ _ (num_div hb0 (by omega) hb1)⟩⟩
        simp only [VL.wSeq, VL.wNext, VL.wNever, VL.wAsg, VL.wSet, VL.wVar, VL.wFrz, VL.wC, VL.wOp, VL.wTest, VL.wNotT, VL.wAndT, VL.wOrT, VL.wAnd, VL.wOr, VL.wNot, VL.wIf, VL.wNil, VL.wCons, VL.wTup, VL.wLst, VL.wStay, VL.wNew, VL.wPar, VL.wAug, VL.wDrop, VL.wRet, VL.wRetN, VL.wRet0, VL.wIfS, VL.wBrk, VL.wCnt, VL.wGt, VL.wGs, VL.wCB, VL.wCBN, VL.wCall, VL.wCallN, VL.wCallIo, VL.wCallIoN, VL.wCallK, VL.wIsi, VL.wIsi2, VL.wApp, VL.wExt, VL.wIns, VL.wSetIt, VL.wNoPart, VL.wPart, VL.wSl, VL.wSlN, VL.wChain, VL.wNeg, VL.wDnew, VL.wDput, VL.wDget, VL.wDin, VL.wDnin, VL.wIndex, VL.wRev, VL.wParNE, VL.wParEN, VL.wPar3, VL.wYes, VL.wSeqOf, VL.wRng1, VL.wRng2, VL.oI, VL.oI0, VL.oLt, VL.oLe, VL.oGt, VL.oGe, VL.oSub, VL.oMul, VL.oFdiv, VL.oMod, VL.oPow, VL.oShl', VL.oAbs, VL.oMax2, VL.oMin2, VL.oGcd, VL.atI_0, VL.atI_1, VL.atI_2, VL.ixN_20, VL.ixN_21, and_assoc, VL.shp_int, VL.shp_bool, VL.shp_none, VL.eqv_int, VL.eqv_bool, VL.isiD, VL.tyD, String.reduceBEq, Bool.not_true, Bool.not_false, Bool.and_true, Bool.and_false, Bool.true_and, Bool.false_and, Bool.or_true, Bool.or_false, Bool.true_or, Bool.false_or, decide_true, decide_false, Bool.not_eq_true', Bool.not_eq_eq_eq_not, decide_eq_true_eq, decide_eq_false_iff_not, VL.oInt1, VL.oInt2, VL.oLen, VL.oToInt, VL.oAdd, VL.oEq, VL.oNe, VL.oIsN, VL.oIn, VL.itemD, VL.isN, VL.der, VL.ders, VL.dats, VL.ioA, VL.endsV, VL.retE, VL.keepC, Option.map, List.range_succ, List.range_zero, List.map_cons, List.map_nil, List.map_append, List.nil_append, List.cons_append, List.append_nil, List.replicate_zero, List.replicate_succ, List.length_cons, List.length_nil, Nat.sub_self, List.getElem?_cons_zero, List.getElem?_cons_succ, List.set_cons_zero, List.set_cons_succ, Option.some.injEq, exists_eq_left', exists_eq_left, exists_eq_right, exists_and_left, exists_and_right, and_true, true_and, CV.d.injEq, CV.loc.injEq, Cell.lst.injEq, Cell.dat.injEq, Cell.dic.injEq, PyData.int.injEq, PyData.bool.injEq, PyData.list.injEq, PyData.tuple.injEq, PyData.str.injEq, reduceCtorEq, false_and, and_false, exists_false, false_or, or_false, if_true, if_false, reduceIte, Bool.false_eq_true, Nat.reduceAdd, Nat.reduceSub, Nat.succ_sub_succ, Nat.zero_add, VL.gP, List.filterMap_cons, List.filterMap_nil, List.cons.injEq, VL.wDisp0, VL.wDisp, VL.wPairs, VL.oLcm, VL.wPop, VL.wRevM, VL.wClearM, VL.wTupRg, VL.wListRg, VL.wR1, VL.wR2, VL.wRevN, VL.oRepT, VL.oRepL]
        rw [if_neg (by omega)]
        exact tail _ _ _ hb0 hb1
      simp only [VL.wSeq, VL.wNext, VL.wNever, VL.wAsg, VL.wSet, VL.wVar, VL.wFrz, VL.wC, VL.wOp, VL.wTest, VL.wNotT, VL.wAndT, VL.wOrT, VL.wAnd, VL.wOr, VL.wNot, VL.wIf, VL.wNil, VL.wCons, VL.wTup, VL.wLst, VL.wStay, VL.wNew, VL.wPar, VL.wAug, VL.wDrop, VL.wRet, VL.wRetN, VL.wRet0, VL.wIfS, VL.wBrk, VL.wCnt, VL.wGt, VL.wGs, VL.wCB, VL.wCBN, VL.wCall, VL.wCallN, VL.wCallIo, VL.wCallIoN, VL.wCallK, VL.wIsi, VL.wIsi2, VL.wApp, VL.wExt, VL.wIns, VL.wSetIt, VL.wNoPart, VL.wPart, VL.wSl, VL.wSlN, VL.wChain, VL.wNeg, VL.wDnew, VL.wDput, VL.wDget, VL.wDin, VL.wDnin, VL.wIndex, VL.wRev, VL.wParNE, VL.wParEN, VL.wPar3, VL.wYes, VL.wSeqOf, VL.wRng1, VL.wRng2, VL.oI, VL.oI0, VL.oLt, VL.oLe, VL.oGt, VL.oGe, VL.oSub, VL.oMul, VL.oFdiv, VL.oMod, VL.oPow, VL.oShl', VL.oAbs, VL.oMax2, VL.oMin2, VL.oGcd, VL.atI_0, VL.atI_1, VL.atI_2, VL.ixN_20, VL.ixN_21, and_assoc, VL.shp_int, VL.shp_bool, VL.shp_none, VL.eqv_int, VL.eqv_bool, VL.isiD, VL.tyD, String.reduceBEq, Bool.not_true, Bool.not_false, Bool.and_true, Bool.and_false, Bool.true_and, Bool.false_and, Bool.or_true, Bool.or_false, Bool.true_or, Bool.false_or, decide_true, decide_false, Bool.not_eq_true', Bool.not_eq_eq_eq_not, decide_eq_true_eq, decide_eq_false_iff_not, VL.oInt1, VL.oInt2, VL.oLen, VL.oToInt, VL.oAdd, VL.oEq, VL.oNe, VL.oIsN, VL.oIn, VL.itemD, VL.isN, VL.der, VL.ders, VL.dats, VL.ioA, VL.endsV, VL.retE, VL.keepC, Option.map, List.range_succ, List.range_zero, List.map_cons, List.map_nil, List.map_append, List.nil_append, List.cons_append, List.append_nil, List.replicate_zero, List.replicate_succ, List.length_cons, List.length_nil, Nat.sub_self, List.getElem?_cons_zero, List.getElem?_cons_succ, List.set_cons_zero, List.set_cons_succ, Option.some.injEq, exists_eq_left', exists_eq_left, exists_eq_right, exists_and_left, exists_and_right, and_true, true_and, CV.d.injEq, CV.loc.injEq, Cell.lst.injEq, Cell.dat.injEq, Cell.dic.injEq, PyData.int.injEq, PyData.bool.injEq, PyData.list.injEq, PyData.tuple.injEq, PyData.str.injEq, reduceCtorEq, false_and, and_false, exists_false, false_or, or_false, if_true, if_false, reduceIte, Bool.false_eq_true, Nat.reduceAdd, Nat.reduceSub, Nat.succ_sub_succ, Nat.zero_add, VL.gP, List.filterMap_cons, List.filterMap_nil, List.cons.injEq, VL.wDisp0, VL.wDisp, VL.wPairs, VL.oLcm, VL.wPop, VL.wRevM, VL.wClearM, VL.wTupRg, VL.wListRg, VL.wR1, VL.wR2, VL.wRevN, VL.oRepT, VL.oRepL, S__law_take, Prod.mk.injEq]
      split
      · refine ⟨by decide, ⟨_, rfl⟩, by decide, by decide, fun r a' b' hr => ?_⟩
        have P := at_all (r := r) (ds := [.int 3, .int 5, .int 7, .int 9, .int 15, .int 31, .int 63, .int 127, .int 107, .int 173, .int 197]) hr rfl (P := fun x => k [.lst true [.int a', .int b'], .dat (.int 200), .dat (.int way), .dat x]) (by
          intro x hx
          simp only [List.mem_cons, List.not_mem_nil, or_false] at hx
          rcases hx with rfl | rfl | rfl | rfl | rfl | rfl | rfl | rfl | rfl | rfl | rfl <;> exact tail _ _ _ (by decide) (by decide))
        exact P
      · exact tail _ _ _ hb0 hb1
    simp only [VL.wSeq, VL.wNext, VL.wNever, VL.wAsg, VL.wSet, VL.wVar, VL.wFrz, VL.wC, VL.wOp, VL.wTest, VL.wNotT, VL.wAndT, VL.wOrT, VL.wAnd, VL.wOr, VL.wNot, VL.wIf, VL.wNil, VL.wCons, VL.wTup, VL.wLst, VL.wStay, VL.wNew, VL.wPar, VL.wAug, VL.wDrop, VL.wRet, VL.wRetN, VL.wRet0, VL.wIfS, VL.wBrk, VL.wCnt, VL.wGt, VL.wGs, VL.wCB, VL.wCBN, VL.wCall, VL.wCallN, VL.wCallIo, VL.wCallIoN, VL.wCallK, VL.wIsi, VL.wIsi2, VL.wApp, VL.wExt, VL.wIns, VL.wSetIt, VL.wNoPart, VL.wPart, VL.wSl, VL.wSlN, VL.wChain, VL.wNeg, VL.wDnew, VL.wDput, VL.wDget, VL.wDin, VL.wDnin, VL.wIndex, VL.wRev, VL.wParNE, VL.wParEN, VL.wPar3, VL.wYes, VL.wSeqOf, VL.wRng1, VL.wRng2, VL.oI, VL.oI0, VL.oLt, VL.oLe, VL.oGt, VL.oGe, VL.oSub, VL.oMul, VL.oFdiv, VL.oMod, VL.oPow, VL.oShl', VL.oAbs, VL.oMax2, VL.oMin2, VL.oGcd, VL.atI_0, VL.atI_1, VL.atI_2, VL.ixN_20, VL.ixN_21, and_assoc, VL.shp_int, VL.shp_bool, VL.shp_none, VL.eqv_int, VL.eqv_bool, VL.isiD, VL.tyD, String.reduceBEq, Bool.not_true, Bool.not_false, Bool.and_true, Bool.and_false, Bool.true_and, Bool.false_and, Bool.or_true, Bool.or_false, Bool.true_or, Bool.false_or, decide_true, decide_false, Bool.not_eq_true', Bool.not_eq_eq_eq_not, decide_eq_true_eq, decide_eq_false_iff_not, VL.oInt1, VL.oInt2, VL.oLen, VL.oToInt, VL.oAdd, VL.oEq, VL.oNe, VL.oIsN, VL.oIn, VL.itemD, VL.isN, VL.der, VL.ders, VL.dats, VL.ioA, VL.endsV, VL.retE, VL.keepC, Option.map, List.range_succ, List.range_zero, List.map_cons, List.map_nil, List.map_append, List.nil_append, List.cons_append, List.append_nil, List.replicate_zero, List.replicate_succ, List.length_cons, List.length_nil, Nat.sub_self, List.getElem?_cons_zero, List.getElem?_cons_succ, List.set_cons_zero, List.set_cons_succ, Option.some.injEq, exists_eq_left', exists_eq_left, exists_eq_right, exists_and_left, exists_and_right, and_true, true_and, CV.d.injEq, CV.loc.injEq, Cell.lst.injEq, Cell.dat.injEq, Cell.dic.injEq, PyData.int.injEq, PyData.bool.injEq, PyData.list.injEq, PyData.tuple.injEq, PyData.str.injEq, reduceCtorEq, false_and, and_false, exists_false, false_or, or_false, if_true, if_false, reduceIte, Bool.false_eq_true, Nat.reduceAdd, Nat.reduceSub, Nat.succ_sub_succ, Nat.zero_add, VL.gP, List.filterMap_cons, List.filterMap_nil, List.cons.injEq, VL.wDisp0, VL.wDisp, VL.wPairs, VL.oLcm, VL.wPop, VL.wRevM, VL.wClearM, VL.wTupRg, VL.wListRg, VL.wR1, VL.wR2, VL.wRevN, VL.oRepT, VL.oRepL, S__law_take, Prod.mk.injEq]
    split
    · refine ⟨by decide, ⟨_, rfl⟩, by decide, by decide, fun r a' b' hr => ?_⟩
      have P := at_all (r := r) (ds := [.int 2, .int 4, .int 8, .int 16, .int 32, .int 64, .int 128]) hr rfl (P := fun x => k [.lst true [.int a', .int b'], .dat (.int 200), .dat (.int way), .dat x]) (by
        intro x hx
        simp only [List.mem_cons, List.not_mem_nil, or_false] at hx
        rcases hx with rfl | rfl | rfl | rfl | rfl | rfl | rfl <;> exact tail _ _ _ (by decide) (by decide))
      exact P
    · exact tail _ _ _ hb0 hb1
  simp only [VL.wSeq, VL.wNext, VL.wNever, VL.wAsg, VL.wSet, VL.wVar, VL.wFrz, VL.wC, VL.wOp, VL.wTest, VL.wNotT, VL.wAndT, VL.wOrT, VL.wAnd, VL.wOr, VL.wNot, VL.wIf, VL.wNil, VL.wCons, VL.wTup, VL.wLst, VL.wStay, VL.wNew, VL.wPar, VL.wAug, VL.wDrop, VL.wRet, VL.wRetN, VL.wRet0, VL.wIfS, VL.wBrk, VL.wCnt, VL.wGt, VL.wGs, VL.wCB, VL.wCBN, VL.wCall, VL.wCallN, VL.wCallIo, VL.wCallIoN, VL.wCallK, VL.wIsi, VL.wIsi2, VL.wApp, VL.wExt, VL.wIns, VL.wSetIt, VL.wNoPart, VL.wPart, VL.wSl, VL.wSlN, VL.wChain, VL.wNeg, VL.wDnew, VL.wDput, VL.wDget, VL.wDin, VL.wDnin, VL.wIndex, VL.wRev, VL.wParNE, VL.wParEN, VL.wPar3, VL.wYes, VL.wSeqOf, VL.wRng1, VL.wRng2, VL.oI, VL.oI0, VL.oLt, VL.oLe, VL.oGt, VL.oGe, VL.oSub, VL.oMul, VL.oFdiv, VL.oMod, VL.oPow, VL.oShl', VL.oAbs, VL.oMax2, VL.oMin2, VL.oGcd, VL.atI_0, VL.atI_1, VL.atI_2, VL.ixN_20, VL.ixN_21, and_assoc, VL.shp_int, VL.shp_bool, VL.shp_none, VL.eqv_int, VL.eqv_bool, VL.isiD, VL.tyD, String.reduceBEq, Bool.not_true, Bool.not_false, Bool.and_true, Bool.and_false, Bool.true_and, Bool.false_and, Bool.or_true, Bool.or_false, Bool.true_or, Bool.false_or, decide_true, decide_false, Bool.not_eq_true', Bool.not_eq_eq_eq_not, decide_eq_true_eq, decide_eq_false_iff_not, VL.oInt1, VL.oInt2, VL.oLen, VL.oToInt, VL.oAdd, VL.oEq, VL.oNe, VL.oIsN, VL.oIn, VL.itemD, VL.isN, VL.der, VL.ders, VL.dats, VL.ioA, VL.endsV, VL.retE, VL.keepC, Option.map, List.range_succ, List.range_zero, List.map_cons, List.map_nil, List.map_append, List.nil_append, List.cons_append, List.append_nil, List.replicate_zero, List.replicate_succ, List.length_cons, List.length_nil, Nat.sub_self, List.getElem?_cons_zero, List.getElem?_cons_succ, List.set_cons_zero, List.set_cons_succ, Option.some.injEq, exists_eq_left', exists_eq_left, exists_eq_right, exists_and_left, exists_and_right, and_true, true_and, CV.d.injEq, CV.loc.injEq, Cell.lst.injEq, Cell.dat.injEq, Cell.dic.injEq, PyData.int.injEq, PyData.bool.injEq, PyData.list.injEq, PyData.tuple.injEq, PyData.str.injEq, reduceCtorEq, false_and, and_false, exists_false, false_or, or_false, if_true, if_false, reduceIte, Bool.false_eq_true, Nat.reduceAdd, Nat.reduceSub, Nat.succ_sub_succ, Nat.zero_add, VL.gP, List.filterMap_cons, List.filterMap_nil, List.cons.injEq, VL.wDisp0, VL.wDisp, VL.wPairs, VL.oLcm, VL.wPop, VL.wRevM, VL.wClearM, VL.wTupRg, VL.wListRg, VL.wR1, VL.wR2, VL.wRevN, VL.oRepT, VL.oRepL, S__law_take, Prod.mk.injEq]
  split
  · refine ⟨by decide, by decide, by decide, by decide, by decide, by decide, by decide, ⟨_, rfl⟩, by decide, by decide, fun r a' b' hr => ?_⟩
    have P := at_all (r := r) (ds := [.tuple [.int 0, .int 1], .tuple [.int 1, .int 1], .tuple [.int 1, .int 2], .tuple [.int 1, .int 3], .tuple [.int 2, .int 3], .tuple [.int 1, .int 200]]) hr rfl (P := fun x => Q (RV.d x) [.lst true [.int a', .int b'], .un]) (by
      intro x hx
      simp only [List.mem_cons, List.not_mem_nil, or_false] at hx
      rcases hx with rfl | rfl | rfl | rfl | rfl | rfl
      · exact h 0 a' b' ⟨by decide, by decide, by decide⟩
      · exact h 1 a' b' ⟨by decide, by decide, by decide⟩
      · rw [half_D]
        exact h (1 / 2) a' b' ⟨by decide +kernel, by decide +kernel, by decide +kernel⟩
      · rw [pair_D (1 / 3) 1 3 (by decide +kernel) (by decide +kernel)]
        exact h (1 / 3) a' b' ⟨by decide +kernel, by decide +kernel, by decide +kernel⟩
      · rw [pair_D (2 / 3) 2 3 (by decide +kernel) (by decide +kernel)]
        exact h (2 / 3) a' b' ⟨by decide +kernel, by decide +kernel, by decide +kernel⟩
      · rw [pair_D (1 / 200) 1 200 (by decide +kernel) (by decide +kernel)]
        exact h (1 / 200) a' b' ⟨by decide +kernel, by decide +kernel, by decide +kernel⟩)
    exact P
  · exact tail _ _ _ hb0 hb1
end K03

end

/-! #### K03G -/
section
set_option autoImplicit false
set_option maxRecDepth 100000
set_option maxHeartbeats 2000000
/-! ### figures and their rounds -/
namespace K03
open PySem PySem.Spec PyProof.Rows L2 VL
theorem tp_eq (a b : Int) (i : Nat) : tp a b i = b * fg a b i + rs a b i := by
  rw [← tp_mod]
  exact (Int.mul_fdiv_add_fmod _ b).symm
theorem tp_next {a b : Int} {i j : Nat} (h : rs a b i = rs a b j) : tp a b (i + 1) = tp a b (j + 1) := by rw [tp_succ, tp_succ, h]
theorem tp_back {a b : Int} {i j : Nat} (h : tp a b (i + 1) = tp a b (j + 1)) : rs a b i = rs a b j := by
  rw [tp_succ, tp_succ] at h
  omega
theorem tp_same {a b : Int} {i j : Nat} (h : rs a b i = rs a b j) (hf : fg a b i = fg a b j) : tp a b i = tp a b j := by rw [tp_eq, tp_eq, h, hf]
theorem tp_on {a b : Int} {i j : Nat} (h : tp a b i = tp a b j) : ∀ k, tp a b (i + k) = tp a b (j + k)
  | 0 => h
  | k + 1 => tp_next (tp_per (tp_on h k))
theorem fg_on {a b : Int} {s p : Nat} (P : Per a b s p) (i : Nat) : fg a b (s + p + i) = fg a b (s + i) := by
  unfold fg
  rw [tp_on P.rep i]
/-- the rounds of the rests tell those of the tops -/
theorem per_zero {a b : Int} {p : Nat} (hp : 1 ≤ p) (h : tp a b 0 = tp a b p) (hi : ∀ x y, x < y → y < p → rs a b x ≠ rs a b y) : Per a b 0 p :=
  ⟨hp, by rw [Nat.zero_add]; exact h.symm, fun i j h1 h2 e => hi i j h1 (by omega) (tp_per e)⟩
theorem per_succ {a b : Int} {j p : Nat} (hp : 1 ≤ p) (hr : rs a b (j + p) = rs a b j) (hi : ∀ x y, x < y → y < j + p → rs a b x ≠ rs a b y) (n0 : ¬ (j = 0 ∧ tp a b 0 = tp a b p)) : Per a b (j + 1) p ∧ fg a b j ≠ fg a b (j + p) := by
  refine ⟨⟨hp, ?_, fun i k h1 h2 e => ?_⟩, fun e => ?_⟩
  · rw [show j + 1 + p = j + p + 1 by omega]
    exact tp_next hr
  · obtain ⟨k, rfl⟩ : ∃ k', k = k' + 1 := ⟨k - 1, by omega⟩
    cases i with
    | succ i => exact hi i k (by omega) (by omega) (tp_back e)
    | zero =>
      have e2 := tp_per e
      by_cases hk : k + 1 < j + p
      · exact hi 0 (k + 1) (by omega) hk e2
      · have hk' : k + 1 = j + p := by omega
        rw [hk', hr] at e2
        by_cases hj : j = 0
        · subst hj
          refine n0 ⟨rfl, ?_⟩
          rw [e, hk', Nat.zero_add]
        · exact hi 0 j (by omega) (by omega) e2
  · have e2 := tp_same hr.symm e
    cases j with
    | zero => exact n0 ⟨rfl, by rw [e2, Nat.zero_add]⟩
    | succ j =>
      rw [show j + 1 + p = j + p + 1 by omega] at e2
      exact hi j (j + p) (by omega) (by omega) (tp_back e2)
/-- the last figure ahead is not the round's -/
theorem per_last {a b : Int} {s p : Nat} (P : Per a b (s + 1) p) : fg a b s ≠ fg a b (s + p) := fun e => by
  have h := P.rep
  rw [show s + 1 + p = s + p + 1 by omega] at h
  have hp := P.pos
  exact P.inj s (s + p) (by omega) (by omega) (tp_same (tp_back h).symm e)
theorem fg_bd {q : Rat} (n : Num q) (i : Nat) : 0 ≤ fg q.num q.den i ∧ fg q.num q.den i ≤ 1 := by
  have ns := num_small n
  have hp := den_pos q
  have b1 := tp_bd n i
  have e := tp_eq q.num q.den i
  have r1 := rs_nonneg (a := q.num) hp i
  have r2 := rs_lt (a := q.num) hp i
  have up : tp q.num q.den i < 2 * q.den := by
    cases i with
    | zero =>
      show q.num < _
      omega
    | succ i =>
      rw [tp_succ]
      have := rs_lt (a := q.num) hp i
      omega
  generalize fg q.num q.den i = f at e
  constructor
  · by_cases h : 0 ≤ f
    · exact h
    · exfalso
      have : (q.den : Int) * f ≤ q.den * (-1) := Int.mul_le_mul_of_nonneg_left (by omega) (by omega)
      omega
  · by_cases h : f ≤ 1
    · exact h
    · exfalso
      have : (q.den : Int) * 2 ≤ q.den * f := Int.mul_le_mul_of_nonneg_left (by omega) (by omega)
      omega
theorem per_len {q : Rat} (n : Num q) {s p : Nat} (P : Per q.num q.den s p) : s + p ≤ 201 := by
  have := tp_few (a := q.num) (den_pos q) P.inj
  have := n.den
  omega
/-- doubling: what differs by a round is the same -/
theorem per_low {a b : Int} {s p low : Nat} (P : Per a b s p) (h1 : 1 ≤ low) (h2 : low < p) (h : ∀ i, fg a b (s + low + i) = fg a b (s + i)) : False := by
  have d : ∀ i, tp a b (s + low + i) - tp a b (s + i) = 2 ^ i * (tp a b (s + low) - tp a b s) := by
    intro i
    induction i with
    | zero => simp
    | succ i ih =>
      rw [show s + low + (i + 1) = s + low + i + 1 by omega, show s + (i + 1) = s + i + 1 by omega, tp_succ, tp_succ]
      have e1 := tp_eq a b (s + low + i)
      have e2 := tp_eq a b (s + i)
      rw [h i] at e1
      rw [Int.pow_succ, Int.mul_comm ((2 : Int) ^ i) 2, Int.mul_assoc, ← ih]
      omega
  have dp := d p
  have e3 : tp a b (s + low + p) = tp a b (s + low) := by
    have := tp_on P.rep low
    rw [show s + low + p = s + p + low by omega]
    exact this
  rw [e3, P.rep] at dp
  have two : (2 : Int) ≤ 2 ^ p := by
    have := ipow_le P.pos
    omega
  have z : tp a b (s + low) - tp a b s = 0 := by
    generalize tp a b (s + low) - tp a b s = x at dp
    have : (2 ^ p - 1) * x = 0 := by
      rw [Int.sub_mul, Int.one_mul]
      omega
    rcases Int.mul_eq_zero.mp this with y | y
    · omega
    · exact y
  exact P.inj s (s + low) (by omega) (by omega) (by omega)
/-- a round is not all 1 -/
theorem per_ones {q : Rat} {s p : Nat} (P : Per q.num q.den s p) (h : ∀ i, i < p → fg q.num q.den (s + i) = 1) : False := by
  have hp := den_pos q
  have h' : ∀ i, fg q.num q.den (s + i) = 1 := by
    intro i
    induction i using Nat.strongRecOn with
    | ind i ih =>
      by_cases l : i < p
      · exact h i l
      · have := fg_on P (i - p)
        rw [show s + p + (i - p) = s + i by omega] at this
        rw [this]
        exact ih (i - p) (by have := P.pos; omega)
  have d : ∀ i, (q.den : Int) - rs q.num q.den (s + i) = 2 ^ i * ((q.den : Int) - rs q.num q.den s) := by
    intro i
    induction i with
    | zero => simp
    | succ i ih =>
      have e1 := tp_eq q.num q.den (s + i + 1)
      rw [tp_succ, show s + i + 1 = s + (i + 1) by omega, h' (i + 1)] at e1
      rw [Int.pow_succ, Int.mul_comm ((2 : Int) ^ i) 2, Int.mul_assoc, ← ih]
      omega
  have dp := d p
  have e3 : rs q.num q.den (s + p) = rs q.num q.den s := tp_per P.rep
  rw [e3] at dp
  have r2 := rs_lt (a := q.num) hp s
  have two : (2 : Int) ≤ 2 ^ p := by
    have := ipow_le P.pos
    omega
  have := Int.mul_le_mul_of_nonneg_right two (show 0 ≤ (q.den : Int) - rs q.num q.den s by omega)
  omega
/-- the number of the figures -/
theorem row_num {q : Rat} {s p : Nat} (P : Per q.num q.den s p) : rowSum (seg (fg q.num q.den) s 0) (seg (fg q.num q.den) p s) = q := by
  have hp := den_pos q
  have bn := bne hp
  have F : ∀ t, Fw (fun i => (fg q.num q.den i : Rat)) q t = (tp q.num q.den t : Rat) / ((q.den : Int) : Rat) := by
    intro t
    induction t with
    | zero =>
      show q = _
      exact (qdiv q).symm
    | succ t ih =>
      show 2 * (Fw _ q t - (fg q.num q.den t : Rat)) = _
      rw [ih, tp_succ]
      have e := congrArg (fun x : Int => (x : Rat)) (tp_eq q.num q.den t)
      simp only [Rat.intCast_add, Rat.intCast_mul] at e
      rw [Rat.intCast_mul, e]
      generalize ((q.den : Int) : Rat) = B at bn
      have : B * (fg q.num q.den t : Rat) + (rs q.num q.den t : Rat) = B * ((fg q.num q.den t : Rat) + (rs q.num q.den t : Rat) / B) := by grind
      rw [this]
      grind
  have h0 := Fw_shift (fun i => (fg q.num q.den i : Rat)) q 0 s
  rw [Nat.zero_add] at h0
  have h0 : Fw (fun i => (fg q.num q.den i : Rat)) q s = 2 ^ s * (q - G (fun i => (fg q.num q.den i : Rat)) s 0) := h0
  have h1 := Fw_shift (fun i => (fg q.num q.den i : Rat)) q s p
  have e : Fw (fun i => (fg q.num q.den i : Rat)) q (s + p) = Fw (fun i => (fg q.num q.den i : Rat)) q s := by rw [F, F, P.rep]
  rw [e] at h1
  rw [rowSum_eq _ s p P.pos]
  have t1 := two_le_pow P.pos
  have t2 := pow_ne s
  generalize G (fun i => (fg q.num q.den i : Rat)) s 0 = g0 at *
  generalize G (fun i => (fg q.num q.den i : Rat)) p s = g1 at *
  generalize Fw (fun i => (fg q.num q.den i : Rat)) q s = X at *
  generalize (2 : Rat) ^ p = u at *
  generalize (2 : Rat) ^ s = v at *
  have u1 : u - 1 ≠ 0 := by
    intro z
    have : u = 1 := by grind
    rw [this] at t1
    exact absurd t1 (by decide)
  have hX : X = g1 * u / (u - 1) := by grind
  rw [← hX]
  grind
end K03

end

/-! #### K03B -/
section
set_option autoImplicit false
set_option maxRecDepth 100000
set_option maxHeartbeats 4000000
set_option exponentiation.threshold 5000
namespace K03
open PySem PySem.Spec PyProof.Rows L2 VL
theorem any_snoc {acc : List D} {b : Bool} (h : acc.any isFd = false) : (acc ++ [PyData.bool b]).any isFd = !b := by
  rw [List.any_append, h]
  cases b <;> rfl
theorem h_is_signs (ρ : En) (Q : RV → En → Prop) (h : S_is_signs ρ Q) : t_is_signs (endsV 1 Q) (ρ ++ List.replicate (2 - 1) .un) := by
  obtain ⟨row, rfl, ⟨hl, hb⟩, h⟩ := h
  unfold t_is_signs intT
  simp only [VL.wSeq, VL.wNext, VL.wNever, VL.wAsg, VL.wSet, VL.wVar, VL.wFrz, VL.wC, VL.wOp, VL.wTest, VL.wNotT, VL.wAndT, VL.wOrT, VL.wAnd, VL.wOr, VL.wNot, VL.wIf, VL.wNil, VL.wCons, VL.wTup, VL.wLst, VL.wStay, VL.wNew, VL.wPar, VL.wAug, VL.wDrop, VL.wRet, VL.wRetN, VL.wRet0, VL.wIfS, VL.wBrk, VL.wCnt, VL.wGt, VL.wGs, VL.wCB, VL.wCBN, VL.wCall, VL.wCallN, VL.wCallIo, VL.wCallIoN, VL.wCallK, VL.wIsi, VL.wIsi2, VL.wApp, VL.wExt, VL.wIns, VL.wSetIt, VL.wNoPart, VL.wPart, VL.wSl, VL.wSlN, VL.wChain, VL.wNeg, VL.wDnew, VL.wDput, VL.wDget, VL.wDin, VL.wDnin, VL.wIndex, VL.wRev, VL.wParNE, VL.wParEN, VL.wPar3, VL.wYes, VL.wSeqOf, VL.wRng1, VL.wRng2, VL.oI, VL.oI0, VL.oLt, VL.oLe, VL.oGt, VL.oGe, VL.oSub, VL.oMul, VL.oFdiv, VL.oMod, VL.oPow, VL.oShl', VL.oAbs, VL.oMax2, VL.oMin2, VL.oGcd, VL.atI_0, VL.atI_1, VL.atI_2, VL.ixN_20, VL.ixN_21, and_assoc, VL.shp_int, VL.shp_bool, VL.shp_none, VL.eqv_int, VL.eqv_bool, VL.isiD, VL.tyD, String.reduceBEq, Bool.not_true, Bool.not_false, Bool.and_true, Bool.and_false, Bool.true_and, Bool.false_and, Bool.or_true, Bool.or_false, Bool.true_or, Bool.false_or, decide_true, decide_false, Bool.not_eq_true', Bool.not_eq_eq_eq_not, decide_eq_true_eq, decide_eq_false_iff_not, VL.oInt1, VL.oInt2, VL.oLen, VL.oToInt, VL.oAdd, VL.oEq, VL.oNe, VL.oIsN, VL.oIn, VL.itemD, VL.isN, VL.der, VL.ders, VL.dats, VL.ioA, VL.endsV, VL.retE, VL.keepC, Option.map, List.range_succ, List.range_zero, List.map_cons, List.map_nil, List.map_append, List.nil_append, List.cons_append, List.append_nil, List.replicate_zero, List.replicate_succ, List.length_cons, List.length_nil, Nat.sub_self, List.getElem?_cons_zero, List.getElem?_cons_succ, List.set_cons_zero, List.set_cons_succ, Option.some.injEq, exists_eq_left', exists_eq_left, exists_eq_right, exists_and_left, exists_and_right, and_true, true_and, CV.d.injEq, CV.loc.injEq, Cell.lst.injEq, Cell.dat.injEq, Cell.dic.injEq, PyData.int.injEq, PyData.bool.injEq, PyData.list.injEq, PyData.tuple.injEq, PyData.str.injEq, reduceCtorEq, false_and, and_false, exists_false, false_or, or_false, if_true, if_false, reduceIte, Bool.false_eq_true, Nat.reduceAdd, Nat.reduceSub, Nat.succ_sub_succ, Nat.zero_add, VL.gP, List.filterMap_cons, List.filterMap_nil, List.cons.injEq, VL.wDisp0, VL.wDisp, VL.wPairs, VL.oLcm, VL.wPop, VL.wRevM, VL.wClearM, VL.wTupRg, VL.wListRg, VL.wR1, VL.wR2, VL.wRevN, VL.oRepT, VL.oRepL, wGAll, wGx, wipeE, okBd]
  refine ⟨fun i acc ρ => acc.any isFd = false ∧ ρ = [.dat (.tuple (row.map .int)), .un], ⟨rfl, rfl⟩, ?_, ?_⟩
  · rintro i acc ρ d ⟨ha, rfl⟩ hd
    obtain ⟨x, rfl, hx⟩ := int_at hd
    have bx := hb x (List.mem_of_getElem? hx)
    simp only [VL.wSeq, VL.wNext, VL.wNever, VL.wAsg, VL.wSet, VL.wVar, VL.wFrz, VL.wC, VL.wOp, VL.wTest, VL.wNotT, VL.wAndT, VL.wOrT, VL.wAnd, VL.wOr, VL.wNot, VL.wIf, VL.wNil, VL.wCons, VL.wTup, VL.wLst, VL.wStay, VL.wNew, VL.wPar, VL.wAug, VL.wDrop, VL.wRet, VL.wRetN, VL.wRet0, VL.wIfS, VL.wBrk, VL.wCnt, VL.wGt, VL.wGs, VL.wCB, VL.wCBN, VL.wCall, VL.wCallN, VL.wCallIo, VL.wCallIoN, VL.wCallK, VL.wIsi, VL.wIsi2, VL.wApp, VL.wExt, VL.wIns, VL.wSetIt, VL.wNoPart, VL.wPart, VL.wSl, VL.wSlN, VL.wChain, VL.wNeg, VL.wDnew, VL.wDput, VL.wDget, VL.wDin, VL.wDnin, VL.wIndex, VL.wRev, VL.wParNE, VL.wParEN, VL.wPar3, VL.wYes, VL.wSeqOf, VL.wRng1, VL.wRng2, VL.oI, VL.oI0, VL.oLt, VL.oLe, VL.oGt, VL.oGe, VL.oSub, VL.oMul, VL.oFdiv, VL.oMod, VL.oPow, VL.oShl', VL.oAbs, VL.oMax2, VL.oMin2, VL.oGcd, VL.atI_0, VL.atI_1, VL.atI_2, VL.ixN_20, VL.ixN_21, and_assoc, VL.shp_int, VL.shp_bool, VL.shp_none, VL.eqv_int, VL.eqv_bool, VL.isiD, VL.tyD, String.reduceBEq, Bool.not_true, Bool.not_false, Bool.and_true, Bool.and_false, Bool.true_and, Bool.false_and, Bool.or_true, Bool.or_false, Bool.true_or, Bool.false_or, decide_true, decide_false, Bool.not_eq_true', Bool.not_eq_eq_eq_not, decide_eq_true_eq, decide_eq_false_iff_not, VL.oInt1, VL.oInt2, VL.oLen, VL.oToInt, VL.oAdd, VL.oEq, VL.oNe, VL.oIsN, VL.oIn, VL.itemD, VL.isN, VL.der, VL.ders, VL.dats, VL.ioA, VL.endsV, VL.retE, VL.keepC, Option.map, List.range_succ, List.range_zero, List.map_cons, List.map_nil, List.map_append, List.nil_append, List.cons_append, List.append_nil, List.replicate_zero, List.replicate_succ, List.length_cons, List.length_nil, Nat.sub_self, List.getElem?_cons_zero, List.getElem?_cons_succ, List.set_cons_zero, List.set_cons_succ, Option.some.injEq, exists_eq_left', exists_eq_left, exists_eq_right, exists_and_left, exists_and_right, and_true, true_and, CV.d.injEq, CV.loc.injEq, Cell.lst.injEq, Cell.dat.injEq, Cell.dic.injEq, PyData.int.injEq, PyData.bool.injEq, PyData.list.injEq, PyData.tuple.injEq, PyData.str.injEq, reduceCtorEq, false_and, and_false, exists_false, false_or, or_false, if_true, if_false, reduceIte, Bool.false_eq_true, Nat.reduceAdd, Nat.reduceSub, Nat.succ_sub_succ, Nat.zero_add, VL.gP, List.filterMap_cons, List.filterMap_nil, List.cons.injEq, VL.wDisp0, VL.wDisp, VL.wPairs, VL.oLcm, VL.wPop, VL.wRevM, VL.wClearM, VL.wTupRg, VL.wListRg, VL.wR1, VL.wR2, VL.wRevN, VL.oRepT, VL.oRepL, S_is_integer_from, fromD]
    rw [if_pos bx.1, decide_eq_true bx.2]
    exact ⟨⟨_, rfl⟩, any_snoc ha⟩
  · rintro acc ρ ⟨ha, rfl⟩
    simp only [VL.wSeq, VL.wNext, VL.wNever, VL.wAsg, VL.wSet, VL.wVar, VL.wFrz, VL.wC, VL.wOp, VL.wTest, VL.wNotT, VL.wAndT, VL.wOrT, VL.wAnd, VL.wOr, VL.wNot, VL.wIf, VL.wNil, VL.wCons, VL.wTup, VL.wLst, VL.wStay, VL.wNew, VL.wPar, VL.wAug, VL.wDrop, VL.wRet, VL.wRetN, VL.wRet0, VL.wIfS, VL.wBrk, VL.wCnt, VL.wGt, VL.wGs, VL.wCB, VL.wCBN, VL.wCall, VL.wCallN, VL.wCallIo, VL.wCallIoN, VL.wCallK, VL.wIsi, VL.wIsi2, VL.wApp, VL.wExt, VL.wIns, VL.wSetIt, VL.wNoPart, VL.wPart, VL.wSl, VL.wSlN, VL.wChain, VL.wNeg, VL.wDnew, VL.wDput, VL.wDget, VL.wDin, VL.wDnin, VL.wIndex, VL.wRev, VL.wParNE, VL.wParEN, VL.wPar3, VL.wYes, VL.wSeqOf, VL.wRng1, VL.wRng2, VL.oI, VL.oI0, VL.oLt, VL.oLe, VL.oGt, VL.oGe, VL.oSub, VL.oMul, VL.oFdiv, VL.oMod, VL.oPow, VL.oShl', VL.oAbs, VL.oMax2, VL.oMin2, VL.oGcd, VL.atI_0, VL.atI_1, VL.atI_2, VL.ixN_20, VL.ixN_21, and_assoc, VL.shp_int, VL.shp_bool, VL.shp_none, VL.eqv_int, VL.eqv_bool, VL.isiD, VL.tyD, String.reduceBEq, Bool.not_true, Bool.not_false, Bool.and_true, Bool.and_false, Bool.true_and, Bool.false_and, Bool.or_true, Bool.or_false, Bool.true_or, Bool.false_or, decide_true, decide_false, Bool.not_eq_true', Bool.not_eq_eq_eq_not, decide_eq_true_eq, decide_eq_false_iff_not, VL.oInt1, VL.oInt2, VL.oLen, VL.oToInt, VL.oAdd, VL.oEq, VL.oNe, VL.oIsN, VL.oIn, VL.itemD, VL.isN, VL.der, VL.ders, VL.dats, VL.ioA, VL.endsV, VL.retE, VL.keepC, Option.map, List.range_succ, List.range_zero, List.map_cons, List.map_nil, List.map_append, List.nil_append, List.cons_append, List.append_nil, List.replicate_zero, List.replicate_succ, List.length_cons, List.length_nil, Nat.sub_self, List.getElem?_cons_zero, List.getElem?_cons_succ, List.set_cons_zero, List.set_cons_succ, Option.some.injEq, exists_eq_left', exists_eq_left, exists_eq_right, exists_and_left, exists_and_right, and_true, true_and, CV.d.injEq, CV.loc.injEq, Cell.lst.injEq, Cell.dat.injEq, Cell.dic.injEq, PyData.int.injEq, PyData.bool.injEq, PyData.list.injEq, PyData.tuple.injEq, PyData.str.injEq, reduceCtorEq, false_and, and_false, exists_false, false_or, or_false, if_true, if_false, reduceIte, Bool.false_eq_true, Nat.reduceAdd, Nat.reduceSub, Nat.succ_sub_succ, Nat.zero_add, VL.gP, List.filterMap_cons, List.filterMap_nil, List.cons.injEq, VL.wDisp0, VL.wDisp, VL.wPairs, VL.oLcm, VL.wPop, VL.wRevM, VL.wClearM, VL.wTupRg, VL.wListRg, VL.wR1, VL.wR2, VL.wRevN, VL.oRepT, VL.oRepL, ha]
    exact h
theorem seg_at2 {g : Nat → Int} {n t i : Nat} {d : D} (h : ((seg g n t).map PyData.int)[i]? = some d) : d = .int (g (t + i)) ∧ i < n := by
  obtain ⟨x, rfl, hx⟩ := int_at h
  obtain ⟨h1, h2⟩ := List.getElem?_eq_some_iff.mp hx
  rw [seg_len] at h1
  refine ⟨?_, h1⟩
  rw [← h2]
  simp [seg]
theorem map_seg2 (g : Nat → Int) (n t : Nat) : (seg g n t).map PyData.int ++ [PyData.int (g (t + n))] = (seg g (n + 1) t).map PyData.int := by
  rw [seg_succ, List.map_append]
  rfl
theorem small_size {n : Nat} (h : n ≤ 3000) : n < sizeLine := Nat.lt_of_le_of_lt h (by decide)
theorem h_figures (ρ : En) (Q : RV → En → Prop) (h : S_figures ρ Q) : t_figures (endsV 1 Q) (ρ ++ List.replicate (5 - 1) .un) := by
  obtain ⟨q, rfl, n, h⟩ := h
  have hp := den_pos q
  have hd := n.den
  unfold t_figures
  refine seq_gen fun k hk => ?_
  simp only [VL.wSeq, VL.wNext, VL.wNever, VL.wAsg, VL.wSet, VL.wVar, VL.wFrz, VL.wC, VL.wOp, VL.wTest, VL.wNotT, VL.wAndT, VL.wOrT, VL.wAnd, VL.wOr, VL.wNot, VL.wIf, VL.wNil, VL.wCons, VL.wTup, VL.wLst, VL.wStay, VL.wNew, VL.wPar, VL.wAug, VL.wDrop, VL.wRet, VL.wRetN, VL.wRet0, VL.wIfS, VL.wBrk, VL.wCnt, VL.wGt, VL.wGs, VL.wCB, VL.wCBN, VL.wCall, VL.wCallN, VL.wCallIo, VL.wCallIoN, VL.wCallK, VL.wIsi, VL.wIsi2, VL.wApp, VL.wExt, VL.wIns, VL.wSetIt, VL.wNoPart, VL.wPart, VL.wSl, VL.wSlN, VL.wChain, VL.wNeg, VL.wDnew, VL.wDput, VL.wDget, VL.wDin, VL.wDnin, VL.wIndex, VL.wRev, VL.wParNE, VL.wParEN, VL.wPar3, VL.wYes, VL.wSeqOf, VL.wRng1, VL.wRng2, VL.oI, VL.oI0, VL.oLt, VL.oLe, VL.oGt, VL.oGe, VL.oSub, VL.oMul, VL.oFdiv, VL.oMod, VL.oPow, VL.oShl', VL.oAbs, VL.oMax2, VL.oMin2, VL.oGcd, VL.atI_0, VL.atI_1, VL.atI_2, VL.ixN_20, VL.ixN_21, and_assoc, VL.shp_int, VL.shp_bool, VL.shp_none, VL.eqv_int, VL.eqv_bool, VL.isiD, VL.tyD, String.reduceBEq, Bool.not_true, Bool.not_false, Bool.and_true, Bool.and_false, Bool.true_and, Bool.false_and, Bool.or_true, Bool.or_false, Bool.true_or, Bool.false_or, decide_true, decide_false, Bool.not_eq_true', Bool.not_eq_eq_eq_not, decide_eq_true_eq, decide_eq_false_iff_not, VL.oInt1, VL.oInt2, VL.oLen, VL.oToInt, VL.oAdd, VL.oEq, VL.oNe, VL.oIsN, VL.oIn, VL.itemD, VL.isN, VL.der, VL.ders, VL.dats, VL.ioA, VL.endsV, VL.retE, VL.keepC, Option.map, List.range_succ, List.range_zero, List.map_cons, List.map_nil, List.map_append, List.nil_append, List.cons_append, List.append_nil, List.replicate_zero, List.replicate_succ, List.length_cons, List.length_nil, Nat.sub_self, List.getElem?_cons_zero, List.getElem?_cons_succ, List.set_cons_zero, List.set_cons_succ, Option.some.injEq, exists_eq_left', exists_eq_left, exists_eq_right, exists_and_left, exists_and_right, and_true, true_and, CV.d.injEq, CV.loc.injEq, Cell.lst.injEq, Cell.dat.injEq, Cell.dic.injEq, PyData.int.injEq, PyData.bool.injEq, PyData.list.injEq, PyData.tuple.injEq, PyData.str.injEq, reduceCtorEq, false_and, and_false, exists_false, false_or, or_false, if_true, if_false, reduceIte, Bool.false_eq_true, Nat.reduceAdd, Nat.reduceSub, Nat.succ_sub_succ, Nat.zero_add, VL.gP, List.filterMap_cons, List.filterMap_nil, List.cons.injEq, VL.wDisp0, VL.wDisp, VL.wPairs, VL.oLcm, VL.wPop, VL.wRevM, VL.wClearM, VL.wTupRg, VL.wListRg, VL.wR1, VL.wR2, VL.wRevN, VL.oRepT, VL.oRepL, S_check_number]
  refine ⟨q, rfl, num_bd n, n.lo, n.hi, ?_⟩
  rw [hk]
  clear hk k
  refine seq_gen fun k hk => ?_
  simp only [VL.wSeq, VL.wNext, VL.wNever, VL.wAsg, VL.wSet, VL.wVar, VL.wFrz, VL.wC, VL.wOp, VL.wTest, VL.wNotT, VL.wAndT, VL.wOrT, VL.wAnd, VL.wOr, VL.wNot, VL.wIf, VL.wNil, VL.wCons, VL.wTup, VL.wLst, VL.wStay, VL.wNew, VL.wPar, VL.wAug, VL.wDrop, VL.wRet, VL.wRetN, VL.wRet0, VL.wIfS, VL.wBrk, VL.wCnt, VL.wGt, VL.wGs, VL.wCB, VL.wCBN, VL.wCall, VL.wCallN, VL.wCallIo, VL.wCallIoN, VL.wCallK, VL.wIsi, VL.wIsi2, VL.wApp, VL.wExt, VL.wIns, VL.wSetIt, VL.wNoPart, VL.wPart, VL.wSl, VL.wSlN, VL.wChain, VL.wNeg, VL.wDnew, VL.wDput, VL.wDget, VL.wDin, VL.wDnin, VL.wIndex, VL.wRev, VL.wParNE, VL.wParEN, VL.wPar3, VL.wYes, VL.wSeqOf, VL.wRng1, VL.wRng2, VL.oI, VL.oI0, VL.oLt, VL.oLe, VL.oGt, VL.oGe, VL.oSub, VL.oMul, VL.oFdiv, VL.oMod, VL.oPow, VL.oShl', VL.oAbs, VL.oMax2, VL.oMin2, VL.oGcd, VL.atI_0, VL.atI_1, VL.atI_2, VL.ixN_20, VL.ixN_21, and_assoc, VL.shp_int, VL.shp_bool, VL.shp_none, VL.eqv_int, VL.eqv_bool, VL.isiD, VL.tyD, String.reduceBEq, Bool.not_true, Bool.not_false, Bool.and_true, Bool.and_false, Bool.true_and, Bool.false_and, Bool.or_true, Bool.or_false, Bool.true_or, Bool.false_or, decide_true, decide_false, Bool.not_eq_true', Bool.not_eq_eq_eq_not, decide_eq_true_eq, decide_eq_false_iff_not, VL.oInt1, VL.oInt2, VL.oLen, VL.oToInt, VL.oAdd, VL.oEq, VL.oNe, VL.oIsN, VL.oIn, VL.itemD, VL.isN, VL.der, VL.ders, VL.dats, VL.ioA, VL.endsV, VL.retE, VL.keepC, Option.map, List.range_succ, List.range_zero, List.map_cons, List.map_nil, List.map_append, List.nil_append, List.cons_append, List.append_nil, List.replicate_zero, List.replicate_succ, List.length_cons, List.length_nil, Nat.sub_self, List.getElem?_cons_zero, List.getElem?_cons_succ, List.set_cons_zero, List.set_cons_succ, Option.some.injEq, exists_eq_left', exists_eq_left, exists_eq_right, exists_and_left, exists_and_right, and_true, true_and, CV.d.injEq, CV.loc.injEq, Cell.lst.injEq, Cell.dat.injEq, Cell.dic.injEq, PyData.int.injEq, PyData.bool.injEq, PyData.list.injEq, PyData.tuple.injEq, PyData.str.injEq, reduceCtorEq, false_and, and_false, exists_false, false_or, or_false, if_true, if_false, reduceIte, Bool.false_eq_true, Nat.reduceAdd, Nat.reduceSub, Nat.succ_sub_succ, Nat.zero_add, VL.gP, List.filterMap_cons, List.filterMap_nil, List.cons.injEq, VL.wDisp0, VL.wDisp, VL.wPairs, VL.oLcm, VL.wPop, VL.wRevM, VL.wClearM, VL.wTupRg, VL.wListRg, VL.wR1, VL.wR2, VL.wRevN, VL.oRepT, VL.oRepL]
  unfold rD
  try simp only [VL.wSeq, VL.wNext, VL.wNever, VL.wAsg, VL.wSet, VL.wVar, VL.wFrz, VL.wC, VL.wOp, VL.wTest, VL.wNotT, VL.wAndT, VL.wOrT, VL.wAnd, VL.wOr, VL.wNot, VL.wIf, VL.wNil, VL.wCons, VL.wTup, VL.wLst, VL.wStay, VL.wNew, VL.wPar, VL.wAug, VL.wDrop, VL.wRet, VL.wRetN, VL.wRet0, VL.wIfS, VL.wBrk, VL.wCnt, VL.wGt, VL.wGs, VL.wCB, VL.wCBN, VL.wCall, VL.wCallN, VL.wCallIo, VL.wCallIoN, VL.wCallK, VL.wIsi, VL.wIsi2, VL.wApp, VL.wExt, VL.wIns, VL.wSetIt, VL.wNoPart, VL.wPart, VL.wSl, VL.wSlN, VL.wChain, VL.wNeg, VL.wDnew, VL.wDput, VL.wDget, VL.wDin, VL.wDnin, VL.wIndex, VL.wRev, VL.wParNE, VL.wParEN, VL.wPar3, VL.wYes, VL.wSeqOf, VL.wRng1, VL.wRng2, VL.oI, VL.oI0, VL.oLt, VL.oLe, VL.oGt, VL.oGe, VL.oSub, VL.oMul, VL.oFdiv, VL.oMod, VL.oPow, VL.oShl', VL.oAbs, VL.oMax2, VL.oMin2, VL.oGcd, VL.atI_0, VL.atI_1, VL.atI_2, VL.ixN_20, VL.ixN_21, and_assoc, VL.shp_int, VL.shp_bool, VL.shp_none, VL.eqv_int, VL.eqv_bool, VL.isiD, VL.tyD, String.reduceBEq, Bool.not_true, Bool.not_false, Bool.and_true, Bool.and_false, Bool.true_and, Bool.false_and, Bool.or_true, Bool.or_false, Bool.true_or, Bool.false_or, decide_true, decide_false, Bool.not_eq_true', Bool.not_eq_eq_eq_not, decide_eq_true_eq, decide_eq_false_iff_not, VL.oInt1, VL.oInt2, VL.oLen, VL.oToInt, VL.oAdd, VL.oEq, VL.oNe, VL.oIsN, VL.oIn, VL.itemD, VL.isN, VL.der, VL.ders, VL.dats, VL.ioA, VL.endsV, VL.retE, VL.keepC, Option.map, List.range_succ, List.range_zero, List.map_cons, List.map_nil, List.map_append, List.nil_append, List.cons_append, List.append_nil, List.replicate_zero, List.replicate_succ, List.length_cons, List.length_nil, Nat.sub_self, List.getElem?_cons_zero, List.getElem?_cons_succ, List.set_cons_zero, List.set_cons_succ, Option.some.injEq, exists_eq_left', exists_eq_left, exists_eq_right, exists_and_left, exists_and_right, and_true, true_and, CV.d.injEq, CV.loc.injEq, Cell.lst.injEq, Cell.dat.injEq, Cell.dic.injEq, PyData.int.injEq, PyData.bool.injEq, PyData.list.injEq, PyData.tuple.injEq, PyData.str.injEq, reduceCtorEq, false_and, and_false, exists_false, false_or, or_false, if_true, if_false, reduceIte, Bool.false_eq_true, Nat.reduceAdd, Nat.reduceSub, Nat.succ_sub_succ, Nat.zero_add, VL.gP, List.filterMap_cons, List.filterMap_nil, List.cons.injEq, VL.wDisp0, VL.wDisp, VL.wPairs, VL.oLcm, VL.wPop, VL.wRevM, VL.wClearM, VL.wTupRg, VL.wListRg, VL.wR1, VL.wR2, VL.wRevN, VL.oRepT, VL.oRepL]
  rw [hk]
  clear hk k
  refine seq_gen fun k hk => ?_
  simp only [VL.wSeq, VL.wNext, VL.wNever, VL.wAsg, VL.wSet, VL.wVar, VL.wFrz, VL.wC, VL.wOp, VL.wTest, VL.wNotT, VL.wAndT, VL.wOrT, VL.wAnd, VL.wOr, VL.wNot, VL.wIf, VL.wNil, VL.wCons, VL.wTup, VL.wLst, VL.wStay, VL.wNew, VL.wPar, VL.wAug, VL.wDrop, VL.wRet, VL.wRetN, VL.wRet0, VL.wIfS, VL.wBrk, VL.wCnt, VL.wGt, VL.wGs, VL.wCB, VL.wCBN, VL.wCall, VL.wCallN, VL.wCallIo, VL.wCallIoN, VL.wCallK, VL.wIsi, VL.wIsi2, VL.wApp, VL.wExt, VL.wIns, VL.wSetIt, VL.wNoPart, VL.wPart, VL.wSl, VL.wSlN, VL.wChain, VL.wNeg, VL.wDnew, VL.wDput, VL.wDget, VL.wDin, VL.wDnin, VL.wIndex, VL.wRev, VL.wParNE, VL.wParEN, VL.wPar3, VL.wYes, VL.wSeqOf, VL.wRng1, VL.wRng2, VL.oI, VL.oI0, VL.oLt, VL.oLe, VL.oGt, VL.oGe, VL.oSub, VL.oMul, VL.oFdiv, VL.oMod, VL.oPow, VL.oShl', VL.oAbs, VL.oMax2, VL.oMin2, VL.oGcd, VL.atI_0, VL.atI_1, VL.atI_2, VL.ixN_20, VL.ixN_21, and_assoc, VL.shp_int, VL.shp_bool, VL.shp_none, VL.eqv_int, VL.eqv_bool, VL.isiD, VL.tyD, String.reduceBEq, Bool.not_true, Bool.not_false, Bool.and_true, Bool.and_false, Bool.true_and, Bool.false_and, Bool.or_true, Bool.or_false, Bool.true_or, Bool.false_or, decide_true, decide_false, Bool.not_eq_true', Bool.not_eq_eq_eq_not, decide_eq_true_eq, decide_eq_false_iff_not, VL.oInt1, VL.oInt2, VL.oLen, VL.oToInt, VL.oAdd, VL.oEq, VL.oNe, VL.oIsN, VL.oIn, VL.itemD, VL.isN, VL.der, VL.ders, VL.dats, VL.ioA, VL.endsV, VL.retE, VL.keepC, Option.map, List.range_succ, List.range_zero, List.map_cons, List.map_nil, List.map_append, List.nil_append, List.cons_append, List.append_nil, List.replicate_zero, List.replicate_succ, List.length_cons, List.length_nil, Nat.sub_self, List.getElem?_cons_zero, List.getElem?_cons_succ, List.set_cons_zero, List.set_cons_succ, Option.some.injEq, exists_eq_left', exists_eq_left, exists_eq_right, exists_and_left, exists_and_right, and_true, true_and, CV.d.injEq, CV.loc.injEq, Cell.lst.injEq, Cell.dat.injEq, Cell.dic.injEq, PyData.int.injEq, PyData.bool.injEq, PyData.list.injEq, PyData.tuple.injEq, PyData.str.injEq, reduceCtorEq, false_and, and_false, exists_false, false_or, or_false, if_true, if_false, reduceIte, Bool.false_eq_true, Nat.reduceAdd, Nat.reduceSub, Nat.succ_sub_succ, Nat.zero_add, VL.gP, List.filterMap_cons, List.filterMap_nil, List.cons.injEq, VL.wDisp0, VL.wDisp, VL.wPairs, VL.oLcm, VL.wPop, VL.wRevM, VL.wClearM, VL.wTupRg, VL.wListRg, VL.wR1, VL.wR2, VL.wRevN, VL.oRepT, VL.oRepL, S_tails_of]
  refine ⟨q, rfl, n, fun s p P => ?_⟩
  simp only [VL.wSeq, VL.wNext, VL.wNever, VL.wAsg, VL.wSet, VL.wVar, VL.wFrz, VL.wC, VL.wOp, VL.wTest, VL.wNotT, VL.wAndT, VL.wOrT, VL.wAnd, VL.wOr, VL.wNot, VL.wIf, VL.wNil, VL.wCons, VL.wTup, VL.wLst, VL.wStay, VL.wNew, VL.wPar, VL.wAug, VL.wDrop, VL.wRet, VL.wRetN, VL.wRet0, VL.wIfS, VL.wBrk, VL.wCnt, VL.wGt, VL.wGs, VL.wCB, VL.wCBN, VL.wCall, VL.wCallN, VL.wCallIo, VL.wCallIoN, VL.wCallK, VL.wIsi, VL.wIsi2, VL.wApp, VL.wExt, VL.wIns, VL.wSetIt, VL.wNoPart, VL.wPart, VL.wSl, VL.wSlN, VL.wChain, VL.wNeg, VL.wDnew, VL.wDput, VL.wDget, VL.wDin, VL.wDnin, VL.wIndex, VL.wRev, VL.wParNE, VL.wParEN, VL.wPar3, VL.wYes, VL.wSeqOf, VL.wRng1, VL.wRng2, VL.oI, VL.oI0, VL.oLt, VL.oLe, VL.oGt, VL.oGe, VL.oSub, VL.oMul, VL.oFdiv, VL.oMod, VL.oPow, VL.oShl', VL.oAbs, VL.oMax2, VL.oMin2, VL.oGcd, VL.atI_0, VL.atI_1, VL.atI_2, VL.ixN_20, VL.ixN_21, and_assoc, VL.shp_int, VL.shp_bool, VL.shp_none, VL.eqv_int, VL.eqv_bool, VL.isiD, VL.tyD, String.reduceBEq, Bool.not_true, Bool.not_false, Bool.and_true, Bool.and_false, Bool.true_and, Bool.false_and, Bool.or_true, Bool.or_false, Bool.true_or, Bool.false_or, decide_true, decide_false, Bool.not_eq_true', Bool.not_eq_eq_eq_not, decide_eq_true_eq, decide_eq_false_iff_not, VL.oInt1, VL.oInt2, VL.oLen, VL.oToInt, VL.oAdd, VL.oEq, VL.oNe, VL.oIsN, VL.oIn, VL.itemD, VL.isN, VL.der, VL.ders, VL.dats, VL.ioA, VL.endsV, VL.retE, VL.keepC, Option.map, List.range_succ, List.range_zero, List.map_cons, List.map_nil, List.map_append, List.nil_append, List.cons_append, List.append_nil, List.replicate_zero, List.replicate_succ, List.length_cons, List.length_nil, Nat.sub_self, List.getElem?_cons_zero, List.getElem?_cons_succ, List.set_cons_zero, List.set_cons_succ, Option.some.injEq, exists_eq_left', exists_eq_left, exists_eq_right, exists_and_left, exists_and_right, and_true, true_and, CV.d.injEq, CV.loc.injEq, Cell.lst.injEq, Cell.dat.injEq, Cell.dic.injEq, PyData.int.injEq, PyData.bool.injEq, PyData.list.injEq, PyData.tuple.injEq, PyData.str.injEq, reduceCtorEq, false_and, and_false, exists_false, false_or, or_false, if_true, if_false, reduceIte, Bool.false_eq_true, Nat.reduceAdd, Nat.reduceSub, Nat.succ_sub_succ, Nat.zero_add, VL.gP, List.filterMap_cons, List.filterMap_nil, List.cons.injEq, VL.wDisp0, VL.wDisp, VL.wPairs, VL.oLcm, VL.wPop, VL.wRevM, VL.wClearM, VL.wTupRg, VL.wListRg, VL.wR1, VL.wR2, VL.wRevN, VL.oRepT, VL.oRepL, intL]
  rw [hk]
  clear hk k
  have l := per_len n P
  simp only [VL.wSeq, VL.wNext, VL.wNever, VL.wAsg, VL.wSet, VL.wVar, VL.wFrz, VL.wC, VL.wOp, VL.wTest, VL.wNotT, VL.wAndT, VL.wOrT, VL.wAnd, VL.wOr, VL.wNot, VL.wIf, VL.wNil, VL.wCons, VL.wTup, VL.wLst, VL.wStay, VL.wNew, VL.wPar, VL.wAug, VL.wDrop, VL.wRet, VL.wRetN, VL.wRet0, VL.wIfS, VL.wBrk, VL.wCnt, VL.wGt, VL.wGs, VL.wCB, VL.wCBN, VL.wCall, VL.wCallN, VL.wCallIo, VL.wCallIoN, VL.wCallK, VL.wIsi, VL.wIsi2, VL.wApp, VL.wExt, VL.wIns, VL.wSetIt, VL.wNoPart, VL.wPart, VL.wSl, VL.wSlN, VL.wChain, VL.wNeg, VL.wDnew, VL.wDput, VL.wDget, VL.wDin, VL.wDnin, VL.wIndex, VL.wRev, VL.wParNE, VL.wParEN, VL.wPar3, VL.wYes, VL.wSeqOf, VL.wRng1, VL.wRng2, VL.oI, VL.oI0, VL.oLt, VL.oLe, VL.oGt, VL.oGe, VL.oSub, VL.oMul, VL.oFdiv, VL.oMod, VL.oPow, VL.oShl', VL.oAbs, VL.oMax2, VL.oMin2, VL.oGcd, VL.atI_0, VL.atI_1, VL.atI_2, VL.ixN_20, VL.ixN_21, and_assoc, VL.shp_int, VL.shp_bool, VL.shp_none, VL.eqv_int, VL.eqv_bool, VL.isiD, VL.tyD, String.reduceBEq, Bool.not_true, Bool.not_false, Bool.and_true, Bool.and_false, Bool.true_and, Bool.false_and, Bool.or_true, Bool.or_false, Bool.true_or, Bool.false_or, decide_true, decide_false, Bool.not_eq_true', Bool.not_eq_eq_eq_not, decide_eq_true_eq, decide_eq_false_iff_not, VL.oInt1, VL.oInt2, VL.oLen, VL.oToInt, VL.oAdd, VL.oEq, VL.oNe, VL.oIsN, VL.oIn, VL.itemD, VL.isN, VL.der, VL.ders, VL.dats, VL.ioA, VL.endsV, VL.retE, VL.keepC, Option.map, List.range_succ, List.range_zero, List.map_cons, List.map_nil, List.map_append, List.nil_append, List.cons_append, List.append_nil, List.replicate_zero, List.replicate_succ, List.length_cons, List.length_nil, Nat.sub_self, List.getElem?_cons_zero, List.getElem?_cons_succ, List.set_cons_zero, List.set_cons_succ, Option.some.injEq, exists_eq_left', exists_eq_left, exists_eq_right, exists_and_left, exists_and_right, and_true, true_and, CV.d.injEq, CV.loc.injEq, Cell.lst.injEq, Cell.dat.injEq, Cell.dic.injEq, PyData.int.injEq, PyData.bool.injEq, PyData.list.injEq, PyData.tuple.injEq, PyData.str.injEq, reduceCtorEq, false_and, and_false, exists_false, false_or, or_false, if_true, if_false, reduceIte, Bool.false_eq_true, Nat.reduceAdd, Nat.reduceSub, Nat.succ_sub_succ, Nat.zero_add, VL.gP, List.filterMap_cons, List.filterMap_nil, List.cons.injEq, VL.wDisp0, VL.wDisp, VL.wPairs, VL.oLcm, VL.wPop, VL.wRevM, VL.wClearM, VL.wTupRg, VL.wListRg, VL.wR1, VL.wR2, VL.wRevN, VL.oRepT, VL.oRepL, wGTup, wGx, wipeE, okLd]
  refine ⟨fun i acc ρ => acc = (seg (fg q.num q.den) i 0).map .int ∧ ρ = [.dat (rD q), .dat (.int q.den), .dat (.list ((seg (tp q.num q.den) s 0).map .int)), .dat (.list ((seg (tp q.num q.den) p s).map .int)), .un], ⟨rfl, rfl⟩, ?_, ?_⟩
  · rintro i acc ρ d ⟨rfl, rfl⟩ hx
    obtain ⟨rfl, hi⟩ := seg_at hx
    simp only [VL.wSeq, VL.wNext, VL.wNever, VL.wAsg, VL.wSet, VL.wVar, VL.wFrz, VL.wC, VL.wOp, VL.wTest, VL.wNotT, VL.wAndT, VL.wOrT, VL.wAnd, VL.wOr, VL.wNot, VL.wIf, VL.wNil, VL.wCons, VL.wTup, VL.wLst, VL.wStay, VL.wNew, VL.wPar, VL.wAug, VL.wDrop, VL.wRet, VL.wRetN, VL.wRet0, VL.wIfS, VL.wBrk, VL.wCnt, VL.wGt, VL.wGs, VL.wCB, VL.wCBN, VL.wCall, VL.wCallN, VL.wCallIo, VL.wCallIoN, VL.wCallK, VL.wIsi, VL.wIsi2, VL.wApp, VL.wExt, VL.wIns, VL.wSetIt, VL.wNoPart, VL.wPart, VL.wSl, VL.wSlN, VL.wChain, VL.wNeg, VL.wDnew, VL.wDput, VL.wDget, VL.wDin, VL.wDnin, VL.wIndex, VL.wRev, VL.wParNE, VL.wParEN, VL.wPar3, VL.wYes, VL.wSeqOf, VL.wRng1, VL.wRng2, VL.oI, VL.oI0, VL.oLt, VL.oLe, VL.oGt, VL.oGe, VL.oSub, VL.oMul, VL.oFdiv, VL.oMod, VL.oPow, VL.oShl', VL.oAbs, VL.oMax2, VL.oMin2, VL.oGcd, VL.atI_0, VL.atI_1, VL.atI_2, VL.ixN_20, VL.ixN_21, and_assoc, VL.shp_int, VL.shp_bool, VL.shp_none, VL.eqv_int, VL.eqv_bool, VL.isiD, VL.tyD, String.reduceBEq, Bool.not_true, Bool.not_false, Bool.and_true, Bool.and_false, Bool.true_and, Bool.false_and, Bool.or_true, Bool.or_false, Bool.true_or, Bool.false_or, decide_true, decide_false, Bool.not_eq_true', Bool.not_eq_eq_eq_not, decide_eq_true_eq, decide_eq_false_iff_not, VL.oInt1, VL.oInt2, VL.oLen, VL.oToInt, VL.oAdd, VL.oEq, VL.oNe, VL.oIsN, VL.oIn, VL.itemD, VL.isN, VL.der, VL.ders, VL.dats, VL.ioA, VL.endsV, VL.retE, VL.keepC, Option.map, List.range_succ, List.range_zero, List.map_cons, List.map_nil, List.map_append, List.nil_append, List.cons_append, List.append_nil, List.replicate_zero, List.replicate_succ, List.length_cons, List.length_nil, Nat.sub_self, List.getElem?_cons_zero, List.getElem?_cons_succ, List.set_cons_zero, List.set_cons_succ, Option.some.injEq, exists_eq_left', exists_eq_left, exists_eq_right, exists_and_left, exists_and_right, and_true, true_and, CV.d.injEq, CV.loc.injEq, Cell.lst.injEq, Cell.dat.injEq, Cell.dic.injEq, PyData.int.injEq, PyData.bool.injEq, PyData.list.injEq, PyData.tuple.injEq, PyData.str.injEq, reduceCtorEq, false_and, and_false, exists_false, false_or, or_false, if_true, if_false, reduceIte, Bool.false_eq_true, Nat.reduceAdd, Nat.reduceSub, Nat.succ_sub_succ, Nat.zero_add, VL.gP, List.filterMap_cons, List.filterMap_nil, List.cons.injEq, VL.wDisp0, VL.wDisp, VL.wPairs, VL.oLcm, VL.wPop, VL.wRevM, VL.wClearM, VL.wTupRg, VL.wListRg, VL.wR1, VL.wR2, VL.wRevN, VL.oRepT, VL.oRepL]
    refine ⟨cdv_num n _, ?_, ?_⟩
    · rw [List.length_map, seg_len]
      exact small_size (by omega)
    · exact map_seg _ _
  · rintro acc ρ ⟨rfl, rfl⟩
    rw [List.length_map, List.length_map, seg_len, seg_len]
    refine ⟨Nat.le_of_lt (small_size (by omega)), ?_⟩
    simp only [VL.wSeq, VL.wNext, VL.wNever, VL.wAsg, VL.wSet, VL.wVar, VL.wFrz, VL.wC, VL.wOp, VL.wTest, VL.wNotT, VL.wAndT, VL.wOrT, VL.wAnd, VL.wOr, VL.wNot, VL.wIf, VL.wNil, VL.wCons, VL.wTup, VL.wLst, VL.wStay, VL.wNew, VL.wPar, VL.wAug, VL.wDrop, VL.wRet, VL.wRetN, VL.wRet0, VL.wIfS, VL.wBrk, VL.wCnt, VL.wGt, VL.wGs, VL.wCB, VL.wCBN, VL.wCall, VL.wCallN, VL.wCallIo, VL.wCallIoN, VL.wCallK, VL.wIsi, VL.wIsi2, VL.wApp, VL.wExt, VL.wIns, VL.wSetIt, VL.wNoPart, VL.wPart, VL.wSl, VL.wSlN, VL.wChain, VL.wNeg, VL.wDnew, VL.wDput, VL.wDget, VL.wDin, VL.wDnin, VL.wIndex, VL.wRev, VL.wParNE, VL.wParEN, VL.wPar3, VL.wYes, VL.wSeqOf, VL.wRng1, VL.wRng2, VL.oI, VL.oI0, VL.oLt, VL.oLe, VL.oGt, VL.oGe, VL.oSub, VL.oMul, VL.oFdiv, VL.oMod, VL.oPow, VL.oShl', VL.oAbs, VL.oMax2, VL.oMin2, VL.oGcd, VL.atI_0, VL.atI_1, VL.atI_2, VL.ixN_20, VL.ixN_21, and_assoc, VL.shp_int, VL.shp_bool, VL.shp_none, VL.eqv_int, VL.eqv_bool, VL.isiD, VL.tyD, String.reduceBEq, Bool.not_true, Bool.not_false, Bool.and_true, Bool.and_false, Bool.true_and, Bool.false_and, Bool.or_true, Bool.or_false, Bool.true_or, Bool.false_or, decide_true, decide_false, Bool.not_eq_true', Bool.not_eq_eq_eq_not, decide_eq_true_eq, decide_eq_false_iff_not, VL.oInt1, VL.oInt2, VL.oLen, VL.oToInt, VL.oAdd, VL.oEq, VL.oNe, VL.oIsN, VL.oIn, VL.itemD, VL.isN, VL.der, VL.ders, VL.dats, VL.ioA, VL.endsV, VL.retE, VL.keepC, Option.map, List.range_succ, List.range_zero, List.map_cons, List.map_nil, List.map_append, List.nil_append, List.cons_append, List.append_nil, List.replicate_zero, List.replicate_succ, List.length_cons, List.length_nil, Nat.sub_self, List.getElem?_cons_zero, List.getElem?_cons_succ, List.set_cons_zero, List.set_cons_succ, Option.some.injEq, exists_eq_left', exists_eq_left, exists_eq_right, exists_and_left, exists_and_right, and_true, true_and, CV.d.injEq, CV.loc.injEq, Cell.lst.injEq, Cell.dat.injEq, Cell.dic.injEq, PyData.int.injEq, PyData.bool.injEq, PyData.list.injEq, PyData.tuple.injEq, PyData.str.injEq, reduceCtorEq, false_and, and_false, exists_false, false_or, or_false, if_true, if_false, reduceIte, Bool.false_eq_true, Nat.reduceAdd, Nat.reduceSub, Nat.succ_sub_succ, Nat.zero_add, VL.gP, List.filterMap_cons, List.filterMap_nil, List.cons.injEq, VL.wDisp0, VL.wDisp, VL.wPairs, VL.oLcm, VL.wPop, VL.wRevM, VL.wClearM, VL.wTupRg, VL.wListRg, VL.wR1, VL.wR2, VL.wRevN, VL.oRepT, VL.oRepL]
    refine ⟨fun i acc ρ => acc = (seg (fg q.num q.den) i s).map .int ∧ ρ = [.dat (rD q), .dat (.int q.den), .dat (.list ((seg (tp q.num q.den) s 0).map .int)), .dat (.list ((seg (tp q.num q.den) p s).map .int)), .un], ⟨rfl, rfl⟩, ?_, ?_⟩
    · rintro i acc ρ d ⟨rfl, rfl⟩ hx
      obtain ⟨rfl, hi⟩ := seg_at2 hx
      simp only [VL.wSeq, VL.wNext, VL.wNever, VL.wAsg, VL.wSet, VL.wVar, VL.wFrz, VL.wC, VL.wOp, VL.wTest, VL.wNotT, VL.wAndT, VL.wOrT, VL.wAnd, VL.wOr, VL.wNot, VL.wIf, VL.wNil, VL.wCons, VL.wTup, VL.wLst, VL.wStay, VL.wNew, VL.wPar, VL.wAug, VL.wDrop, VL.wRet, VL.wRetN, VL.wRet0, VL.wIfS, VL.wBrk, VL.wCnt, VL.wGt, VL.wGs, VL.wCB, VL.wCBN, VL.wCall, VL.wCallN, VL.wCallIo, VL.wCallIoN, VL.wCallK, VL.wIsi, VL.wIsi2, VL.wApp, VL.wExt, VL.wIns, VL.wSetIt, VL.wNoPart, VL.wPart, VL.wSl, VL.wSlN, VL.wChain, VL.wNeg, VL.wDnew, VL.wDput, VL.wDget, VL.wDin, VL.wDnin, VL.wIndex, VL.wRev, VL.wParNE, VL.wParEN, VL.wPar3, VL.wYes, VL.wSeqOf, VL.wRng1, VL.wRng2, VL.oI, VL.oI0, VL.oLt, VL.oLe, VL.oGt, VL.oGe, VL.oSub, VL.oMul, VL.oFdiv, VL.oMod, VL.oPow, VL.oShl', VL.oAbs, VL.oMax2, VL.oMin2, VL.oGcd, VL.atI_0, VL.atI_1, VL.atI_2, VL.ixN_20, VL.ixN_21, and_assoc, VL.shp_int, VL.shp_bool, VL.shp_none, VL.eqv_int, VL.eqv_bool, VL.isiD, VL.tyD, String.reduceBEq, Bool.not_true, Bool.not_false, Bool.and_true, Bool.and_false, Bool.true_and, Bool.false_and, Bool.or_true, Bool.or_false, Bool.true_or, Bool.false_or, decide_true, decide_false, Bool.not_eq_true', Bool.not_eq_eq_eq_not, decide_eq_true_eq, decide_eq_false_iff_not, VL.oInt1, VL.oInt2, VL.oLen, VL.oToInt, VL.oAdd, VL.oEq, VL.oNe, VL.oIsN, VL.oIn, VL.itemD, VL.isN, VL.der, VL.ders, VL.dats, VL.ioA, VL.endsV, VL.retE, VL.keepC, Option.map, List.range_succ, List.range_zero, List.map_cons, List.map_nil, List.map_append, List.nil_append, List.cons_append, List.append_nil, List.replicate_zero, List.replicate_succ, List.length_cons, List.length_nil, Nat.sub_self, List.getElem?_cons_zero, List.getElem?_cons_succ, List.set_cons_zero, List.set_cons_succ, Option.some.injEq, exists_eq_left', exists_eq_left, exists_eq_right, exists_and_left, exists_and_right, and_true, true_and, CV.d.injEq, CV.loc.injEq, Cell.lst.injEq, Cell.dat.injEq, Cell.dic.injEq, PyData.int.injEq, PyData.bool.injEq, PyData.list.injEq, PyData.tuple.injEq, PyData.str.injEq, reduceCtorEq, false_and, and_false, exists_false, false_or, or_false, if_true, if_false, reduceIte, Bool.false_eq_true, Nat.reduceAdd, Nat.reduceSub, Nat.succ_sub_succ, Nat.zero_add, VL.gP, List.filterMap_cons, List.filterMap_nil, List.cons.injEq, VL.wDisp0, VL.wDisp, VL.wPairs, VL.oLcm, VL.wPop, VL.wRevM, VL.wClearM, VL.wTupRg, VL.wListRg, VL.wR1, VL.wR2, VL.wRevN, VL.oRepT, VL.oRepL]
      refine ⟨cdv_num n _, ?_, ?_⟩
      · rw [List.length_map, seg_len]
        exact small_size (by omega)
      · exact map_seg2 _ _ _
    · rintro acc ρ ⟨rfl, rfl⟩
      rw [List.length_map, List.length_map, seg_len, seg_len]
      refine ⟨Nat.le_of_lt (small_size (by omega)), ?_⟩
      simp only [VL.wSeq, VL.wNext, VL.wNever, VL.wAsg, VL.wSet, VL.wVar, VL.wFrz, VL.wC, VL.wOp, VL.wTest, VL.wNotT, VL.wAndT, VL.wOrT, VL.wAnd, VL.wOr, VL.wNot, VL.wIf, VL.wNil, VL.wCons, VL.wTup, VL.wLst, VL.wStay, VL.wNew, VL.wPar, VL.wAug, VL.wDrop, VL.wRet, VL.wRetN, VL.wRet0, VL.wIfS, VL.wBrk, VL.wCnt, VL.wGt, VL.wGs, VL.wCB, VL.wCBN, VL.wCall, VL.wCallN, VL.wCallIo, VL.wCallIoN, VL.wCallK, VL.wIsi, VL.wIsi2, VL.wApp, VL.wExt, VL.wIns, VL.wSetIt, VL.wNoPart, VL.wPart, VL.wSl, VL.wSlN, VL.wChain, VL.wNeg, VL.wDnew, VL.wDput, VL.wDget, VL.wDin, VL.wDnin, VL.wIndex, VL.wRev, VL.wParNE, VL.wParEN, VL.wPar3, VL.wYes, VL.wSeqOf, VL.wRng1, VL.wRng2, VL.oI, VL.oI0, VL.oLt, VL.oLe, VL.oGt, VL.oGe, VL.oSub, VL.oMul, VL.oFdiv, VL.oMod, VL.oPow, VL.oShl', VL.oAbs, VL.oMax2, VL.oMin2, VL.oGcd, VL.atI_0, VL.atI_1, VL.atI_2, VL.ixN_20, VL.ixN_21, and_assoc, VL.shp_int, VL.shp_bool, VL.shp_none, VL.eqv_int, VL.eqv_bool, VL.isiD, VL.tyD, String.reduceBEq, Bool.not_true, Bool.not_false, Bool.and_true, Bool.and_false, Bool.true_and, Bool.false_and, Bool.or_true, Bool.or_false, Bool.true_or, Bool.false_or, decide_true, decide_false, Bool.not_eq_true', Bool.not_eq_eq_eq_not, decide_eq_true_eq, decide_eq_false_iff_not, VL.oInt1, VL.oInt2, VL.oLen, VL.oToInt, VL.oAdd, VL.oEq, VL.oNe, VL.oIsN, VL.oIn, VL.itemD, VL.isN, VL.der, VL.ders, VL.dats, VL.ioA, VL.endsV, VL.retE, VL.keepC, Option.map, List.range_succ, List.range_zero, List.map_cons, List.map_nil, List.map_append, List.nil_append, List.cons_append, List.append_nil, List.replicate_zero, List.replicate_succ, List.length_cons, List.length_nil, Nat.sub_self, List.getElem?_cons_zero, List.getElem?_cons_succ, List.set_cons_zero, List.set_cons_succ, Option.some.injEq, exists_eq_left', exists_eq_left, exists_eq_right, exists_and_left, exists_and_right, and_true, true_and, CV.d.injEq, CV.loc.injEq, Cell.lst.injEq, Cell.dat.injEq, Cell.dic.injEq, PyData.int.injEq, PyData.bool.injEq, PyData.list.injEq, PyData.tuple.injEq, PyData.str.injEq, reduceCtorEq, false_and, and_false, exists_false, false_or, or_false, if_true, if_false, reduceIte, Bool.false_eq_true, Nat.reduceAdd, Nat.reduceSub, Nat.succ_sub_succ, Nat.zero_add, VL.gP, List.filterMap_cons, List.filterMap_nil, List.cons.injEq, VL.wDisp0, VL.wDisp, VL.wPairs, VL.oLcm, VL.wPop, VL.wRevM, VL.wClearM, VL.wTupRg, VL.wListRg, VL.wR1, VL.wR2, VL.wRevN, VL.oRepT, VL.oRepL]
      exact ⟨by decide, h s p P⟩
theorem h_is_figures (ρ : En) (Q : RV → En → Prop) (h : S_is_figures ρ Q) : t_is_figures (endsV 1 Q) (ρ ++ List.replicate (1 - 1) .un) := by
  obtain ⟨ahead, again, rfl, s1, s2, l, h⟩ := h
  unfold t_is_figures
  refine seq_gen fun k hk => ?_
  simp only [VL.wSeq, VL.wNext, VL.wNever, VL.wAsg, VL.wSet, VL.wVar, VL.wFrz, VL.wC, VL.wOp, VL.wTest, VL.wNotT, VL.wAndT, VL.wOrT, VL.wAnd, VL.wOr, VL.wNot, VL.wIf, VL.wNil, VL.wCons, VL.wTup, VL.wLst, VL.wStay, VL.wNew, VL.wPar, VL.wAug, VL.wDrop, VL.wRet, VL.wRetN, VL.wRet0, VL.wIfS, VL.wBrk, VL.wCnt, VL.wGt, VL.wGs, VL.wCB, VL.wCBN, VL.wCall, VL.wCallN, VL.wCallIo, VL.wCallIoN, VL.wCallK, VL.wIsi, VL.wIsi2, VL.wApp, VL.wExt, VL.wIns, VL.wSetIt, VL.wNoPart, VL.wPart, VL.wSl, VL.wSlN, VL.wChain, VL.wNeg, VL.wDnew, VL.wDput, VL.wDget, VL.wDin, VL.wDnin, VL.wIndex, VL.wRev, VL.wParNE, VL.wParEN, VL.wPar3, VL.wYes, VL.wSeqOf, VL.wRng1, VL.wRng2, VL.oI, VL.oI0, VL.oLt, VL.oLe, VL.oGt, VL.oGe, VL.oSub, VL.oMul, VL.oFdiv, VL.oMod, VL.oPow, VL.oShl', VL.oAbs, VL.oMax2, VL.oMin2, VL.oGcd, VL.atI_0, VL.atI_1, VL.atI_2, VL.ixN_20, VL.ixN_21, and_assoc, VL.shp_int, VL.shp_bool, VL.shp_none, VL.eqv_int, VL.eqv_bool, VL.isiD, VL.tyD, String.reduceBEq, Bool.not_true, Bool.not_false, Bool.and_true, Bool.and_false, Bool.true_and, Bool.false_and, Bool.or_true, Bool.or_false, Bool.true_or, Bool.false_or, decide_true, decide_false, Bool.not_eq_true', Bool.not_eq_eq_eq_not, decide_eq_true_eq, decide_eq_false_iff_not, VL.oInt1, VL.oInt2, VL.oLen, VL.oToInt, VL.oAdd, VL.oEq, VL.oNe, VL.oIsN, VL.oIn, VL.itemD, VL.isN, VL.der, VL.ders, VL.dats, VL.ioA, VL.endsV, VL.retE, VL.keepC, Option.map, List.range_succ, List.range_zero, List.map_cons, List.map_nil, List.map_append, List.nil_append, List.cons_append, List.append_nil, List.replicate_zero, List.replicate_succ, List.length_cons, List.length_nil, Nat.sub_self, List.getElem?_cons_zero, List.getElem?_cons_succ, List.set_cons_zero, List.set_cons_succ, Option.some.injEq, exists_eq_left', exists_eq_left, exists_eq_right, exists_and_left, exists_and_right, and_true, true_and, CV.d.injEq, CV.loc.injEq, Cell.lst.injEq, Cell.dat.injEq, Cell.dic.injEq, PyData.int.injEq, PyData.bool.injEq, PyData.list.injEq, PyData.tuple.injEq, PyData.str.injEq, reduceCtorEq, false_and, and_false, exists_false, false_or, or_false, if_true, if_false, reduceIte, Bool.false_eq_true, Nat.reduceAdd, Nat.reduceSub, Nat.succ_sub_succ, Nat.zero_add, VL.gP, List.filterMap_cons, List.filterMap_nil, List.cons.injEq, VL.wDisp0, VL.wDisp, VL.wPairs, VL.oLcm, VL.wPop, VL.wRevM, VL.wClearM, VL.wTupRg, VL.wListRg, VL.wR1, VL.wR2, VL.wRevN, VL.oRepT, VL.oRepL]
  rw [hk]
  clear hk k
  simp only [VL.wSeq, VL.wNext, VL.wNever, VL.wAsg, VL.wSet, VL.wVar, VL.wFrz, VL.wC, VL.wOp, VL.wTest, VL.wNotT, VL.wAndT, VL.wOrT, VL.wAnd, VL.wOr, VL.wNot, VL.wIf, VL.wNil, VL.wCons, VL.wTup, VL.wLst, VL.wStay, VL.wNew, VL.wPar, VL.wAug, VL.wDrop, VL.wRet, VL.wRetN, VL.wRet0, VL.wIfS, VL.wBrk, VL.wCnt, VL.wGt, VL.wGs, VL.wCB, VL.wCBN, VL.wCall, VL.wCallN, VL.wCallIo, VL.wCallIoN, VL.wCallK, VL.wIsi, VL.wIsi2, VL.wApp, VL.wExt, VL.wIns, VL.wSetIt, VL.wNoPart, VL.wPart, VL.wSl, VL.wSlN, VL.wChain, VL.wNeg, VL.wDnew, VL.wDput, VL.wDget, VL.wDin, VL.wDnin, VL.wIndex, VL.wRev, VL.wParNE, VL.wParEN, VL.wPar3, VL.wYes, VL.wSeqOf, VL.wRng1, VL.wRng2, VL.oI, VL.oI0, VL.oLt, VL.oLe, VL.oGt, VL.oGe, VL.oSub, VL.oMul, VL.oFdiv, VL.oMod, VL.oPow, VL.oShl', VL.oAbs, VL.oMax2, VL.oMin2, VL.oGcd, VL.atI_0, VL.atI_1, VL.atI_2, VL.ixN_20, VL.ixN_21, and_assoc, VL.shp_int, VL.shp_bool, VL.shp_none, VL.eqv_int, VL.eqv_bool, VL.isiD, VL.tyD, String.reduceBEq, Bool.not_true, Bool.not_false, Bool.and_true, Bool.and_false, Bool.true_and, Bool.false_and, Bool.or_true, Bool.or_false, Bool.true_or, Bool.false_or, decide_true, decide_false, Bool.not_eq_true', Bool.not_eq_eq_eq_not, decide_eq_true_eq, decide_eq_false_iff_not, VL.oInt1, VL.oInt2, VL.oLen, VL.oToInt, VL.oAdd, VL.oEq, VL.oNe, VL.oIsN, VL.oIn, VL.itemD, VL.isN, VL.der, VL.ders, VL.dats, VL.ioA, VL.endsV, VL.retE, VL.keepC, Option.map, List.range_succ, List.range_zero, List.map_cons, List.map_nil, List.map_append, List.nil_append, List.cons_append, List.append_nil, List.replicate_zero, List.replicate_succ, List.length_cons, List.length_nil, Nat.sub_self, List.getElem?_cons_zero, List.getElem?_cons_succ, List.set_cons_zero, List.set_cons_succ, Option.some.injEq, exists_eq_left', exists_eq_left, exists_eq_right, exists_and_left, exists_and_right, and_true, true_and, CV.d.injEq, CV.loc.injEq, Cell.lst.injEq, Cell.dat.injEq, Cell.dic.injEq, PyData.int.injEq, PyData.bool.injEq, PyData.list.injEq, PyData.tuple.injEq, PyData.str.injEq, reduceCtorEq, false_and, and_false, exists_false, false_or, or_false, if_true, if_false, reduceIte, Bool.false_eq_true, Nat.reduceAdd, Nat.reduceSub, Nat.succ_sub_succ, Nat.zero_add, VL.gP, List.filterMap_cons, List.filterMap_nil, List.cons.injEq, VL.wDisp0, VL.wDisp, VL.wPairs, VL.oLcm, VL.wPop, VL.wRevM, VL.wClearM, VL.wTupRg, VL.wListRg, VL.wR1, VL.wR2, VL.wRevN, VL.oRepT, VL.oRepL, S_is_signs]
  refine ⟨ahead, rfl, s1, again, rfl, s2, ?_⟩
  unfold intT
  simp only [VL.wSeq, VL.wNext, VL.wNever, VL.wAsg, VL.wSet, VL.wVar, VL.wFrz, VL.wC, VL.wOp, VL.wTest, VL.wNotT, VL.wAndT, VL.wOrT, VL.wAnd, VL.wOr, VL.wNot, VL.wIf, VL.wNil, VL.wCons, VL.wTup, VL.wLst, VL.wStay, VL.wNew, VL.wPar, VL.wAug, VL.wDrop, VL.wRet, VL.wRetN, VL.wRet0, VL.wIfS, VL.wBrk, VL.wCnt, VL.wGt, VL.wGs, VL.wCB, VL.wCBN, VL.wCall, VL.wCallN, VL.wCallIo, VL.wCallIoN, VL.wCallK, VL.wIsi, VL.wIsi2, VL.wApp, VL.wExt, VL.wIns, VL.wSetIt, VL.wNoPart, VL.wPart, VL.wSl, VL.wSlN, VL.wChain, VL.wNeg, VL.wDnew, VL.wDput, VL.wDget, VL.wDin, VL.wDnin, VL.wIndex, VL.wRev, VL.wParNE, VL.wParEN, VL.wPar3, VL.wYes, VL.wSeqOf, VL.wRng1, VL.wRng2, VL.oI, VL.oI0, VL.oLt, VL.oLe, VL.oGt, VL.oGe, VL.oSub, VL.oMul, VL.oFdiv, VL.oMod, VL.oPow, VL.oShl', VL.oAbs, VL.oMax2, VL.oMin2, VL.oGcd, VL.atI_0, VL.atI_1, VL.atI_2, VL.ixN_20, VL.ixN_21, and_assoc, VL.shp_int, VL.shp_bool, VL.shp_none, VL.eqv_int, VL.eqv_bool, VL.isiD, VL.tyD, String.reduceBEq, Bool.not_true, Bool.not_false, Bool.and_true, Bool.and_false, Bool.true_and, Bool.false_and, Bool.or_true, Bool.or_false, Bool.true_or, Bool.false_or, decide_true, decide_false, Bool.not_eq_true', Bool.not_eq_eq_eq_not, decide_eq_true_eq, decide_eq_false_iff_not, VL.oInt1, VL.oInt2, VL.oLen, VL.oToInt, VL.oAdd, VL.oEq, VL.oNe, VL.oIsN, VL.oIn, VL.itemD, VL.isN, VL.der, VL.ders, VL.dats, VL.ioA, VL.endsV, VL.retE, VL.keepC, Option.map, List.range_succ, List.range_zero, List.map_cons, List.map_nil, List.map_append, List.nil_append, List.cons_append, List.append_nil, List.replicate_zero, List.replicate_succ, List.length_cons, List.length_nil, Nat.sub_self, List.getElem?_cons_zero, List.getElem?_cons_succ, List.set_cons_zero, List.set_cons_succ, Option.some.injEq, exists_eq_left', exists_eq_left, exists_eq_right, exists_and_left, exists_and_right, and_true, true_and, CV.d.injEq, CV.loc.injEq, Cell.lst.injEq, Cell.dat.injEq, Cell.dic.injEq, PyData.int.injEq, PyData.bool.injEq, PyData.list.injEq, PyData.tuple.injEq, PyData.str.injEq, reduceCtorEq, false_and, and_false, exists_false, false_or, or_false, if_true, if_false, reduceIte, Bool.false_eq_true, Nat.reduceAdd, Nat.reduceSub, Nat.succ_sub_succ, Nat.zero_add, VL.gP, List.filterMap_cons, List.filterMap_nil, List.cons.injEq, VL.wDisp0, VL.wDisp, VL.wPairs, VL.oLcm, VL.wPop, VL.wRevM, VL.wClearM, VL.wTupRg, VL.wListRg, VL.wR1, VL.wR2, VL.wRevN, VL.oRepT, VL.oRepL, List.length_map]
  rw [decide_eq_true (by omega)]
  exact h
theorem seg_mem {g : Nat → Int} {n t : Nat} {x : Int} (h : x ∈ seg g n t) : ∃ i, x = g i := by
  unfold seg at h
  obtain ⟨i, _, rfl⟩ := List.mem_map.mp h
  exact ⟨_, rfl⟩
theorem sg_fg {q : Rat} (n : Num q) {N t : Nat} (h : N ≤ 1000) : Sg (seg (fg q.num q.den) N t) := ⟨by rw [seg_len]; exact h, fun x hx => by
  obtain ⟨i, rfl⟩ := seg_mem hx
  exact fg_bd n i⟩
theorem h_number (ρ : En) (Q : RV → En → Prop) (h : S_number ρ Q) : t_number (endsV 1 Q) (ρ ++ List.replicate (2 - 1) .un) := by
  obtain ⟨q, s, p, rfl, n, P, h⟩ := h
  have l := per_len n P
  have hq := n.hi
  unfold t_number figD
  refine seq_gen fun k hk => ?_
  simp only [VL.wSeq, VL.wNext, VL.wNever, VL.wAsg, VL.wSet, VL.wVar, VL.wFrz, VL.wC, VL.wOp, VL.wTest, VL.wNotT, VL.wAndT, VL.wOrT, VL.wAnd, VL.wOr, VL.wNot, VL.wIf, VL.wNil, VL.wCons, VL.wTup, VL.wLst, VL.wStay, VL.wNew, VL.wPar, VL.wAug, VL.wDrop, VL.wRet, VL.wRetN, VL.wRet0, VL.wIfS, VL.wBrk, VL.wCnt, VL.wGt, VL.wGs, VL.wCB, VL.wCBN, VL.wCall, VL.wCallN, VL.wCallIo, VL.wCallIoN, VL.wCallK, VL.wIsi, VL.wIsi2, VL.wApp, VL.wExt, VL.wIns, VL.wSetIt, VL.wNoPart, VL.wPart, VL.wSl, VL.wSlN, VL.wChain, VL.wNeg, VL.wDnew, VL.wDput, VL.wDget, VL.wDin, VL.wDnin, VL.wIndex, VL.wRev, VL.wParNE, VL.wParEN, VL.wPar3, VL.wYes, VL.wSeqOf, VL.wRng1, VL.wRng2, VL.oI, VL.oI0, VL.oLt, VL.oLe, VL.oGt, VL.oGe, VL.oSub, VL.oMul, VL.oFdiv, VL.oMod, VL.oPow, VL.oShl', VL.oAbs, VL.oMax2, VL.oMin2, VL.oGcd, VL.atI_0, VL.atI_1, VL.atI_2, VL.ixN_20, VL.ixN_21, and_assoc, VL.shp_int, VL.shp_bool, VL.shp_none, VL.eqv_int, VL.eqv_bool, VL.isiD, VL.tyD, String.reduceBEq, Bool.not_true, Bool.not_false, Bool.and_true, Bool.and_false, Bool.true_and, Bool.false_and, Bool.or_true, Bool.or_false, Bool.true_or, Bool.false_or, decide_true, decide_false, Bool.not_eq_true', Bool.not_eq_eq_eq_not, decide_eq_true_eq, decide_eq_false_iff_not, VL.oInt1, VL.oInt2, VL.oLen, VL.oToInt, VL.oAdd, VL.oEq, VL.oNe, VL.oIsN, VL.oIn, VL.itemD, VL.isN, VL.der, VL.ders, VL.dats, VL.ioA, VL.endsV, VL.retE, VL.keepC, Option.map, List.range_succ, List.range_zero, List.map_cons, List.map_nil, List.map_append, List.nil_append, List.cons_append, List.append_nil, List.replicate_zero, List.replicate_succ, List.length_cons, List.length_nil, Nat.sub_self, List.getElem?_cons_zero, List.getElem?_cons_succ, List.set_cons_zero, List.set_cons_succ, Option.some.injEq, exists_eq_left', exists_eq_left, exists_eq_right, exists_and_left, exists_and_right, and_true, true_and, CV.d.injEq, CV.loc.injEq, Cell.lst.injEq, Cell.dat.injEq, Cell.dic.injEq, PyData.int.injEq, PyData.bool.injEq, PyData.list.injEq, PyData.tuple.injEq, PyData.str.injEq, reduceCtorEq, false_and, and_false, exists_false, false_or, or_false, if_true, if_false, reduceIte, Bool.false_eq_true, Nat.reduceAdd, Nat.reduceSub, Nat.succ_sub_succ, Nat.zero_add, VL.gP, List.filterMap_cons, List.filterMap_nil, List.cons.injEq, VL.wDisp0, VL.wDisp, VL.wPairs, VL.oLcm, VL.wPop, VL.wRevM, VL.wClearM, VL.wTupRg, VL.wListRg, VL.wR1, VL.wR2, VL.wRevN, VL.oRepT, VL.oRepL, S_is_figures]
  refine ⟨_, rfl, _, rfl, sg_fg n (by omega), sg_fg n (by omega), by rw [seg_len]; exact P.pos, ?_⟩
  rw [hk]
  clear hk k
  refine seq_gen fun k hk => ?_
  simp only [VL.wSeq, VL.wNext, VL.wNever, VL.wAsg, VL.wSet, VL.wVar, VL.wFrz, VL.wC, VL.wOp, VL.wTest, VL.wNotT, VL.wAndT, VL.wOrT, VL.wAnd, VL.wOr, VL.wNot, VL.wIf, VL.wNil, VL.wCons, VL.wTup, VL.wLst, VL.wStay, VL.wNew, VL.wPar, VL.wAug, VL.wDrop, VL.wRet, VL.wRetN, VL.wRet0, VL.wIfS, VL.wBrk, VL.wCnt, VL.wGt, VL.wGs, VL.wCB, VL.wCBN, VL.wCall, VL.wCallN, VL.wCallIo, VL.wCallIoN, VL.wCallK, VL.wIsi, VL.wIsi2, VL.wApp, VL.wExt, VL.wIns, VL.wSetIt, VL.wNoPart, VL.wPart, VL.wSl, VL.wSlN, VL.wChain, VL.wNeg, VL.wDnew, VL.wDput, VL.wDget, VL.wDin, VL.wDnin, VL.wIndex, VL.wRev, VL.wParNE, VL.wParEN, VL.wPar3, VL.wYes, VL.wSeqOf, VL.wRng1, VL.wRng2, VL.oI, VL.oI0, VL.oLt, VL.oLe, VL.oGt, VL.oGe, VL.oSub, VL.oMul, VL.oFdiv, VL.oMod, VL.oPow, VL.oShl', VL.oAbs, VL.oMax2, VL.oMin2, VL.oGcd, VL.atI_0, VL.atI_1, VL.atI_2, VL.ixN_20, VL.ixN_21, and_assoc, VL.shp_int, VL.shp_bool, VL.shp_none, VL.eqv_int, VL.eqv_bool, VL.isiD, VL.tyD, String.reduceBEq, Bool.not_true, Bool.not_false, Bool.and_true, Bool.and_false, Bool.true_and, Bool.false_and, Bool.or_true, Bool.or_false, Bool.true_or, Bool.false_or, decide_true, decide_false, Bool.not_eq_true', Bool.not_eq_eq_eq_not, decide_eq_true_eq, decide_eq_false_iff_not, VL.oInt1, VL.oInt2, VL.oLen, VL.oToInt, VL.oAdd, VL.oEq, VL.oNe, VL.oIsN, VL.oIn, VL.itemD, VL.isN, VL.der, VL.ders, VL.dats, VL.ioA, VL.endsV, VL.retE, VL.keepC, Option.map, List.range_succ, List.range_zero, List.map_cons, List.map_nil, List.map_append, List.nil_append, List.cons_append, List.append_nil, List.replicate_zero, List.replicate_succ, List.length_cons, List.length_nil, Nat.sub_self, List.getElem?_cons_zero, List.getElem?_cons_succ, List.set_cons_zero, List.set_cons_succ, Option.some.injEq, exists_eq_left', exists_eq_left, exists_eq_right, exists_and_left, exists_and_right, and_true, true_and, CV.d.injEq, CV.loc.injEq, Cell.lst.injEq, Cell.dat.injEq, Cell.dic.injEq, PyData.int.injEq, PyData.bool.injEq, PyData.list.injEq, PyData.tuple.injEq, PyData.str.injEq, reduceCtorEq, false_and, and_false, exists_false, false_or, or_false, if_true, if_false, reduceIte, Bool.false_eq_true, Nat.reduceAdd, Nat.reduceSub, Nat.succ_sub_succ, Nat.zero_add, VL.gP, List.filterMap_cons, List.filterMap_nil, List.cons.injEq, VL.wDisp0, VL.wDisp, VL.wPairs, VL.oLcm, VL.wPop, VL.wRevM, VL.wClearM, VL.wTupRg, VL.wListRg, VL.wR1, VL.wR2, VL.wRevN, VL.oRepT, VL.oRepL, S_sum_of_row]
  refine ⟨_, rfl, _, rfl, by rw [seg_len]; omega, by rw [seg_len]; omega, by rw [seg_len]; exact P.pos, fun x hx => ?_, fun x hx => ?_, ?_⟩
  · obtain ⟨i, rfl⟩ := seg_mem hx
    have := fg_bd n i
    omega
  · obtain ⟨i, rfl⟩ := seg_mem hx
    have := fg_bd n i
    omega
  rw [row_num P, hk]
  clear hk k
  refine seq_gen fun k hk => ?_
  simp only [VL.wSeq, VL.wNext, VL.wNever, VL.wAsg, VL.wSet, VL.wVar, VL.wFrz, VL.wC, VL.wOp, VL.wTest, VL.wNotT, VL.wAndT, VL.wOrT, VL.wAnd, VL.wOr, VL.wNot, VL.wIf, VL.wNil, VL.wCons, VL.wTup, VL.wLst, VL.wStay, VL.wNew, VL.wPar, VL.wAug, VL.wDrop, VL.wRet, VL.wRetN, VL.wRet0, VL.wIfS, VL.wBrk, VL.wCnt, VL.wGt, VL.wGs, VL.wCB, VL.wCBN, VL.wCall, VL.wCallN, VL.wCallIo, VL.wCallIoN, VL.wCallK, VL.wIsi, VL.wIsi2, VL.wApp, VL.wExt, VL.wIns, VL.wSetIt, VL.wNoPart, VL.wPart, VL.wSl, VL.wSlN, VL.wChain, VL.wNeg, VL.wDnew, VL.wDput, VL.wDget, VL.wDin, VL.wDnin, VL.wIndex, VL.wRev, VL.wParNE, VL.wParEN, VL.wPar3, VL.wYes, VL.wSeqOf, VL.wRng1, VL.wRng2, VL.oI, VL.oI0, VL.oLt, VL.oLe, VL.oGt, VL.oGe, VL.oSub, VL.oMul, VL.oFdiv, VL.oMod, VL.oPow, VL.oShl', VL.oAbs, VL.oMax2, VL.oMin2, VL.oGcd, VL.atI_0, VL.atI_1, VL.atI_2, VL.ixN_20, VL.ixN_21, and_assoc, VL.shp_int, VL.shp_bool, VL.shp_none, VL.eqv_int, VL.eqv_bool, VL.isiD, VL.tyD, String.reduceBEq, Bool.not_true, Bool.not_false, Bool.and_true, Bool.and_false, Bool.true_and, Bool.false_and, Bool.or_true, Bool.or_false, Bool.true_or, Bool.false_or, decide_true, decide_false, Bool.not_eq_true', Bool.not_eq_eq_eq_not, decide_eq_true_eq, decide_eq_false_iff_not, VL.oInt1, VL.oInt2, VL.oLen, VL.oToInt, VL.oAdd, VL.oEq, VL.oNe, VL.oIsN, VL.oIn, VL.itemD, VL.isN, VL.der, VL.ders, VL.dats, VL.ioA, VL.endsV, VL.retE, VL.keepC, Option.map, List.range_succ, List.range_zero, List.map_cons, List.map_nil, List.map_append, List.nil_append, List.cons_append, List.append_nil, List.replicate_zero, List.replicate_succ, List.length_cons, List.length_nil, Nat.sub_self, List.getElem?_cons_zero, List.getElem?_cons_succ, List.set_cons_zero, List.set_cons_succ, Option.some.injEq, exists_eq_left', exists_eq_left, exists_eq_right, exists_and_left, exists_and_right, and_true, true_and, CV.d.injEq, CV.loc.injEq, Cell.lst.injEq, Cell.dat.injEq, Cell.dic.injEq, PyData.int.injEq, PyData.bool.injEq, PyData.list.injEq, PyData.tuple.injEq, PyData.str.injEq, reduceCtorEq, false_and, and_false, exists_false, false_or, or_false, if_true, if_false, reduceIte, Bool.false_eq_true, Nat.reduceAdd, Nat.reduceSub, Nat.succ_sub_succ, Nat.zero_add, VL.gP, List.filterMap_cons, List.filterMap_nil, List.cons.injEq, VL.wDisp0, VL.wDisp, VL.wPairs, VL.oLcm, VL.wPop, VL.wRevM, VL.wClearM, VL.wTupRg, VL.wListRg, VL.wR1, VL.wR2, VL.wRevN, VL.oRepT, VL.oRepL]
  unfold rD
  try simp only [VL.wSeq, VL.wNext, VL.wNever, VL.wAsg, VL.wSet, VL.wVar, VL.wFrz, VL.wC, VL.wOp, VL.wTest, VL.wNotT, VL.wAndT, VL.wOrT, VL.wAnd, VL.wOr, VL.wNot, VL.wIf, VL.wNil, VL.wCons, VL.wTup, VL.wLst, VL.wStay, VL.wNew, VL.wPar, VL.wAug, VL.wDrop, VL.wRet, VL.wRetN, VL.wRet0, VL.wIfS, VL.wBrk, VL.wCnt, VL.wGt, VL.wGs, VL.wCB, VL.wCBN, VL.wCall, VL.wCallN, VL.wCallIo, VL.wCallIoN, VL.wCallK, VL.wIsi, VL.wIsi2, VL.wApp, VL.wExt, VL.wIns, VL.wSetIt, VL.wNoPart, VL.wPart, VL.wSl, VL.wSlN, VL.wChain, VL.wNeg, VL.wDnew, VL.wDput, VL.wDget, VL.wDin, VL.wDnin, VL.wIndex, VL.wRev, VL.wParNE, VL.wParEN, VL.wPar3, VL.wYes, VL.wSeqOf, VL.wRng1, VL.wRng2, VL.oI, VL.oI0, VL.oLt, VL.oLe, VL.oGt, VL.oGe, VL.oSub, VL.oMul, VL.oFdiv, VL.oMod, VL.oPow, VL.oShl', VL.oAbs, VL.oMax2, VL.oMin2, VL.oGcd, VL.atI_0, VL.atI_1, VL.atI_2, VL.ixN_20, VL.ixN_21, and_assoc, VL.shp_int, VL.shp_bool, VL.shp_none, VL.eqv_int, VL.eqv_bool, VL.isiD, VL.tyD, String.reduceBEq, Bool.not_true, Bool.not_false, Bool.and_true, Bool.and_false, Bool.true_and, Bool.false_and, Bool.or_true, Bool.or_false, Bool.true_or, Bool.false_or, decide_true, decide_false, Bool.not_eq_true', Bool.not_eq_eq_eq_not, decide_eq_true_eq, decide_eq_false_iff_not, VL.oInt1, VL.oInt2, VL.oLen, VL.oToInt, VL.oAdd, VL.oEq, VL.oNe, VL.oIsN, VL.oIn, VL.itemD, VL.isN, VL.der, VL.ders, VL.dats, VL.ioA, VL.endsV, VL.retE, VL.keepC, Option.map, List.range_succ, List.range_zero, List.map_cons, List.map_nil, List.map_append, List.nil_append, List.cons_append, List.append_nil, List.replicate_zero, List.replicate_succ, List.length_cons, List.length_nil, Nat.sub_self, List.getElem?_cons_zero, List.getElem?_cons_succ, List.set_cons_zero, List.set_cons_succ, Option.some.injEq, exists_eq_left', exists_eq_left, exists_eq_right, exists_and_left, exists_and_right, and_true, true_and, CV.d.injEq, CV.loc.injEq, Cell.lst.injEq, Cell.dat.injEq, Cell.dic.injEq, PyData.int.injEq, PyData.bool.injEq, PyData.list.injEq, PyData.tuple.injEq, PyData.str.injEq, reduceCtorEq, false_and, and_false, exists_false, false_or, or_false, if_true, if_false, reduceIte, Bool.false_eq_true, Nat.reduceAdd, Nat.reduceSub, Nat.succ_sub_succ, Nat.zero_add, VL.gP, List.filterMap_cons, List.filterMap_nil, List.cons.injEq, VL.wDisp0, VL.wDisp, VL.wPairs, VL.oLcm, VL.wPop, VL.wRevM, VL.wClearM, VL.wTupRg, VL.wListRg, VL.wR1, VL.wR2, VL.wRevN, VL.oRepT, VL.oRepL]
  have e := q_num1 hq
  rw [if_neg (by omega), hk]
  clear hk k
  simp only [VL.wSeq, VL.wNext, VL.wNever, VL.wAsg, VL.wSet, VL.wVar, VL.wFrz, VL.wC, VL.wOp, VL.wTest, VL.wNotT, VL.wAndT, VL.wOrT, VL.wAnd, VL.wOr, VL.wNot, VL.wIf, VL.wNil, VL.wCons, VL.wTup, VL.wLst, VL.wStay, VL.wNew, VL.wPar, VL.wAug, VL.wDrop, VL.wRet, VL.wRetN, VL.wRet0, VL.wIfS, VL.wBrk, VL.wCnt, VL.wGt, VL.wGs, VL.wCB, VL.wCBN, VL.wCall, VL.wCallN, VL.wCallIo, VL.wCallIoN, VL.wCallK, VL.wIsi, VL.wIsi2, VL.wApp, VL.wExt, VL.wIns, VL.wSetIt, VL.wNoPart, VL.wPart, VL.wSl, VL.wSlN, VL.wChain, VL.wNeg, VL.wDnew, VL.wDput, VL.wDget, VL.wDin, VL.wDnin, VL.wIndex, VL.wRev, VL.wParNE, VL.wParEN, VL.wPar3, VL.wYes, VL.wSeqOf, VL.wRng1, VL.wRng2, VL.oI, VL.oI0, VL.oLt, VL.oLe, VL.oGt, VL.oGe, VL.oSub, VL.oMul, VL.oFdiv, VL.oMod, VL.oPow, VL.oShl', VL.oAbs, VL.oMax2, VL.oMin2, VL.oGcd, VL.atI_0, VL.atI_1, VL.atI_2, VL.ixN_20, VL.ixN_21, and_assoc, VL.shp_int, VL.shp_bool, VL.shp_none, VL.eqv_int, VL.eqv_bool, VL.isiD, VL.tyD, String.reduceBEq, Bool.not_true, Bool.not_false, Bool.and_true, Bool.and_false, Bool.true_and, Bool.false_and, Bool.or_true, Bool.or_false, Bool.true_or, Bool.false_or, decide_true, decide_false, Bool.not_eq_true', Bool.not_eq_eq_eq_not, decide_eq_true_eq, decide_eq_false_iff_not, VL.oInt1, VL.oInt2, VL.oLen, VL.oToInt, VL.oAdd, VL.oEq, VL.oNe, VL.oIsN, VL.oIn, VL.itemD, VL.isN, VL.der, VL.ders, VL.dats, VL.ioA, VL.endsV, VL.retE, VL.keepC, Option.map, List.range_succ, List.range_zero, List.map_cons, List.map_nil, List.map_append, List.nil_append, List.cons_append, List.append_nil, List.replicate_zero, List.replicate_succ, List.length_cons, List.length_nil, Nat.sub_self, List.getElem?_cons_zero, List.getElem?_cons_succ, List.set_cons_zero, List.set_cons_succ, Option.some.injEq, exists_eq_left', exists_eq_left, exists_eq_right, exists_and_left, exists_and_right, and_true, true_and, CV.d.injEq, CV.loc.injEq, Cell.lst.injEq, Cell.dat.injEq, Cell.dic.injEq, PyData.int.injEq, PyData.bool.injEq, PyData.list.injEq, PyData.tuple.injEq, PyData.str.injEq, reduceCtorEq, false_and, and_false, exists_false, false_or, or_false, if_true, if_false, reduceIte, Bool.false_eq_true, Nat.reduceAdd, Nat.reduceSub, Nat.succ_sub_succ, Nat.zero_add, VL.gP, List.filterMap_cons, List.filterMap_nil, List.cons.injEq, VL.wDisp0, VL.wDisp, VL.wPairs, VL.oLcm, VL.wPop, VL.wRevM, VL.wClearM, VL.wTupRg, VL.wListRg, VL.wR1, VL.wR2, VL.wRevN, VL.oRepT, VL.oRepL]
  exact h
theorem h__law_sequence (ρ : En) (Q : RV → En → Prop) (h : S__law_sequence ρ Q) : t__law_sequence (endsV 2 Q) (ρ ++ List.replicate (7 - 2) .un) := by
  obtain ⟨q, m, rfl, n, m1, m2, h⟩ := h
  have hp := den_pos q
  have hd := n.den
  have ns := num_small n
  unfold t__law_sequence
  refine seq_gen fun k hk => ?_
  simp only [VL.wSeq, VL.wNext, VL.wNever, VL.wAsg, VL.wSet, VL.wVar, VL.wFrz, VL.wC, VL.wOp, VL.wTest, VL.wNotT, VL.wAndT, VL.wOrT, VL.wAnd, VL.wOr, VL.wNot, VL.wIf, VL.wNil, VL.wCons, VL.wTup, VL.wLst, VL.wStay, VL.wNew, VL.wPar, VL.wAug, VL.wDrop, VL.wRet, VL.wRetN, VL.wRet0, VL.wIfS, VL.wBrk, VL.wCnt, VL.wGt, VL.wGs, VL.wCB, VL.wCBN, VL.wCall, VL.wCallN, VL.wCallIo, VL.wCallIoN, VL.wCallK, VL.wIsi, VL.wIsi2, VL.wApp, VL.wExt, VL.wIns, VL.wSetIt, VL.wNoPart, VL.wPart, VL.wSl, VL.wSlN, VL.wChain, VL.wNeg, VL.wDnew, VL.wDput, VL.wDget, VL.wDin, VL.wDnin, VL.wIndex, VL.wRev, VL.wParNE, VL.wParEN, VL.wPar3, VL.wYes, VL.wSeqOf, VL.wRng1, VL.wRng2, VL.oI, VL.oI0, VL.oLt, VL.oLe, VL.oGt, VL.oGe, VL.oSub, VL.oMul, VL.oFdiv, VL.oMod, VL.oPow, VL.oShl', VL.oAbs, VL.oMax2, VL.oMin2, VL.oGcd, VL.atI_0, VL.atI_1, VL.atI_2, VL.ixN_20, VL.ixN_21, and_assoc, VL.shp_int, VL.shp_bool, VL.shp_none, VL.eqv_int, VL.eqv_bool, VL.isiD, VL.tyD, String.reduceBEq, Bool.not_true, Bool.not_false, Bool.and_true, Bool.and_false, Bool.true_and, Bool.false_and, Bool.or_true, Bool.or_false, Bool.true_or, Bool.false_or, decide_true, decide_false, Bool.not_eq_true', Bool.not_eq_eq_eq_not, decide_eq_true_eq, decide_eq_false_iff_not, VL.oInt1, VL.oInt2, VL.oLen, VL.oToInt, VL.oAdd, VL.oEq, VL.oNe, VL.oIsN, VL.oIn, VL.itemD, VL.isN, VL.der, VL.ders, VL.dats, VL.ioA, VL.endsV, VL.retE, VL.keepC, Option.map, List.range_succ, List.range_zero, List.map_cons, List.map_nil, List.map_append, List.nil_append, List.cons_append, List.append_nil, List.replicate_zero, List.replicate_succ, List.length_cons, List.length_nil, Nat.sub_self, List.getElem?_cons_zero, List.getElem?_cons_succ, List.set_cons_zero, List.set_cons_succ, Option.some.injEq, exists_eq_left', exists_eq_left, exists_eq_right, exists_and_left, exists_and_right, and_true, true_and, CV.d.injEq, CV.loc.injEq, Cell.lst.injEq, Cell.dat.injEq, Cell.dic.injEq, PyData.int.injEq, PyData.bool.injEq, PyData.list.injEq, PyData.tuple.injEq, PyData.str.injEq, reduceCtorEq, false_and, and_false, exists_false, false_or, or_false, if_true, if_false, reduceIte, Bool.false_eq_true, Nat.reduceAdd, Nat.reduceSub, Nat.succ_sub_succ, Nat.zero_add, VL.gP, List.filterMap_cons, List.filterMap_nil, List.cons.injEq, VL.wDisp0, VL.wDisp, VL.wPairs, VL.oLcm, VL.wPop, VL.wRevM, VL.wClearM, VL.wTupRg, VL.wListRg, VL.wR1, VL.wR2, VL.wRevN, VL.oRepT, VL.oRepL]
  unfold rD
  try simp only [VL.wSeq, VL.wNext, VL.wNever, VL.wAsg, VL.wSet, VL.wVar, VL.wFrz, VL.wC, VL.wOp, VL.wTest, VL.wNotT, VL.wAndT, VL.wOrT, VL.wAnd, VL.wOr, VL.wNot, VL.wIf, VL.wNil, VL.wCons, VL.wTup, VL.wLst, VL.wStay, VL.wNew, VL.wPar, VL.wAug, VL.wDrop, VL.wRet, VL.wRetN, VL.wRet0, VL.wIfS, VL.wBrk, VL.wCnt, VL.wGt, VL.wGs, VL.wCB, VL.wCBN, VL.wCall, VL.wCallN, VL.wCallIo, VL.wCallIoN, VL.wCallK, VL.wIsi, VL.wIsi2, VL.wApp, VL.wExt, VL.wIns, VL.wSetIt, VL.wNoPart, VL.wPart, VL.wSl, VL.wSlN, VL.wChain, VL.wNeg, VL.wDnew, VL.wDput, VL.wDget, VL.wDin, VL.wDnin, VL.wIndex, VL.wRev, VL.wParNE, VL.wParEN, VL.wPar3, VL.wYes, VL.wSeqOf, VL.wRng1, VL.wRng2, VL.oI, VL.oI0, VL.oLt, VL.oLe, VL.oGt, VL.oGe, VL.oSub, VL.oMul, VL.oFdiv, VL.oMod, VL.oPow, VL.oShl', VL.oAbs, VL.oMax2, VL.oMin2, VL.oGcd, VL.atI_0, VL.atI_1, VL.atI_2, VL.ixN_20, VL.ixN_21, and_assoc, VL.shp_int, VL.shp_bool, VL.shp_none, VL.eqv_int, VL.eqv_bool, VL.isiD, VL.tyD, String.reduceBEq, Bool.not_true, Bool.not_false, Bool.and_true, Bool.and_false, Bool.true_and, Bool.false_and, Bool.or_true, Bool.or_false, Bool.true_or, Bool.false_or, decide_true, decide_false, Bool.not_eq_true', Bool.not_eq_eq_eq_not, decide_eq_true_eq, decide_eq_false_iff_not, VL.oInt1, VL.oInt2, VL.oLen, VL.oToInt, VL.oAdd, VL.oEq, VL.oNe, VL.oIsN, VL.oIn, VL.itemD, VL.isN, VL.der, VL.ders, VL.dats, VL.ioA, VL.endsV, VL.retE, VL.keepC, Option.map, List.range_succ, List.range_zero, List.map_cons, List.map_nil, List.map_append, List.nil_append, List.cons_append, List.append_nil, List.replicate_zero, List.replicate_succ, List.length_cons, List.length_nil, Nat.sub_self, List.getElem?_cons_zero, List.getElem?_cons_succ, List.set_cons_zero, List.set_cons_succ, Option.some.injEq, exists_eq_left', exists_eq_left, exists_eq_right, exists_and_left, exists_and_right, and_true, true_and, CV.d.injEq, CV.loc.injEq, Cell.lst.injEq, Cell.dat.injEq, Cell.dic.injEq, PyData.int.injEq, PyData.bool.injEq, PyData.list.injEq, PyData.tuple.injEq, PyData.str.injEq, reduceCtorEq, false_and, and_false, exists_false, false_or, or_false, if_true, if_false, reduceIte, Bool.false_eq_true, Nat.reduceAdd, Nat.reduceSub, Nat.succ_sub_succ, Nat.zero_add, VL.gP, List.filterMap_cons, List.filterMap_nil, List.cons.injEq, VL.wDisp0, VL.wDisp, VL.wPairs, VL.oLcm, VL.wPop, VL.wRevM, VL.wClearM, VL.wTupRg, VL.wListRg, VL.wR1, VL.wR2, VL.wRevN, VL.oRepT, VL.oRepL]
  rw [hk]
  clear hk k
  refine seq_gen fun k hk => ?_
  simp only [VL.wSeq, VL.wNext, VL.wNever, VL.wAsg, VL.wSet, VL.wVar, VL.wFrz, VL.wC, VL.wOp, VL.wTest, VL.wNotT, VL.wAndT, VL.wOrT, VL.wAnd, VL.wOr, VL.wNot, VL.wIf, VL.wNil, VL.wCons, VL.wTup, VL.wLst, VL.wStay, VL.wNew, VL.wPar, VL.wAug, VL.wDrop, VL.wRet, VL.wRetN, VL.wRet0, VL.wIfS, VL.wBrk, VL.wCnt, VL.wGt, VL.wGs, VL.wCB, VL.wCBN, VL.wCall, VL.wCallN, VL.wCallIo, VL.wCallIoN, VL.wCallK, VL.wIsi, VL.wIsi2, VL.wApp, VL.wExt, VL.wIns, VL.wSetIt, VL.wNoPart, VL.wPart, VL.wSl, VL.wSlN, VL.wChain, VL.wNeg, VL.wDnew, VL.wDput, VL.wDget, VL.wDin, VL.wDnin, VL.wIndex, VL.wRev, VL.wParNE, VL.wParEN, VL.wPar3, VL.wYes, VL.wSeqOf, VL.wRng1, VL.wRng2, VL.oI, VL.oI0, VL.oLt, VL.oLe, VL.oGt, VL.oGe, VL.oSub, VL.oMul, VL.oFdiv, VL.oMod, VL.oPow, VL.oShl', VL.oAbs, VL.oMax2, VL.oMin2, VL.oGcd, VL.atI_0, VL.atI_1, VL.atI_2, VL.ixN_20, VL.ixN_21, and_assoc, VL.shp_int, VL.shp_bool, VL.shp_none, VL.eqv_int, VL.eqv_bool, VL.isiD, VL.tyD, String.reduceBEq, Bool.not_true, Bool.not_false, Bool.and_true, Bool.and_false, Bool.true_and, Bool.false_and, Bool.or_true, Bool.or_false, Bool.true_or, Bool.false_or, decide_true, decide_false, Bool.not_eq_true', Bool.not_eq_eq_eq_not, decide_eq_true_eq, decide_eq_false_iff_not, VL.oInt1, VL.oInt2, VL.oLen, VL.oToInt, VL.oAdd, VL.oEq, VL.oNe, VL.oIsN, VL.oIn, VL.itemD, VL.isN, VL.der, VL.ders, VL.dats, VL.ioA, VL.endsV, VL.retE, VL.keepC, Option.map, List.range_succ, List.range_zero, List.map_cons, List.map_nil, List.map_append, List.nil_append, List.cons_append, List.append_nil, List.replicate_zero, List.replicate_succ, List.length_cons, List.length_nil, Nat.sub_self, List.getElem?_cons_zero, List.getElem?_cons_succ, List.set_cons_zero, List.set_cons_succ, Option.some.injEq, exists_eq_left', exists_eq_left, exists_eq_right, exists_and_left, exists_and_right, and_true, true_and, CV.d.injEq, CV.loc.injEq, Cell.lst.injEq, Cell.dat.injEq, Cell.dic.injEq, PyData.int.injEq, PyData.bool.injEq, PyData.list.injEq, PyData.tuple.injEq, PyData.str.injEq, reduceCtorEq, false_and, and_false, exists_false, false_or, or_false, if_true, if_false, reduceIte, Bool.false_eq_true, Nat.reduceAdd, Nat.reduceSub, Nat.succ_sub_succ, Nat.zero_add, VL.gP, List.filterMap_cons, List.filterMap_nil, List.cons.injEq, VL.wDisp0, VL.wDisp, VL.wPairs, VL.oLcm, VL.wPop, VL.wRevM, VL.wClearM, VL.wTupRg, VL.wListRg, VL.wR1, VL.wR2, VL.wRevN, VL.oRepT, VL.oRepL]
  refine ⟨cdv_num n _, by decide, by decide, ?_⟩
  rw [hk]
  clear hk k
  refine seq_gen fun k hk => ?_
  simp only [VL.wSeq, VL.wNext, VL.wNever, VL.wAsg, VL.wSet, VL.wVar, VL.wFrz, VL.wC, VL.wOp, VL.wTest, VL.wNotT, VL.wAndT, VL.wOrT, VL.wAnd, VL.wOr, VL.wNot, VL.wIf, VL.wNil, VL.wCons, VL.wTup, VL.wLst, VL.wStay, VL.wNew, VL.wPar, VL.wAug, VL.wDrop, VL.wRet, VL.wRetN, VL.wRet0, VL.wIfS, VL.wBrk, VL.wCnt, VL.wGt, VL.wGs, VL.wCB, VL.wCBN, VL.wCall, VL.wCallN, VL.wCallIo, VL.wCallIoN, VL.wCallK, VL.wIsi, VL.wIsi2, VL.wApp, VL.wExt, VL.wIns, VL.wSetIt, VL.wNoPart, VL.wPart, VL.wSl, VL.wSlN, VL.wChain, VL.wNeg, VL.wDnew, VL.wDput, VL.wDget, VL.wDin, VL.wDnin, VL.wIndex, VL.wRev, VL.wParNE, VL.wParEN, VL.wPar3, VL.wYes, VL.wSeqOf, VL.wRng1, VL.wRng2, VL.oI, VL.oI0, VL.oLt, VL.oLe, VL.oGt, VL.oGe, VL.oSub, VL.oMul, VL.oFdiv, VL.oMod, VL.oPow, VL.oShl', VL.oAbs, VL.oMax2, VL.oMin2, VL.oGcd, VL.atI_0, VL.atI_1, VL.atI_2, VL.ixN_20, VL.ixN_21, and_assoc, VL.shp_int, VL.shp_bool, VL.shp_none, VL.eqv_int, VL.eqv_bool, VL.isiD, VL.tyD, String.reduceBEq, Bool.not_true, Bool.not_false, Bool.and_true, Bool.and_false, Bool.true_and, Bool.false_and, Bool.or_true, Bool.or_false, Bool.true_or, Bool.false_or, decide_true, decide_false, Bool.not_eq_true', Bool.not_eq_eq_eq_not, decide_eq_true_eq, decide_eq_false_iff_not, VL.oInt1, VL.oInt2, VL.oLen, VL.oToInt, VL.oAdd, VL.oEq, VL.oNe, VL.oIsN, VL.oIn, VL.itemD, VL.isN, VL.der, VL.ders, VL.dats, VL.ioA, VL.endsV, VL.retE, VL.keepC, Option.map, List.range_succ, List.range_zero, List.map_cons, List.map_nil, List.map_append, List.nil_append, List.cons_append, List.append_nil, List.replicate_zero, List.replicate_succ, List.length_cons, List.length_nil, Nat.sub_self, List.getElem?_cons_zero, List.getElem?_cons_succ, List.set_cons_zero, List.set_cons_succ, Option.some.injEq, exists_eq_left', exists_eq_left, exists_eq_right, exists_and_left, exists_and_right, and_true, true_and, CV.d.injEq, CV.loc.injEq, Cell.lst.injEq, Cell.dat.injEq, Cell.dic.injEq, PyData.int.injEq, PyData.bool.injEq, PyData.list.injEq, PyData.tuple.injEq, PyData.str.injEq, reduceCtorEq, false_and, and_false, exists_false, false_or, or_false, if_true, if_false, reduceIte, Bool.false_eq_true, Nat.reduceAdd, Nat.reduceSub, Nat.succ_sub_succ, Nat.zero_add, VL.gP, List.filterMap_cons, List.filterMap_nil, List.cons.injEq, VL.wDisp0, VL.wDisp, VL.wPairs, VL.oLcm, VL.wPop, VL.wRevM, VL.wClearM, VL.wTupRg, VL.wListRg, VL.wR1, VL.wR2, VL.wRevN, VL.oRepT, VL.oRepL]
  refine ⟨by omega, ?_⟩
  rw [hk]
  clear hk k
  refine seq_gen fun k hk => ?_
  rw [show [PyData.int (q.num.fdiv q.den)] = (seg (fg q.num q.den) 1 0).map PyData.int from rfl]
  unfold wFor
  simp only [VL.wSeq, VL.wNext, VL.wNever, VL.wAsg, VL.wSet, VL.wVar, VL.wFrz, VL.wC, VL.wOp, VL.wTest, VL.wNotT, VL.wAndT, VL.wOrT, VL.wAnd, VL.wOr, VL.wNot, VL.wIf, VL.wNil, VL.wCons, VL.wTup, VL.wLst, VL.wStay, VL.wNew, VL.wPar, VL.wAug, VL.wDrop, VL.wRet, VL.wRetN, VL.wRet0, VL.wIfS, VL.wBrk, VL.wCnt, VL.wGt, VL.wGs, VL.wCB, VL.wCBN, VL.wCall, VL.wCallN, VL.wCallIo, VL.wCallIoN, VL.wCallK, VL.wIsi, VL.wIsi2, VL.wApp, VL.wExt, VL.wIns, VL.wSetIt, VL.wNoPart, VL.wPart, VL.wSl, VL.wSlN, VL.wChain, VL.wNeg, VL.wDnew, VL.wDput, VL.wDget, VL.wDin, VL.wDnin, VL.wIndex, VL.wRev, VL.wParNE, VL.wParEN, VL.wPar3, VL.wYes, VL.wSeqOf, VL.wRng1, VL.wRng2, VL.oI, VL.oI0, VL.oLt, VL.oLe, VL.oGt, VL.oGe, VL.oSub, VL.oMul, VL.oFdiv, VL.oMod, VL.oPow, VL.oShl', VL.oAbs, VL.oMax2, VL.oMin2, VL.oGcd, VL.atI_0, VL.atI_1, VL.atI_2, VL.ixN_20, VL.ixN_21, and_assoc, VL.shp_int, VL.shp_bool, VL.shp_none, VL.eqv_int, VL.eqv_bool, VL.isiD, VL.tyD, String.reduceBEq, Bool.not_true, Bool.not_false, Bool.and_true, Bool.and_false, Bool.true_and, Bool.false_and, Bool.or_true, Bool.or_false, Bool.true_or, Bool.false_or, decide_true, decide_false, Bool.not_eq_true', Bool.not_eq_eq_eq_not, decide_eq_true_eq, decide_eq_false_iff_not, VL.oInt1, VL.oInt2, VL.oLen, VL.oToInt, VL.oAdd, VL.oEq, VL.oNe, VL.oIsN, VL.oIn, VL.itemD, VL.isN, VL.der, VL.ders, VL.dats, VL.ioA, VL.endsV, VL.retE, VL.keepC, Option.map, List.range_succ, List.range_zero, List.map_cons, List.map_nil, List.map_append, List.nil_append, List.cons_append, List.append_nil, List.replicate_zero, List.replicate_succ, List.length_cons, List.length_nil, Nat.sub_self, List.getElem?_cons_zero, List.getElem?_cons_succ, List.set_cons_zero, List.set_cons_succ, Option.some.injEq, exists_eq_left', exists_eq_left, exists_eq_right, exists_and_left, exists_and_right, and_true, true_and, CV.d.injEq, CV.loc.injEq, Cell.lst.injEq, Cell.dat.injEq, Cell.dic.injEq, PyData.int.injEq, PyData.bool.injEq, PyData.list.injEq, PyData.tuple.injEq, PyData.str.injEq, reduceCtorEq, false_and, and_false, exists_false, false_or, or_false, if_true, if_false, reduceIte, Bool.false_eq_true, Nat.reduceAdd, Nat.reduceSub, Nat.succ_sub_succ, Nat.zero_add, VL.gP, List.filterMap_cons, List.filterMap_nil, List.cons.injEq, VL.wDisp0, VL.wDisp, VL.wPairs, VL.oLcm, VL.wPop, VL.wRevM, VL.wClearM, VL.wTupRg, VL.wListRg, VL.wR1, VL.wR2, VL.wRevN, VL.oRepT, VL.oRepL]
  rw [show (m : Int) - 1 = ((m - 1 : Nat) : Int) by omega]
  refine ⟨⟨by omega, by omega⟩, fun i ρ => ∃ c, ρ = [.dat (rD q), .dat (.int m), .lst false ((seg (fg q.num q.den) (i + 1) 0).map .int), .dat (.int (rs q.num q.den i)), c, .dat (.int q.num), .dat (.int q.den)], ⟨_, rfl⟩, ?_, ?_⟩
  · rintro i ρ d ⟨c, rfl⟩ hx
    obtain ⟨rfl, hi⟩ := rng_at hx
    simp only [VL.wSeq, VL.wNext, VL.wNever, VL.wAsg, VL.wSet, VL.wVar, VL.wFrz, VL.wC, VL.wOp, VL.wTest, VL.wNotT, VL.wAndT, VL.wOrT, VL.wAnd, VL.wOr, VL.wNot, VL.wIf, VL.wNil, VL.wCons, VL.wTup, VL.wLst, VL.wStay, VL.wNew, VL.wPar, VL.wAug, VL.wDrop, VL.wRet, VL.wRetN, VL.wRet0, VL.wIfS, VL.wBrk, VL.wCnt, VL.wGt, VL.wGs, VL.wCB, VL.wCBN, VL.wCall, VL.wCallN, VL.wCallIo, VL.wCallIoN, VL.wCallK, VL.wIsi, VL.wIsi2, VL.wApp, VL.wExt, VL.wIns, VL.wSetIt, VL.wNoPart, VL.wPart, VL.wSl, VL.wSlN, VL.wChain, VL.wNeg, VL.wDnew, VL.wDput, VL.wDget, VL.wDin, VL.wDnin, VL.wIndex, VL.wRev, VL.wParNE, VL.wParEN, VL.wPar3, VL.wYes, VL.wSeqOf, VL.wRng1, VL.wRng2, VL.oI, VL.oI0, VL.oLt, VL.oLe, VL.oGt, VL.oGe, VL.oSub, VL.oMul, VL.oFdiv, VL.oMod, VL.oPow, VL.oShl', VL.oAbs, VL.oMax2, VL.oMin2, VL.oGcd, VL.atI_0, VL.atI_1, VL.atI_2, VL.ixN_20, VL.ixN_21, and_assoc, VL.shp_int, VL.shp_bool, VL.shp_none, VL.eqv_int, VL.eqv_bool, VL.isiD, VL.tyD, String.reduceBEq, Bool.not_true, Bool.not_false, Bool.and_true, Bool.and_false, Bool.true_and, Bool.false_and, Bool.or_true, Bool.or_false, Bool.true_or, Bool.false_or, decide_true, decide_false, Bool.not_eq_true', Bool.not_eq_eq_eq_not, decide_eq_true_eq, decide_eq_false_iff_not, VL.oInt1, VL.oInt2, VL.oLen, VL.oToInt, VL.oAdd, VL.oEq, VL.oNe, VL.oIsN, VL.oIn, VL.itemD, VL.isN, VL.der, VL.ders, VL.dats, VL.ioA, VL.endsV, VL.retE, VL.keepC, Option.map, List.range_succ, List.range_zero, List.map_cons, List.map_nil, List.map_append, List.nil_append, List.cons_append, List.append_nil, List.replicate_zero, List.replicate_succ, List.length_cons, List.length_nil, Nat.sub_self, List.getElem?_cons_zero, List.getElem?_cons_succ, List.set_cons_zero, List.set_cons_succ, Option.some.injEq, exists_eq_left', exists_eq_left, exists_eq_right, exists_and_left, exists_and_right, and_true, true_and, CV.d.injEq, CV.loc.injEq, Cell.lst.injEq, Cell.dat.injEq, Cell.dic.injEq, PyData.int.injEq, PyData.bool.injEq, PyData.list.injEq, PyData.tuple.injEq, PyData.str.injEq, reduceCtorEq, false_and, and_false, exists_false, false_or, or_false, if_true, if_false, reduceIte, Bool.false_eq_true, Nat.reduceAdd, Nat.reduceSub, Nat.succ_sub_succ, Nat.zero_add, VL.gP, List.filterMap_cons, List.filterMap_nil, List.cons.injEq, VL.wDisp0, VL.wDisp, VL.wPairs, VL.oLcm, VL.wPop, VL.wRevM, VL.wClearM, VL.wTupRg, VL.wListRg, VL.wR1, VL.wR2, VL.wRevN, VL.oRepT, VL.oRepL]
    refine ⟨.inl (.inl ⟨by decide, by decide⟩), by simp, cdv_num n _, ?_, by omega, ?_, rfl, _, rfl⟩
    · rw [List.length_map, seg_len]
      exact small_size (by omega)
    · rw [show (2 * rs q.num q.den i).fdiv q.den = fg q.num q.den (i + 1) by unfold fg; rw [tp_succ]]
      exact map_seg _ _
  · rintro ρ ⟨c, rfl⟩
    rw [rng_len, show m - 1 + 1 = m by omega, hk]
    simp only [VL.wSeq, VL.wNext, VL.wNever, VL.wAsg, VL.wSet, VL.wVar, VL.wFrz, VL.wC, VL.wOp, VL.wTest, VL.wNotT, VL.wAndT, VL.wOrT, VL.wAnd, VL.wOr, VL.wNot, VL.wIf, VL.wNil, VL.wCons, VL.wTup, VL.wLst, VL.wStay, VL.wNew, VL.wPar, VL.wAug, VL.wDrop, VL.wRet, VL.wRetN, VL.wRet0, VL.wIfS, VL.wBrk, VL.wCnt, VL.wGt, VL.wGs, VL.wCB, VL.wCBN, VL.wCall, VL.wCallN, VL.wCallIo, VL.wCallIoN, VL.wCallK, VL.wIsi, VL.wIsi2, VL.wApp, VL.wExt, VL.wIns, VL.wSetIt, VL.wNoPart, VL.wPart, VL.wSl, VL.wSlN, VL.wChain, VL.wNeg, VL.wDnew, VL.wDput, VL.wDget, VL.wDin, VL.wDnin, VL.wIndex, VL.wRev, VL.wParNE, VL.wParEN, VL.wPar3, VL.wYes, VL.wSeqOf, VL.wRng1, VL.wRng2, VL.oI, VL.oI0, VL.oLt, VL.oLe, VL.oGt, VL.oGe, VL.oSub, VL.oMul, VL.oFdiv, VL.oMod, VL.oPow, VL.oShl', VL.oAbs, VL.oMax2, VL.oMin2, VL.oGcd, VL.atI_0, VL.atI_1, VL.atI_2, VL.ixN_20, VL.ixN_21, and_assoc, VL.shp_int, VL.shp_bool, VL.shp_none, VL.eqv_int, VL.eqv_bool, VL.isiD, VL.tyD, String.reduceBEq, Bool.not_true, Bool.not_false, Bool.and_true, Bool.and_false, Bool.true_and, Bool.false_and, Bool.or_true, Bool.or_false, Bool.true_or, Bool.false_or, decide_true, decide_false, Bool.not_eq_true', Bool.not_eq_eq_eq_not, decide_eq_true_eq, decide_eq_false_iff_not, VL.oInt1, VL.oInt2, VL.oLen, VL.oToInt, VL.oAdd, VL.oEq, VL.oNe, VL.oIsN, VL.oIn, VL.itemD, VL.isN, VL.der, VL.ders, VL.dats, VL.ioA, VL.endsV, VL.retE, VL.keepC, Option.map, List.range_succ, List.range_zero, List.map_cons, List.map_nil, List.map_append, List.nil_append, List.cons_append, List.append_nil, List.replicate_zero, List.replicate_succ, List.length_cons, List.length_nil, Nat.sub_self, List.getElem?_cons_zero, List.getElem?_cons_succ, List.set_cons_zero, List.set_cons_succ, Option.some.injEq, exists_eq_left', exists_eq_left, exists_eq_right, exists_and_left, exists_and_right, and_true, true_and, CV.d.injEq, CV.loc.injEq, Cell.lst.injEq, Cell.dat.injEq, Cell.dic.injEq, PyData.int.injEq, PyData.bool.injEq, PyData.list.injEq, PyData.tuple.injEq, PyData.str.injEq, reduceCtorEq, false_and, and_false, exists_false, false_or, or_false, if_true, if_false, reduceIte, Bool.false_eq_true, Nat.reduceAdd, Nat.reduceSub, Nat.succ_sub_succ, Nat.zero_add, VL.gP, List.filterMap_cons, List.filterMap_nil, List.cons.injEq, VL.wDisp0, VL.wDisp, VL.wPairs, VL.oLcm, VL.wPop, VL.wRevM, VL.wClearM, VL.wTupRg, VL.wListRg, VL.wR1, VL.wR2, VL.wRevN, VL.oRepT, VL.oRepL]
    exact h
end K03

end

/-! #### K03C -/
section
set_option autoImplicit false
set_option maxRecDepth 100000
set_option maxHeartbeats 4000000
set_option exponentiation.threshold 5000
namespace K03
open PySem PySem.Spec PyProof.Rows L2 VL
theorem h__law_rounds (ρ : En) (Q : RV → En → Prop) (h : S__law_rounds ρ Q) : t__law_rounds (endsV 1 Q) (ρ ++ List.replicate (6 - 1) .un) := by
  obtain ⟨q, rfl, n, h⟩ := h
  have ns := num_small n
  have hp := den_pos q
  have hd := n.den
  unfold t__law_rounds
  refine seq_gen fun k hk => ?_
  simp only [VL.wSeq, VL.wNext, VL.wNever, VL.wAsg, VL.wSet, VL.wVar, VL.wFrz, VL.wC, VL.wOp, VL.wTest, VL.wNotT, VL.wAndT, VL.wOrT, VL.wAnd, VL.wOr, VL.wNot, VL.wIf, VL.wNil, VL.wCons, VL.wTup, VL.wLst, VL.wStay, VL.wNew, VL.wPar, VL.wAug, VL.wDrop, VL.wRet, VL.wRetN, VL.wRet0, VL.wIfS, VL.wBrk, VL.wCnt, VL.wGt, VL.wGs, VL.wCB, VL.wCBN, VL.wCall, VL.wCallN, VL.wCallIo, VL.wCallIoN, VL.wCallK, VL.wIsi, VL.wIsi2, VL.wApp, VL.wExt, VL.wIns, VL.wSetIt, VL.wNoPart, VL.wPart, VL.wSl, VL.wSlN, VL.wChain, VL.wNeg, VL.wDnew, VL.wDput, VL.wDget, VL.wDin, VL.wDnin, VL.wIndex, VL.wRev, VL.wParNE, VL.wParEN, VL.wPar3, VL.wYes, VL.wSeqOf, VL.wRng1, VL.wRng2, VL.oI, VL.oI0, VL.oLt, VL.oLe, VL.oGt, VL.oGe, VL.oSub, VL.oMul, VL.oFdiv, VL.oMod, VL.oPow, VL.oShl', VL.oAbs, VL.oMax2, VL.oMin2, VL.oGcd, VL.atI_0, VL.atI_1, VL.atI_2, VL.ixN_20, VL.ixN_21, and_assoc, VL.shp_int, VL.shp_bool, VL.shp_none, VL.eqv_int, VL.eqv_bool, VL.isiD, VL.tyD, String.reduceBEq, Bool.not_true, Bool.not_false, Bool.and_true, Bool.and_false, Bool.true_and, Bool.false_and, Bool.or_true, Bool.or_false, Bool.true_or, Bool.false_or, decide_true, decide_false, Bool.not_eq_true', Bool.not_eq_eq_eq_not, decide_eq_true_eq, decide_eq_false_iff_not, VL.oInt1, VL.oInt2, VL.oLen, VL.oToInt, VL.oAdd, VL.oEq, VL.oNe, VL.oIsN, VL.oIn, VL.itemD, VL.isN, VL.der, VL.ders, VL.dats, VL.ioA, VL.endsV, VL.retE, VL.keepC, Option.map, List.range_succ, List.range_zero, List.map_cons, List.map_nil, List.map_append, List.nil_append, List.cons_append, List.append_nil, List.replicate_zero, List.replicate_succ, List.length_cons, List.length_nil, Nat.sub_self, List.getElem?_cons_zero, List.getElem?_cons_succ, List.set_cons_zero, List.set_cons_succ, Option.some.injEq, exists_eq_left', exists_eq_left, exists_eq_right, exists_and_left, exists_and_right, and_true, true_and, CV.d.injEq, CV.loc.injEq, Cell.lst.injEq, Cell.dat.injEq, Cell.dic.injEq, PyData.int.injEq, PyData.bool.injEq, PyData.list.injEq, PyData.tuple.injEq, PyData.str.injEq, reduceCtorEq, false_and, and_false, exists_false, false_or, or_false, if_true, if_false, reduceIte, Bool.false_eq_true, Nat.reduceAdd, Nat.reduceSub, Nat.succ_sub_succ, Nat.zero_add, VL.gP, List.filterMap_cons, List.filterMap_nil, List.cons.injEq, VL.wDisp0, VL.wDisp, VL.wPairs, VL.oLcm, VL.wPop, VL.wRevM, VL.wClearM, VL.wTupRg, VL.wListRg, VL.wR1, VL.wR2, VL.wRevN, VL.oRepT, VL.oRepL]
  unfold rD
  try simp only [VL.wSeq, VL.wNext, VL.wNever, VL.wAsg, VL.wSet, VL.wVar, VL.wFrz, VL.wC, VL.wOp, VL.wTest, VL.wNotT, VL.wAndT, VL.wOrT, VL.wAnd, VL.wOr, VL.wNot, VL.wIf, VL.wNil, VL.wCons, VL.wTup, VL.wLst, VL.wStay, VL.wNew, VL.wPar, VL.wAug, VL.wDrop, VL.wRet, VL.wRetN, VL.wRet0, VL.wIfS, VL.wBrk, VL.wCnt, VL.wGt, VL.wGs, VL.wCB, VL.wCBN, VL.wCall, VL.wCallN, VL.wCallIo, VL.wCallIoN, VL.wCallK, VL.wIsi, VL.wIsi2, VL.wApp, VL.wExt, VL.wIns, VL.wSetIt, VL.wNoPart, VL.wPart, VL.wSl, VL.wSlN, VL.wChain, VL.wNeg, VL.wDnew, VL.wDput, VL.wDget, VL.wDin, VL.wDnin, VL.wIndex, VL.wRev, VL.wParNE, VL.wParEN, VL.wPar3, VL.wYes, VL.wSeqOf, VL.wRng1, VL.wRng2, VL.oI, VL.oI0, VL.oLt, VL.oLe, VL.oGt, VL.oGe, VL.oSub, VL.oMul, VL.oFdiv, VL.oMod, VL.oPow, VL.oShl', VL.oAbs, VL.oMax2, VL.oMin2, VL.oGcd, VL.atI_0, VL.atI_1, VL.atI_2, VL.ixN_20, VL.ixN_21, and_assoc, VL.shp_int, VL.shp_bool, VL.shp_none, VL.eqv_int, VL.eqv_bool, VL.isiD, VL.tyD, String.reduceBEq, Bool.not_true, Bool.not_false, Bool.and_true, Bool.and_false, Bool.true_and, Bool.false_and, Bool.or_true, Bool.or_false, Bool.true_or, Bool.false_or, decide_true, decide_false, Bool.not_eq_true', Bool.not_eq_eq_eq_not, decide_eq_true_eq, decide_eq_false_iff_not, VL.oInt1, VL.oInt2, VL.oLen, VL.oToInt, VL.oAdd, VL.oEq, VL.oNe, VL.oIsN, VL.oIn, VL.itemD, VL.isN, VL.der, VL.ders, VL.dats, VL.ioA, VL.endsV, VL.retE, VL.keepC, Option.map, List.range_succ, List.range_zero, List.map_cons, List.map_nil, List.map_append, List.nil_append, List.cons_append, List.append_nil, List.replicate_zero, List.replicate_succ, List.length_cons, List.length_nil, Nat.sub_self, List.getElem?_cons_zero, List.getElem?_cons_succ, List.set_cons_zero, List.set_cons_succ, Option.some.injEq, exists_eq_left', exists_eq_left, exists_eq_right, exists_and_left, exists_and_right, and_true, true_and, CV.d.injEq, CV.loc.injEq, Cell.lst.injEq, Cell.dat.injEq, Cell.dic.injEq, PyData.int.injEq, PyData.bool.injEq, PyData.list.injEq, PyData.tuple.injEq, PyData.str.injEq, reduceCtorEq, false_and, and_false, exists_false, false_or, or_false, if_true, if_false, reduceIte, Bool.false_eq_true, Nat.reduceAdd, Nat.reduceSub, Nat.succ_sub_succ, Nat.zero_add, VL.gP, List.filterMap_cons, List.filterMap_nil, List.cons.injEq, VL.wDisp0, VL.wDisp, VL.wPairs, VL.oLcm, VL.wPop, VL.wRevM, VL.wClearM, VL.wTupRg, VL.wListRg, VL.wR1, VL.wR2, VL.wRevN, VL.oRepT, VL.oRepL]
  rw [hk]
  clear hk k
  refine seq_gen fun k hk => ?_
  simp only [VL.wSeq, VL.wNext, VL.wNever, VL.wAsg, VL.wSet, VL.wVar, VL.wFrz, VL.wC, VL.wOp, VL.wTest, VL.wNotT, VL.wAndT, VL.wOrT, VL.wAnd, VL.wOr, VL.wNot, VL.wIf, VL.wNil, VL.wCons, VL.wTup, VL.wLst, VL.wStay, VL.wNew, VL.wPar, VL.wAug, VL.wDrop, VL.wRet, VL.wRetN, VL.wRet0, VL.wIfS, VL.wBrk, VL.wCnt, VL.wGt, VL.wGs, VL.wCB, VL.wCBN, VL.wCall, VL.wCallN, VL.wCallIo, VL.wCallIoN, VL.wCallK, VL.wIsi, VL.wIsi2, VL.wApp, VL.wExt, VL.wIns, VL.wSetIt, VL.wNoPart, VL.wPart, VL.wSl, VL.wSlN, VL.wChain, VL.wNeg, VL.wDnew, VL.wDput, VL.wDget, VL.wDin, VL.wDnin, VL.wIndex, VL.wRev, VL.wParNE, VL.wParEN, VL.wPar3, VL.wYes, VL.wSeqOf, VL.wRng1, VL.wRng2, VL.oI, VL.oI0, VL.oLt, VL.oLe, VL.oGt, VL.oGe, VL.oSub, VL.oMul, VL.oFdiv, VL.oMod, VL.oPow, VL.oShl', VL.oAbs, VL.oMax2, VL.oMin2, VL.oGcd, VL.atI_0, VL.atI_1, VL.atI_2, VL.ixN_20, VL.ixN_21, and_assoc, VL.shp_int, VL.shp_bool, VL.shp_none, VL.eqv_int, VL.eqv_bool, VL.isiD, VL.tyD, String.reduceBEq, Bool.not_true, Bool.not_false, Bool.and_true, Bool.and_false, Bool.true_and, Bool.false_and, Bool.or_true, Bool.or_false, Bool.true_or, Bool.false_or, decide_true, decide_false, Bool.not_eq_true', Bool.not_eq_eq_eq_not, decide_eq_true_eq, decide_eq_false_iff_not, VL.oInt1, VL.oInt2, VL.oLen, VL.oToInt, VL.oAdd, VL.oEq, VL.oNe, VL.oIsN, VL.oIn, VL.itemD, VL.isN, VL.der, VL.ders, VL.dats, VL.ioA, VL.endsV, VL.retE, VL.keepC, Option.map, List.range_succ, List.range_zero, List.map_cons, List.map_nil, List.map_append, List.nil_append, List.cons_append, List.append_nil, List.replicate_zero, List.replicate_succ, List.length_cons, List.length_nil, Nat.sub_self, List.getElem?_cons_zero, List.getElem?_cons_succ, List.set_cons_zero, List.set_cons_succ, Option.some.injEq, exists_eq_left', exists_eq_left, exists_eq_right, exists_and_left, exists_and_right, and_true, true_and, CV.d.injEq, CV.loc.injEq, Cell.lst.injEq, Cell.dat.injEq, Cell.dic.injEq, PyData.int.injEq, PyData.bool.injEq, PyData.list.injEq, PyData.tuple.injEq, PyData.str.injEq, reduceCtorEq, false_and, and_false, exists_false, false_or, or_false, if_true, if_false, reduceIte, Bool.false_eq_true, Nat.reduceAdd, Nat.reduceSub, Nat.succ_sub_succ, Nat.zero_add, VL.gP, List.filterMap_cons, List.filterMap_nil, List.cons.injEq, VL.wDisp0, VL.wDisp, VL.wPairs, VL.oLcm, VL.wPop, VL.wRevM, VL.wClearM, VL.wTupRg, VL.wListRg, VL.wR1, VL.wR2, VL.wRevN, VL.oRepT, VL.oRepL]
  refine ⟨by decide, by omega, by decide, ?_⟩
  rw [hk]
  clear hk k
  refine seq_gen fun k hk => ?_
  unfold wFor
  simp only [VL.wSeq, VL.wNext, VL.wNever, VL.wAsg, VL.wSet, VL.wVar, VL.wFrz, VL.wC, VL.wOp, VL.wTest, VL.wNotT, VL.wAndT, VL.wOrT, VL.wAnd, VL.wOr, VL.wNot, VL.wIf, VL.wNil, VL.wCons, VL.wTup, VL.wLst, VL.wStay, VL.wNew, VL.wPar, VL.wAug, VL.wDrop, VL.wRet, VL.wRetN, VL.wRet0, VL.wIfS, VL.wBrk, VL.wCnt, VL.wGt, VL.wGs, VL.wCB, VL.wCBN, VL.wCall, VL.wCallN, VL.wCallIo, VL.wCallIoN, VL.wCallK, VL.wIsi, VL.wIsi2, VL.wApp, VL.wExt, VL.wIns, VL.wSetIt, VL.wNoPart, VL.wPart, VL.wSl, VL.wSlN, VL.wChain, VL.wNeg, VL.wDnew, VL.wDput, VL.wDget, VL.wDin, VL.wDnin, VL.wIndex, VL.wRev, VL.wParNE, VL.wParEN, VL.wPar3, VL.wYes, VL.wSeqOf, VL.wRng1, VL.wRng2, VL.oI, VL.oI0, VL.oLt, VL.oLe, VL.oGt, VL.oGe, VL.oSub, VL.oMul, VL.oFdiv, VL.oMod, VL.oPow, VL.oShl', VL.oAbs, VL.oMax2, VL.oMin2, VL.oGcd, VL.atI_0, VL.atI_1, VL.atI_2, VL.ixN_20, VL.ixN_21, and_assoc, VL.shp_int, VL.shp_bool, VL.shp_none, VL.eqv_int, VL.eqv_bool, VL.isiD, VL.tyD, String.reduceBEq, Bool.not_true, Bool.not_false, Bool.and_true, Bool.and_false, Bool.true_and, Bool.false_and, Bool.or_true, Bool.or_false, Bool.true_or, Bool.false_or, decide_true, decide_false, Bool.not_eq_true', Bool.not_eq_eq_eq_not, decide_eq_true_eq, decide_eq_false_iff_not, VL.oInt1, VL.oInt2, VL.oLen, VL.oToInt, VL.oAdd, VL.oEq, VL.oNe, VL.oIsN, VL.oIn, VL.itemD, VL.isN, VL.der, VL.ders, VL.dats, VL.ioA, VL.endsV, VL.retE, VL.keepC, Option.map, List.range_succ, List.range_zero, List.map_cons, List.map_nil, List.map_append, List.nil_append, List.cons_append, List.append_nil, List.replicate_zero, List.replicate_succ, List.length_cons, List.length_nil, Nat.sub_self, List.getElem?_cons_zero, List.getElem?_cons_succ, List.set_cons_zero, List.set_cons_succ, Option.some.injEq, exists_eq_left', exists_eq_left, exists_eq_right, exists_and_left, exists_and_right, and_true, true_and, CV.d.injEq, CV.loc.injEq, Cell.lst.injEq, Cell.dat.injEq, Cell.dic.injEq, PyData.int.injEq, PyData.bool.injEq, PyData.list.injEq, PyData.tuple.injEq, PyData.str.injEq, reduceCtorEq, false_and, and_false, exists_false, false_or, or_false, if_true, if_false, reduceIte, Bool.false_eq_true, Nat.reduceAdd, Nat.reduceSub, Nat.succ_sub_succ, Nat.zero_add, VL.gP, List.filterMap_cons, List.filterMap_nil, List.cons.injEq, VL.wDisp0, VL.wDisp, VL.wPairs, VL.oLcm, VL.wPop, VL.wRevM, VL.wClearM, VL.wTupRg, VL.wListRg, VL.wR1, VL.wR2, VL.wRevN, VL.oRepT, VL.oRepL]
  refine ⟨⟨by omega, by omega⟩, fun i ρ => ∃ c, ρ = [.dat (rD q), c, .dat (.int q.num), .dat (.int q.den), .lst false ((seg (rs q.num q.den) i 0).map .int), .dat (.int (rs q.num q.den i))] ∧ (∀ x y, x < y → y < i → rs q.num q.den x ≠ rs q.num q.den y), ⟨_, rfl, fun x y h1 h2 => by omega⟩, ?_, ?_⟩
  · rintro i ρ d ⟨c, rfl, hi⟩ hd
    have few := rs_few (a := q.num) hp hi
    simp only [VL.wSeq, VL.wNext, VL.wNever, VL.wAsg, VL.wSet, VL.wVar, VL.wFrz, VL.wC, VL.wOp, VL.wTest, VL.wNotT, VL.wAndT, VL.wOrT, VL.wAnd, VL.wOr, VL.wNot, VL.wIf, VL.wNil, VL.wCons, VL.wTup, VL.wLst, VL.wStay, VL.wNew, VL.wPar, VL.wAug, VL.wDrop, VL.wRet, VL.wRetN, VL.wRet0, VL.wIfS, VL.wBrk, VL.wCnt, VL.wGt, VL.wGs, VL.wCB, VL.wCBN, VL.wCall, VL.wCallN, VL.wCallIo, VL.wCallIoN, VL.wCallK, VL.wIsi, VL.wIsi2, VL.wApp, VL.wExt, VL.wIns, VL.wSetIt, VL.wNoPart, VL.wPart, VL.wSl, VL.wSlN, VL.wChain, VL.wNeg, VL.wDnew, VL.wDput, VL.wDget, VL.wDin, VL.wDnin, VL.wIndex, VL.wRev, VL.wParNE, VL.wParEN, VL.wPar3, VL.wYes, VL.wSeqOf, VL.wRng1, VL.wRng2, VL.oI, VL.oI0, VL.oLt, VL.oLe, VL.oGt, VL.oGe, VL.oSub, VL.oMul, VL.oFdiv, VL.oMod, VL.oPow, VL.oShl', VL.oAbs, VL.oMax2, VL.oMin2, VL.oGcd, VL.atI_0, VL.atI_1, VL.atI_2, VL.ixN_20, VL.ixN_21, and_assoc, VL.shp_int, VL.shp_bool, VL.shp_none, VL.eqv_int, VL.eqv_bool, VL.isiD, VL.tyD, String.reduceBEq, Bool.not_true, Bool.not_false, Bool.and_true, Bool.and_false, Bool.true_and, Bool.false_and, Bool.or_true, Bool.or_false, Bool.true_or, Bool.false_or, decide_true, decide_false, Bool.not_eq_true', Bool.not_eq_eq_eq_not, decide_eq_true_eq, decide_eq_false_iff_not, VL.oInt1, VL.oInt2, VL.oLen, VL.oToInt, VL.oAdd, VL.oEq, VL.oNe, VL.oIsN, VL.oIn, VL.itemD, VL.isN, VL.der, VL.ders, VL.dats, VL.ioA, VL.endsV, VL.retE, VL.keepC, Option.map, List.range_succ, List.range_zero, List.map_cons, List.map_nil, List.map_append, List.nil_append, List.cons_append, List.append_nil, List.replicate_zero, List.replicate_succ, List.length_cons, List.length_nil, Nat.sub_self, List.getElem?_cons_zero, List.getElem?_cons_succ, List.set_cons_zero, List.set_cons_succ, Option.some.injEq, exists_eq_left', exists_eq_left, exists_eq_right, exists_and_left, exists_and_right, and_true, true_and, CV.d.injEq, CV.loc.injEq, Cell.lst.injEq, Cell.dat.injEq, Cell.dic.injEq, PyData.int.injEq, PyData.bool.injEq, PyData.list.injEq, PyData.tuple.injEq, PyData.str.injEq, reduceCtorEq, false_and, and_false, exists_false, false_or, or_false, if_true, if_false, reduceIte, Bool.false_eq_true, Nat.reduceAdd, Nat.reduceSub, Nat.succ_sub_succ, Nat.zero_add, VL.gP, List.filterMap_cons, List.filterMap_nil, List.cons.injEq, VL.wDisp0, VL.wDisp, VL.wPairs, VL.oLcm, VL.wPop, VL.wRevM, VL.wClearM, VL.wTupRg, VL.wListRg, VL.wR1, VL.wR2, VL.wRevN, VL.oRepT, VL.oRepL, inD_ints]
    refine ⟨.inl ⟨rfl, flat_ints⟩, ?_⟩
    by_cases g : rs q.num q.den i ∈ seg (rs q.num q.den) i 0
    · rw [if_pos g, hk]
      obtain ⟨s, h1, h2⟩ := mem_seg.mp g
      obtain ⟨p, rfl⟩ : ∃ p, i = s + p := ⟨i - s, by omega⟩
      simp only [VL.wSeq, VL.wNext, VL.wNever, VL.wAsg, VL.wSet, VL.wVar, VL.wFrz, VL.wC, VL.wOp, VL.wTest, VL.wNotT, VL.wAndT, VL.wOrT, VL.wAnd, VL.wOr, VL.wNot, VL.wIf, VL.wNil, VL.wCons, VL.wTup, VL.wLst, VL.wStay, VL.wNew, VL.wPar, VL.wAug, VL.wDrop, VL.wRet, VL.wRetN, VL.wRet0, VL.wIfS, VL.wBrk, VL.wCnt, VL.wGt, VL.wGs, VL.wCB, VL.wCBN, VL.wCall, VL.wCallN, VL.wCallIo, VL.wCallIoN, VL.wCallK, VL.wIsi, VL.wIsi2, VL.wApp, VL.wExt, VL.wIns, VL.wSetIt, VL.wNoPart, VL.wPart, VL.wSl, VL.wSlN, VL.wChain, VL.wNeg, VL.wDnew, VL.wDput, VL.wDget, VL.wDin, VL.wDnin, VL.wIndex, VL.wRev, VL.wParNE, VL.wParEN, VL.wPar3, VL.wYes, VL.wSeqOf, VL.wRng1, VL.wRng2, VL.oI, VL.oI0, VL.oLt, VL.oLe, VL.oGt, VL.oGe, VL.oSub, VL.oMul, VL.oFdiv, VL.oMod, VL.oPow, VL.oShl', VL.oAbs, VL.oMax2, VL.oMin2, VL.oGcd, VL.atI_0, VL.atI_1, VL.atI_2, VL.ixN_20, VL.ixN_21, and_assoc, VL.shp_int, VL.shp_bool, VL.shp_none, VL.eqv_int, VL.eqv_bool, VL.isiD, VL.tyD, String.reduceBEq, Bool.not_true, Bool.not_false, Bool.and_true, Bool.and_false, Bool.true_and, Bool.false_and, Bool.or_true, Bool.or_false, Bool.true_or, Bool.false_or, decide_true, decide_false, Bool.not_eq_true', Bool.not_eq_eq_eq_not, decide_eq_true_eq, decide_eq_false_iff_not, VL.oInt1, VL.oInt2, VL.oLen, VL.oToInt, VL.oAdd, VL.oEq, VL.oNe, VL.oIsN, VL.oIn, VL.itemD, VL.isN, VL.der, VL.ders, VL.dats, VL.ioA, VL.endsV, VL.retE, VL.keepC, Option.map, List.range_succ, List.range_zero, List.map_cons, List.map_nil, List.map_append, List.nil_append, List.cons_append, List.append_nil, List.replicate_zero, List.replicate_succ, List.length_cons, List.length_nil, Nat.sub_self, List.getElem?_cons_zero, List.getElem?_cons_succ, List.set_cons_zero, List.set_cons_succ, Option.some.injEq, exists_eq_left', exists_eq_left, exists_eq_right, exists_and_left, exists_and_right, and_true, true_and, CV.d.injEq, CV.loc.injEq, Cell.lst.injEq, Cell.dat.injEq, Cell.dic.injEq, PyData.int.injEq, PyData.bool.injEq, PyData.list.injEq, PyData.tuple.injEq, PyData.str.injEq, reduceCtorEq, false_and, and_false, exists_false, false_or, or_false, if_true, if_false, reduceIte, Bool.false_eq_true, Nat.reduceAdd, Nat.reduceSub, Nat.succ_sub_succ, Nat.zero_add, VL.gP, List.filterMap_cons, List.filterMap_nil, List.cons.injEq, VL.wDisp0, VL.wDisp, VL.wPairs, VL.oLcm, VL.wPop, VL.wRevM, VL.wClearM, VL.wTupRg, VL.wListRg, VL.wR1, VL.wR2, VL.wRevN, VL.oRepT, VL.oRepL]
      have fa : firstAt ((seg (rs q.num q.den) (s + p) 0).map PyData.int) (.int (rs q.num q.den (s + p))) s := by
        refine ⟨⟨_, at_seg h1, by rw [eqv_int, h2]; exact decide_eq_true rfl⟩, fun m z' hm hz => ?_⟩
        obtain ⟨rfl, _⟩ := seg_at hz
        rw [eqv_int, ← h2]
        exact decide_eq_false (hi m s hm h1)
      refine ⟨⟨_, rfl⟩, rfl, flat_ints, s, fa, ⟨_, rfl⟩, rfl, flat_ints, s, fa, by decide, ?_⟩
      rw [List.length_map, seg_len, show ((s + p : Nat) : Int) - (s : Int) = (p : Int) by omega]
      exact h s p (by omega) h2.symm hi
    · rw [if_neg g]
      refine ⟨⟨_, rfl⟩, ?_, .inl (.inl ⟨by decide, by decide⟩), by omega, map_seg _ _, rfl, ?_⟩
      · rw [List.length_map, seg_len]
        exact Nat.lt_of_le_of_lt (show i ≤ 1000 by omega) (by decide)
      · intro x y h1 h2 e
        by_cases z : y = i
        · subst z
          exact g (mem_seg.mpr ⟨x, h1, e⟩)
        · exact hi x y h1 (by omega) e
  · rintro ρ ⟨c, rfl, hi⟩
    exfalso
    have few := rs_few (a := q.num) hp hi
    have l : (rngD 0 ((q.den : Int) + 1)).length = q.den + 1 := by
      simp [rngD]
    omega
theorem cut_mid {ds : List D} {s p : Nat} (h : ds.length = s + p) : VL.cutD ds (some (s : Int)) (some ((s : Int) + (p : Int))) = ds.drop s := by
  rw [show (s : Int) + (p : Int) = ((s + p : Nat) : Int) by omega]
  unfold VL.cutD
  rw [HT.sIx_nat, HT.sIx_nat, Nat.min_eq_left (by omega), Nat.min_eq_left (by omega), List.take_of_length_le (by simp; omega)]
theorem h__law_due (ρ : En) (Q : RV → En → Prop) (h : S__law_due ρ Q) : t__law_due (endsV 1 Q) (ρ ++ List.replicate (5 - 1) .un) := by
  obtain ⟨q, rfl, n, h⟩ := h
  have hp := den_pos q
  unfold t__law_due
  refine seq_gen fun k hk => ?_
  simp only [VL.wSeq, VL.wNext, VL.wNever, VL.wAsg, VL.wSet, VL.wVar, VL.wFrz, VL.wC, VL.wOp, VL.wTest, VL.wNotT, VL.wAndT, VL.wOrT, VL.wAnd, VL.wOr, VL.wNot, VL.wIf, VL.wNil, VL.wCons, VL.wTup, VL.wLst, VL.wStay, VL.wNew, VL.wPar, VL.wAug, VL.wDrop, VL.wRet, VL.wRetN, VL.wRet0, VL.wIfS, VL.wBrk, VL.wCnt, VL.wGt, VL.wGs, VL.wCB, VL.wCBN, VL.wCall, VL.wCallN, VL.wCallIo, VL.wCallIoN, VL.wCallK, VL.wIsi, VL.wIsi2, VL.wApp, VL.wExt, VL.wIns, VL.wSetIt, VL.wNoPart, VL.wPart, VL.wSl, VL.wSlN, VL.wChain, VL.wNeg, VL.wDnew, VL.wDput, VL.wDget, VL.wDin, VL.wDnin, VL.wIndex, VL.wRev, VL.wParNE, VL.wParEN, VL.wPar3, VL.wYes, VL.wSeqOf, VL.wRng1, VL.wRng2, VL.oI, VL.oI0, VL.oLt, VL.oLe, VL.oGt, VL.oGe, VL.oSub, VL.oMul, VL.oFdiv, VL.oMod, VL.oPow, VL.oShl', VL.oAbs, VL.oMax2, VL.oMin2, VL.oGcd, VL.atI_0, VL.atI_1, VL.atI_2, VL.ixN_20, VL.ixN_21, and_assoc, VL.shp_int, VL.shp_bool, VL.shp_none, VL.eqv_int, VL.eqv_bool, VL.isiD, VL.tyD, String.reduceBEq, Bool.not_true, Bool.not_false, Bool.and_true, Bool.and_false, Bool.true_and, Bool.false_and, Bool.or_true, Bool.or_false, Bool.true_or, Bool.false_or, decide_true, decide_false, Bool.not_eq_true', Bool.not_eq_eq_eq_not, decide_eq_true_eq, decide_eq_false_iff_not, VL.oInt1, VL.oInt2, VL.oLen, VL.oToInt, VL.oAdd, VL.oEq, VL.oNe, VL.oIsN, VL.oIn, VL.itemD, VL.isN, VL.der, VL.ders, VL.dats, VL.ioA, VL.endsV, VL.retE, VL.keepC, Option.map, List.range_succ, List.range_zero, List.map_cons, List.map_nil, List.map_append, List.nil_append, List.cons_append, List.append_nil, List.replicate_zero, List.replicate_succ, List.length_cons, List.length_nil, Nat.sub_self, List.getElem?_cons_zero, List.getElem?_cons_succ, List.set_cons_zero, List.set_cons_succ, Option.some.injEq, exists_eq_left', exists_eq_left, exists_eq_right, exists_and_left, exists_and_right, and_true, true_and, CV.d.injEq, CV.loc.injEq, Cell.lst.injEq, Cell.dat.injEq, Cell.dic.injEq, PyData.int.injEq, PyData.bool.injEq, PyData.list.injEq, PyData.tuple.injEq, PyData.str.injEq, reduceCtorEq, false_and, and_false, exists_false, false_or, or_false, if_true, if_false, reduceIte, Bool.false_eq_true, Nat.reduceAdd, Nat.reduceSub, Nat.succ_sub_succ, Nat.zero_add, VL.gP, List.filterMap_cons, List.filterMap_nil, List.cons.injEq, VL.wDisp0, VL.wDisp, VL.wPairs, VL.oLcm, VL.wPop, VL.wRevM, VL.wClearM, VL.wTupRg, VL.wListRg, VL.wR1, VL.wR2, VL.wRevN, VL.oRepT, VL.oRepL, S__law_rounds]
  refine ⟨q, rfl, n, fun j p p1 hr hi => ?_⟩
  rw [hk]
  clear hk k
  have few := rs_few (a := q.num) hp hi
  have hd := n.den
  refine seq_gen fun k hk => ?_
  simp only [VL.wSeq, VL.wNext, VL.wNever, VL.wAsg, VL.wSet, VL.wVar, VL.wFrz, VL.wC, VL.wOp, VL.wTest, VL.wNotT, VL.wAndT, VL.wOrT, VL.wAnd, VL.wOr, VL.wNot, VL.wIf, VL.wNil, VL.wCons, VL.wTup, VL.wLst, VL.wStay, VL.wNew, VL.wPar, VL.wAug, VL.wDrop, VL.wRet, VL.wRetN, VL.wRet0, VL.wIfS, VL.wBrk, VL.wCnt, VL.wGt, VL.wGs, VL.wCB, VL.wCBN, VL.wCall, VL.wCallN, VL.wCallIo, VL.wCallIoN, VL.wCallK, VL.wIsi, VL.wIsi2, VL.wApp, VL.wExt, VL.wIns, VL.wSetIt, VL.wNoPart, VL.wPart, VL.wSl, VL.wSlN, VL.wChain, VL.wNeg, VL.wDnew, VL.wDput, VL.wDget, VL.wDin, VL.wDnin, VL.wIndex, VL.wRev, VL.wParNE, VL.wParEN, VL.wPar3, VL.wYes, VL.wSeqOf, VL.wRng1, VL.wRng2, VL.oI, VL.oI0, VL.oLt, VL.oLe, VL.oGt, VL.oGe, VL.oSub, VL.oMul, VL.oFdiv, VL.oMod, VL.oPow, VL.oShl', VL.oAbs, VL.oMax2, VL.oMin2, VL.oGcd, VL.atI_0, VL.atI_1, VL.atI_2, VL.ixN_20, VL.ixN_21, and_assoc, VL.shp_int, VL.shp_bool, VL.shp_none, VL.eqv_int, VL.eqv_bool, VL.isiD, VL.tyD, String.reduceBEq, Bool.not_true, Bool.not_false, Bool.and_true, Bool.and_false, Bool.true_and, Bool.false_and, Bool.or_true, Bool.or_false, Bool.true_or, Bool.false_or, decide_true, decide_false, Bool.not_eq_true', Bool.not_eq_eq_eq_not, decide_eq_true_eq, decide_eq_false_iff_not, VL.oInt1, VL.oInt2, VL.oLen, VL.oToInt, VL.oAdd, VL.oEq, VL.oNe, VL.oIsN, VL.oIn, VL.itemD, VL.isN, VL.der, VL.ders, VL.dats, VL.ioA, VL.endsV, VL.retE, VL.keepC, Option.map, List.range_succ, List.range_zero, List.map_cons, List.map_nil, List.map_append, List.nil_append, List.cons_append, List.append_nil, List.replicate_zero, List.replicate_succ, List.length_cons, List.length_nil, Nat.sub_self, List.getElem?_cons_zero, List.getElem?_cons_succ, List.set_cons_zero, List.set_cons_succ, Option.some.injEq, exists_eq_left', exists_eq_left, exists_eq_right, exists_and_left, exists_and_right, and_true, true_and, CV.d.injEq, CV.loc.injEq, Cell.lst.injEq, Cell.dat.injEq, Cell.dic.injEq, PyData.int.injEq, PyData.bool.injEq, PyData.list.injEq, PyData.tuple.injEq, PyData.str.injEq, reduceCtorEq, false_and, and_false, exists_false, false_or, or_false, if_true, if_false, reduceIte, Bool.false_eq_true, Nat.reduceAdd, Nat.reduceSub, Nat.succ_sub_succ, Nat.zero_add, VL.gP, List.filterMap_cons, List.filterMap_nil, List.cons.injEq, VL.wDisp0, VL.wDisp, VL.wPairs, VL.oLcm, VL.wPop, VL.wRevM, VL.wClearM, VL.wTupRg, VL.wListRg, VL.wR1, VL.wR2, VL.wRevN, VL.oRepT, VL.oRepL, S__law_sequence]
  refine ⟨q, rfl, 1 + j + p, by omega, n, by omega, by omega, ?_⟩
  rw [hk]
  clear hk k
  rw [show (1 : Int) + (j : Int) = ((1 + j : Nat) : Int) by omega]
  refine seq_gen fun k hk => ?_
  have fin : ∀ (s p : Nat) (c : Cell), Per q.num q.den s p → k [.dat (rD q), .dat (.list ((seg (fg q.num q.den) (s + p) 0).map .int)), c, .dat (.int s), .dat (.int p)] := by
    intro s p c P
    rw [hk]
    simp only [VL.wSeq, VL.wNext, VL.wNever, VL.wAsg, VL.wSet, VL.wVar, VL.wFrz, VL.wC, VL.wOp, VL.wTest, VL.wNotT, VL.wAndT, VL.wOrT, VL.wAnd, VL.wOr, VL.wNot, VL.wIf, VL.wNil, VL.wCons, VL.wTup, VL.wLst, VL.wStay, VL.wNew, VL.wPar, VL.wAug, VL.wDrop, VL.wRet, VL.wRetN, VL.wRet0, VL.wIfS, VL.wBrk, VL.wCnt, VL.wGt, VL.wGs, VL.wCB, VL.wCBN, VL.wCall, VL.wCallN, VL.wCallIo, VL.wCallIoN, VL.wCallK, VL.wIsi, VL.wIsi2, VL.wApp, VL.wExt, VL.wIns, VL.wSetIt, VL.wNoPart, VL.wPart, VL.wSl, VL.wSlN, VL.wChain, VL.wNeg, VL.wDnew, VL.wDput, VL.wDget, VL.wDin, VL.wDnin, VL.wIndex, VL.wRev, VL.wParNE, VL.wParEN, VL.wPar3, VL.wYes, VL.wSeqOf, VL.wRng1, VL.wRng2, VL.oI, VL.oI0, VL.oLt, VL.oLe, VL.oGt, VL.oGe, VL.oSub, VL.oMul, VL.oFdiv, VL.oMod, VL.oPow, VL.oShl', VL.oAbs, VL.oMax2, VL.oMin2, VL.oGcd, VL.atI_0, VL.atI_1, VL.atI_2, VL.ixN_20, VL.ixN_21, and_assoc, VL.shp_int, VL.shp_bool, VL.shp_none, VL.eqv_int, VL.eqv_bool, VL.isiD, VL.tyD, String.reduceBEq, Bool.not_true, Bool.not_false, Bool.and_true, Bool.and_false, Bool.true_and, Bool.false_and, Bool.or_true, Bool.or_false, Bool.true_or, Bool.false_or, decide_true, decide_false, Bool.not_eq_true', Bool.not_eq_eq_eq_not, decide_eq_true_eq, decide_eq_false_iff_not, VL.oInt1, VL.oInt2, VL.oLen, VL.oToInt, VL.oAdd, VL.oEq, VL.oNe, VL.oIsN, VL.oIn, VL.itemD, VL.isN, VL.der, VL.ders, VL.dats, VL.ioA, VL.endsV, VL.retE, VL.keepC, Option.map, List.range_succ, List.range_zero, List.map_cons, List.map_nil, List.map_append, List.nil_append, List.cons_append, List.append_nil, List.replicate_zero, List.replicate_succ, List.length_cons, List.length_nil, Nat.sub_self, List.getElem?_cons_zero, List.getElem?_cons_succ, List.set_cons_zero, List.set_cons_succ, Option.some.injEq, exists_eq_left', exists_eq_left, exists_eq_right, exists_and_left, exists_and_right, and_true, true_and, CV.d.injEq, CV.loc.injEq, Cell.lst.injEq, Cell.dat.injEq, Cell.dic.injEq, PyData.int.injEq, PyData.bool.injEq, PyData.list.injEq, PyData.tuple.injEq, PyData.str.injEq, reduceCtorEq, false_and, and_false, exists_false, false_or, or_false, if_true, if_false, reduceIte, Bool.false_eq_true, Nat.reduceAdd, Nat.reduceSub, Nat.succ_sub_succ, Nat.zero_add, VL.gP, List.filterMap_cons, List.filterMap_nil, List.cons.injEq, VL.wDisp0, VL.wDisp, VL.wPairs, VL.oLcm, VL.wPop, VL.wRevM, VL.wClearM, VL.wTupRg, VL.wListRg, VL.wR1, VL.wR2, VL.wRevN, VL.oRepT, VL.oRepL]
    have l : s ≤ ((seg (fg q.num q.den) (s + p) 0).map PyData.int).length := by
      rw [List.length_map, seg_len]
      omega
    rw [cut_lo l, cut_mid (by rw [List.length_map, seg_len]), ← List.map_take, ← List.map_drop, seg_take _ (show s ≤ s + p by omega), seg_drop]
    exact ⟨by decide, h s p P⟩
  have fin0 : ∀ (p : Nat) (c : Cell), Per q.num q.den 0 p → k [.dat (rD q), .dat (.list ((seg (fg q.num q.den) p 0).map .int)), c, .dat (.int 0), .dat (.int p)] := by
    intro p c P
    have := fin 0 p c P
    rw [Nat.zero_add] at this
    exact this
  clear hk
  unfold wFor
  simp only [VL.wSeq, VL.wNext, VL.wNever, VL.wAsg, VL.wSet, VL.wVar, VL.wFrz, VL.wC, VL.wOp, VL.wTest, VL.wNotT, VL.wAndT, VL.wOrT, VL.wAnd, VL.wOr, VL.wNot, VL.wIf, VL.wNil, VL.wCons, VL.wTup, VL.wLst, VL.wStay, VL.wNew, VL.wPar, VL.wAug, VL.wDrop, VL.wRet, VL.wRetN, VL.wRet0, VL.wIfS, VL.wBrk, VL.wCnt, VL.wGt, VL.wGs, VL.wCB, VL.wCBN, VL.wCall, VL.wCallN, VL.wCallIo, VL.wCallIoN, VL.wCallK, VL.wIsi, VL.wIsi2, VL.wApp, VL.wExt, VL.wIns, VL.wSetIt, VL.wNoPart, VL.wPart, VL.wSl, VL.wSlN, VL.wChain, VL.wNeg, VL.wDnew, VL.wDput, VL.wDget, VL.wDin, VL.wDnin, VL.wIndex, VL.wRev, VL.wParNE, VL.wParEN, VL.wPar3, VL.wYes, VL.wSeqOf, VL.wRng1, VL.wRng2, VL.oI, VL.oI0, VL.oLt, VL.oLe, VL.oGt, VL.oGe, VL.oSub, VL.oMul, VL.oFdiv, VL.oMod, VL.oPow, VL.oShl', VL.oAbs, VL.oMax2, VL.oMin2, VL.oGcd, VL.atI_0, VL.atI_1, VL.atI_2, VL.ixN_20, VL.ixN_21, and_assoc, VL.shp_int, VL.shp_bool, VL.shp_none, VL.eqv_int, VL.eqv_bool, VL.isiD, VL.tyD, String.reduceBEq, Bool.not_true, Bool.not_false, Bool.and_true, Bool.and_false, Bool.true_and, Bool.false_and, Bool.or_true, Bool.or_false, Bool.true_or, Bool.false_or, decide_true, decide_false, Bool.not_eq_true', Bool.not_eq_eq_eq_not, decide_eq_true_eq, decide_eq_false_iff_not, VL.oInt1, VL.oInt2, VL.oLen, VL.oToInt, VL.oAdd, VL.oEq, VL.oNe, VL.oIsN, VL.oIn, VL.itemD, VL.isN, VL.der, VL.ders, VL.dats, VL.ioA, VL.endsV, VL.retE, VL.keepC, Option.map, List.range_succ, List.range_zero, List.map_cons, List.map_nil, List.map_append, List.nil_append, List.cons_append, List.append_nil, List.replicate_zero, List.replicate_succ, List.length_cons, List.length_nil, Nat.sub_self, List.getElem?_cons_zero, List.getElem?_cons_succ, List.set_cons_zero, List.set_cons_succ, Option.some.injEq, exists_eq_left', exists_eq_left, exists_eq_right, exists_and_left, exists_and_right, and_true, true_and, CV.d.injEq, CV.loc.injEq, Cell.lst.injEq, Cell.dat.injEq, Cell.dic.injEq, PyData.int.injEq, PyData.bool.injEq, PyData.list.injEq, PyData.tuple.injEq, PyData.str.injEq, reduceCtorEq, false_and, and_false, exists_false, false_or, or_false, if_true, if_false, reduceIte, Bool.false_eq_true, Nat.reduceAdd, Nat.reduceSub, Nat.succ_sub_succ, Nat.zero_add, VL.gP, List.filterMap_cons, List.filterMap_nil, List.cons.injEq, VL.wDisp0, VL.wDisp, VL.wPairs, VL.oLcm, VL.wPop, VL.wRevM, VL.wClearM, VL.wTupRg, VL.wListRg, VL.wR1, VL.wR2, VL.wRevN, VL.oRepT, VL.oRepL]
  refine ⟨⟨by omega, by omega⟩, fun i ρ => (i = 0 ∧ ∃ c, ρ = [.dat (rD q), .dat (.list ((seg (fg q.num q.den) (1 + j + p) 0).map .int)), c, .dat (.int ((1 + j : Nat) : Int)), .dat (.int p)]) ∨ (i = 1 ∧ j = 0 ∧ Per q.num q.den 0 p ∧ ∃ c, ρ = [.dat (rD q), .dat (.list ((seg (fg q.num q.den) p 0).map .int)), c, .dat (.int 0), .dat (.int p)]), .inl ⟨rfl, _, rfl⟩, ?_, ?_⟩
  · rintro i ρ d (⟨rfl, c, rfl⟩ | ⟨e1, e2, P, c, rfl⟩) hx
    · obtain ⟨rfl, hi0⟩ := rng_at hx
      simp only [VL.wSeq, VL.wNext, VL.wNever, VL.wAsg, VL.wSet, VL.wVar, VL.wFrz, VL.wC, VL.wOp, VL.wTest, VL.wNotT, VL.wAndT, VL.wOrT, VL.wAnd, VL.wOr, VL.wNot, VL.wIf, VL.wNil, VL.wCons, VL.wTup, VL.wLst, VL.wStay, VL.wNew, VL.wPar, VL.wAug, VL.wDrop, VL.wRet, VL.wRetN, VL.wRet0, VL.wIfS, VL.wBrk, VL.wCnt, VL.wGt, VL.wGs, VL.wCB, VL.wCBN, VL.wCall, VL.wCallN, VL.wCallIo, VL.wCallIoN, VL.wCallK, VL.wIsi, VL.wIsi2, VL.wApp, VL.wExt, VL.wIns, VL.wSetIt, VL.wNoPart, VL.wPart, VL.wSl, VL.wSlN, VL.wChain, VL.wNeg, VL.wDnew, VL.wDput, VL.wDget, VL.wDin, VL.wDnin, VL.wIndex, VL.wRev, VL.wParNE, VL.wParEN, VL.wPar3, VL.wYes, VL.wSeqOf, VL.wRng1, VL.wRng2, VL.oI, VL.oI0, VL.oLt, VL.oLe, VL.oGt, VL.oGe, VL.oSub, VL.oMul, VL.oFdiv, VL.oMod, VL.oPow, VL.oShl', VL.oAbs, VL.oMax2, VL.oMin2, VL.oGcd, VL.atI_0, VL.atI_1, VL.atI_2, VL.ixN_20, VL.ixN_21, and_assoc, VL.shp_int, VL.shp_bool, VL.shp_none, VL.eqv_int, VL.eqv_bool, VL.isiD, VL.tyD, String.reduceBEq, Bool.not_true, Bool.not_false, Bool.and_true, Bool.and_false, Bool.true_and, Bool.false_and, Bool.or_true, Bool.or_false, Bool.true_or, Bool.false_or, decide_true, decide_false, Bool.not_eq_true', Bool.not_eq_eq_eq_not, decide_eq_true_eq, decide_eq_false_iff_not, VL.oInt1, VL.oInt2, VL.oLen, VL.oToInt, VL.oAdd, VL.oEq, VL.oNe, VL.oIsN, VL.oIn, VL.itemD, VL.isN, VL.der, VL.ders, VL.dats, VL.ioA, VL.endsV, VL.retE, VL.keepC, Option.map, List.range_succ, List.range_zero, List.map_cons, List.map_nil, List.map_append, List.nil_append, List.cons_append, List.append_nil, List.replicate_zero, List.replicate_succ, List.length_cons, List.length_nil, Nat.sub_self, List.getElem?_cons_zero, List.getElem?_cons_succ, List.set_cons_zero, List.set_cons_succ, Option.some.injEq, exists_eq_left', exists_eq_left, exists_eq_right, exists_and_left, exists_and_right, and_true, true_and, CV.d.injEq, CV.loc.injEq, Cell.lst.injEq, Cell.dat.injEq, Cell.dic.injEq, PyData.int.injEq, PyData.bool.injEq, PyData.list.injEq, PyData.tuple.injEq, PyData.str.injEq, reduceCtorEq, false_and, and_false, exists_false, false_or, or_false, if_true, if_false, reduceIte, Bool.false_eq_true, Nat.reduceAdd, Nat.reduceSub, Nat.succ_sub_succ, Nat.zero_add, VL.gP, List.filterMap_cons, List.filterMap_nil, List.cons.injEq, VL.wDisp0, VL.wDisp, VL.wPairs, VL.oLcm, VL.wPop, VL.wRevM, VL.wClearM, VL.wTupRg, VL.wListRg, VL.wR1, VL.wR2, VL.wRevN, VL.oRepT, VL.oRepL]
      rw [if_neg (by omega)]
      rw [show ((1 + j : Nat) : Int) - 1 = (j : Int) by omega, show ((1 + j : Nat) : Int) + (p : Int) - 1 = ((j + p : Nat) : Int) by omega]
      have a1 : atI ((seg (fg q.num q.den) (1 + j + p) 0).map PyData.int) (j : Int) = some (.int (fg q.num q.den j)) := by
        rw [atI_at (by rw [List.length_map, seg_len]; omega)]
        simp [seg]
      have a2 : atI ((seg (fg q.num q.den) (1 + j + p) 0).map PyData.int) ((j + p : Nat) : Int) = some (.int (fg q.num q.den (j + p))) := by
        rw [atI_at (by rw [List.length_map, seg_len]; omega)]
        simp [seg]
      refine ⟨_, a1, _, a2, rfl, rfl, ?_⟩
      rw [eqv_int]
      by_cases e : fg q.num q.den j = fg q.num q.den (j + p)
      · rw [decide_eq_true e, if_neg (by simp)]
        by_cases n0 : j = 0 ∧ tp q.num q.den 0 = tp q.num q.den p
        · obtain ⟨rfl, e2⟩ := n0
          refine ⟨rfl, per_zero p1 e2 (fun x y h1 h2 => hi x y h1 (by omega)), ?_, by omega⟩
          rw [cut_lo (by rw [List.length_map, seg_len]; omega), ← List.map_take, seg_take _ (by omega), Nat.zero_add]
        · exact ((per_succ p1 hr hi n0).2 e).elim
      · rw [decide_eq_false e, if_pos rfl]
        by_cases n0 : j = 0 ∧ tp q.num q.den 0 = tp q.num q.den p
        · exfalso
          obtain ⟨rfl, e2⟩ := n0
          apply e
          unfold fg
          rw [Nat.zero_add, e2]
        · have P := (per_succ p1 hr hi n0).1
          rw [show j + 1 = 1 + j by omega] at P
          exact fin (1 + j) p _ P
    · have hi0 := (rng_at hx).2
      exfalso
      rw [e1, e2] at hi0
      exact absurd hi0 (by decide)
  · rintro ρ (⟨e, c, rfl⟩ | ⟨_, _, P, c, rfl⟩)
    · exfalso
      rw [rng_len] at e
      omega
    · exact fin0 p c P
end K03

end

/-! #### K03F -/
section
set_option autoImplicit false
set_option maxRecDepth 100000
set_option maxHeartbeats 1000000
set_option exponentiation.threshold 5000
namespace K03
open PySem PySem.Spec PyProof.Rows L2 VL
theorem depth_ints : ∀ ns : List Int, PyData.depthAll (ns.map PyData.int) ≤ 5
  | [] => by simp [PyData.depthAll]
  | n :: r => by
    have := depth_ints r
    simp only [List.map_cons, PyData.depthAll, PyData.depth]
    omega
theorem lay_ints : ∀ ns : List Int, PyData.canLayAll0 (ns.map PyData.int) = true
  | [] => by simp [PyData.canLayAll0]
  | n :: r => by
    have := lay_ints r
    simp only [List.map_cons, PyData.canLayAll0, PyData.canLay0, this, Bool.and_true]
theorem shp_list (ns : List Int) : shp (.list (ns.map .int)) = true := by
  unfold shp SeqAt.shaped
  rw [Bool.and_eq_true]
  refine ⟨by simp only [PyData.canLay0, lay_ints], decide_eq_true ?_⟩
  have := depth_ints ns
  simp only [PyData.depth]
  omega
theorem shp_tup (ns : List Int) : shp (.tuple (ns.map .int)) = true := by
  unfold shp SeqAt.shaped
  rw [Bool.and_eq_true]
  refine ⟨by simp only [PyData.canLay0, lay_ints], decide_eq_true ?_⟩
  have := depth_ints ns
  simp only [PyData.depth]
  omega
theorem eqvAll_ints : ∀ ns ms : List Int, PyData.eqvAll (ns.map PyData.int) (ms.map PyData.int) = decide (ns = ms)
  | [], [] => by simp [PyData.eqvAll]
  | [], m :: r => by simp [PyData.eqvAll]
  | n :: r, [] => by simp [PyData.eqvAll]
  | n :: r, m :: t => by
    have := eqvAll_ints r t
    simp only [List.map_cons, PyData.eqvAll, this, eqv_int, List.cons.injEq]
    by_cases h : n = m <;> simp [h]
theorem eqv_listI (ns ms : List Int) : PyData.eqv (.list (ns.map .int)) (.list (ms.map .int)) = decide (ns = ms) := by
  simp only [PyData.eqv, eqvAll_ints]
theorem eqv_tupI (ns ms : List Int) : PyData.eqv (.tuple (ns.map .int)) (.tuple (ms.map .int)) = decide (ns = ms) := by
  simp only [PyData.eqv, eqvAll_ints]
theorem seg_add (g : Nat → Int) (a b t : Nat) : seg g (a + b) t = seg g a t ++ seg g b (t + a) := by
  unfold seg
  rw [List.range_add, List.map_append, List.map_map]
  congr 1
  refine List.map_congr_left fun i _ => ?_
  show g (t + (a + i)) = g (t + a + i)
  rw [Nat.add_assoc]
theorem seg_on {a b : Int} {s p : Nat} (P : Per a b s p) (N : Nat) : seg (fg a b) N (s + p) = seg (fg a b) N s := by
  unfold seg
  exact List.map_congr_left fun i _ => fg_on P i
theorem seg_rep {a b : Int} {s p : Nat} (P : Per a b s p) : ∀ m, (List.replicate m (seg (fg a b) p s)).flatten = seg (fg a b) (m * p) s
  | 0 => by simp [seg]
  | m + 1 => by
    rw [List.replicate_succ, List.flatten_cons, seg_rep P m, show (m + 1) * p = p + m * p by rw [Nat.add_mul, Nat.one_mul, Nat.add_comm], seg_add, seg_on P]
theorem map_flat (m : Nat) (ns : List Int) : (List.replicate m (ns.map PyData.int)).flatten = ((List.replicate m ns).flatten).map PyData.int := by
  rw [List.map_flatten, List.map_replicate]
theorem fl_rep {B : List Int} {low : Nat} (hB : B.length = low) (h0 : 0 < low) : ∀ (m x : Nat), x < m * low → (List.replicate m B).flatten[x]? = B[x % low]?
  | 0, x, h => by omega
  | m + 1, x, h => by
    rw [List.replicate_succ, List.flatten_cons]
    by_cases l : x < low
    · rw [List.getElem?_append_left (by omega), Nat.mod_eq_of_lt l]
    · have h' : x < m * low + low := by
        rw [← Nat.succ_mul]
        exact h
      have e : x % low = (x - low) % low := Nat.mod_eq_sub_mod (by omega)
      rw [List.getElem?_append_right (by omega), hB, fl_rep hB h0 m (x - low) (by omega), e]
theorem fg_mod {a b : Int} {s p : Nat} (P : Per a b s p) (i : Nat) : fg a b (s + i) = fg a b (s + i % p) := by
  induction i using Nat.strongRecOn with
  | ind i ih =>
    have := P.pos
    by_cases l : i < p
    · rw [Nat.mod_eq_of_lt l]
    · have h := fg_on P (i - p)
      rw [show s + p + (i - p) = s + i by omega] at h
      rw [h, ih (i - p) (by omega), ← Nat.mod_eq_sub_mod (by omega)]
/-- no shorter round -/
theorem no_low {a b : Int} {s p low m : Nat} (P : Per a b s p) (h1 : 1 ≤ low) (h2 : low < p) (hm : p = m * low) : seg (fg a b) p s ≠ (List.replicate m (seg (fg a b) low s)).flatten := fun e => by
  have at_ : ∀ (N x : Nat), x < N → (seg (fg a b) N s)[x]? = some (fg a b (s + x)) := fun N x h => by
    rw [List.getElem?_eq_getElem (by rw [seg_len]; exact h)]
    simp [seg]
  have f : ∀ x, x < p → fg a b (s + x) = fg a b (s + x % low) := fun x hx => by
    have h3 := at_ p x hx
    rw [e, fl_rep (seg_len _ _ _) h1 m x (by omega), at_ low _ (Nat.mod_lt _ h1)] at h3
    exact (Option.some.inj h3).symm
  have d : low ∣ p := ⟨m, by rw [hm, Nat.mul_comm]⟩
  refine per_low P h1 h2 fun i => ?_
  have g : ∀ i, fg a b (s + i) = fg a b (s + i % low) := fun i => by
    rw [fg_mod P i, f _ (Nat.mod_lt _ P.pos), Nat.mod_mod_of_dvd _ d]
  rw [Nat.add_assoc, g (low + i), g i, Nat.add_mod_left]
theorem no_ones {q : Rat} {s p : Nat} (P : Per q.num q.den s p) : seg (fg q.num q.den) p s ≠ (List.replicate p [1]).flatten := fun e => by
  refine per_ones P fun i hi => ?_
  have h3 : (seg (fg q.num q.den) p s)[i]? = some (fg q.num q.den (s + i)) := by
    rw [List.getElem?_eq_getElem (by rw [seg_len]; exact hi)]
    simp [seg]
  rw [e, fl_rep (B := [1]) (low := 1) rfl (by decide) p i (by omega), Nat.mod_one] at h3
  exact (Option.some.inj h3).symm
theorem rng_one {p i : Nat} {d : D} (h : (rngD 1 (p : Int))[i]? = some d) : d = .int ((1 + i : Nat) : Int) ∧ 1 + i < p := by
  unfold rngD at h
  rw [List.getElem?_map] at h
  cases e : (List.range ((p : Int) - 1).toNat)[i]? with
  | none =>
    rw [e] at h
    cases h
  | some x =>
    rw [e] at h
    obtain ⟨h1, h2⟩ := List.getElem?_eq_some_iff.mp e
    rw [List.length_range] at h1
    rw [List.getElem_range] at h2
    subst h2
    cases h
    refine ⟨?_, by omega⟩
    exact congrArg PyData.int (show (1 : Int) + (i : Int) = ((1 + i : Nat) : Int) by omega)
theorem seg_take2 (g : Nat → Int) (t : Nat) {s n : Nat} (h : s ≤ n) : (seg g n t).take s = seg g s t := by
  unfold seg
  rw [← List.map_take, List.take_range, Nat.min_eq_left h]
theorem at_last (g : Nat → Int) (t : Nat) {n : Nat} (h : 1 ≤ n) : atI ((seg g n t).map PyData.int) (-1) = some (.int (g (t + (n - 1)))) := by
  unfold atI
  rw [List.length_map, seg_len, show ixN n (-1) = some (n - 1) by simp [ixN]; omega]
  have : (seg g n t)[n - 1]? = some (g (t + (n - 1))) := by
    rw [List.getElem?_eq_getElem (by rw [seg_len]; omega)]
    simp [seg]
  simp [this]
theorem h__law_is_right (ρ : En) (Q : RV → En → Prop) (h : S__law_is_right ρ Q) : t__law_is_right (endsV 2 Q) (ρ ++ List.replicate (7 - 2) .un) := by
  obtain ⟨q, s, p, rfl, n, P, h⟩ := h
  have l := per_len n P
  have p1 := P.pos
  unfold t__law_is_right figD intT
  refine seq_gen fun k hk => ?_
  simp only [VL.wSeq, VL.wNext, VL.wNever, VL.wAsg, VL.wSet, VL.wVar, VL.wFrz, VL.wC, VL.wOp, VL.wTest, VL.wNotT, VL.wAndT, VL.wOrT, VL.wAnd, VL.wOr, VL.wNot, VL.wIf, VL.wNil, VL.wCons, VL.wTup, VL.wLst, VL.wStay, VL.wNew, VL.wPar, VL.wAug, VL.wDrop, VL.wRet, VL.wRetN, VL.wRet0, VL.wIfS, VL.wBrk, VL.wCnt, VL.wGt, VL.wGs, VL.wCB, VL.wCBN, VL.wCall, VL.wCallN, VL.wCallIo, VL.wCallIoN, VL.wCallK, VL.wIsi, VL.wIsi2, VL.wApp, VL.wExt, VL.wIns, VL.wSetIt, VL.wNoPart, VL.wPart, VL.wSl, VL.wSlN, VL.wChain, VL.wNeg, VL.wDnew, VL.wDput, VL.wDget, VL.wDin, VL.wDnin, VL.wIndex, VL.wRev, VL.wParNE, VL.wParEN, VL.wPar3, VL.wYes, VL.wSeqOf, VL.wRng1, VL.wRng2, VL.oI, VL.oI0, VL.oLt, VL.oLe, VL.oGt, VL.oGe, VL.oSub, VL.oMul, VL.oFdiv, VL.oMod, VL.oPow, VL.oShl', VL.oAbs, VL.oMax2, VL.oMin2, VL.oGcd, VL.atI_0, VL.atI_1, VL.atI_2, VL.ixN_20, VL.ixN_21, and_assoc, VL.shp_int, VL.shp_bool, VL.shp_none, VL.eqv_int, VL.eqv_bool, VL.isiD, VL.tyD, String.reduceBEq, Bool.not_true, Bool.not_false, Bool.and_true, Bool.and_false, Bool.true_and, Bool.false_and, Bool.or_true, Bool.or_false, Bool.true_or, Bool.false_or, decide_true, decide_false, Bool.not_eq_true', Bool.not_eq_eq_eq_not, decide_eq_true_eq, decide_eq_false_iff_not, VL.oInt1, VL.oInt2, VL.oLen, VL.oToInt, VL.oAdd, VL.oEq, VL.oNe, VL.oIsN, VL.oIn, VL.itemD, VL.isN, VL.der, VL.ders, VL.dats, VL.ioA, VL.endsV, VL.retE, VL.keepC, Option.map, List.range_succ, List.range_zero, List.map_cons, List.map_nil, List.map_append, List.nil_append, List.cons_append, List.append_nil, List.replicate_zero, List.replicate_succ, List.length_cons, List.length_nil, Nat.sub_self, List.getElem?_cons_zero, List.getElem?_cons_succ, List.set_cons_zero, List.set_cons_succ, Option.some.injEq, exists_eq_left', exists_eq_left, exists_eq_right, exists_and_left, exists_and_right, and_true, true_and, CV.d.injEq, CV.loc.injEq, Cell.lst.injEq, Cell.dat.injEq, Cell.dic.injEq, PyData.int.injEq, PyData.bool.injEq, PyData.list.injEq, PyData.tuple.injEq, PyData.str.injEq, reduceCtorEq, false_and, and_false, exists_false, false_or, or_false, if_true, if_false, reduceIte, Bool.false_eq_true, Nat.reduceAdd, Nat.reduceSub, Nat.succ_sub_succ, Nat.zero_add, VL.gP, List.filterMap_cons, List.filterMap_nil, List.cons.injEq, VL.wDisp0, VL.wDisp, VL.wPairs, VL.oLcm, VL.wPop, VL.wRevM, VL.wClearM, VL.wTupRg, VL.wListRg, VL.wR1, VL.wR2, VL.wRevN, VL.oRepT, VL.oRepL]
  rw [hk]
  clear hk k
  refine seq_gen fun k hk => ?_
  simp only [VL.wSeq, VL.wNext, VL.wNever, VL.wAsg, VL.wSet, VL.wVar, VL.wFrz, VL.wC, VL.wOp, VL.wTest, VL.wNotT, VL.wAndT, VL.wOrT, VL.wAnd, VL.wOr, VL.wNot, VL.wIf, VL.wNil, VL.wCons, VL.wTup, VL.wLst, VL.wStay, VL.wNew, VL.wPar, VL.wAug, VL.wDrop, VL.wRet, VL.wRetN, VL.wRet0, VL.wIfS, VL.wBrk, VL.wCnt, VL.wGt, VL.wGs, VL.wCB, VL.wCBN, VL.wCall, VL.wCallN, VL.wCallIo, VL.wCallIoN, VL.wCallK, VL.wIsi, VL.wIsi2, VL.wApp, VL.wExt, VL.wIns, VL.wSetIt, VL.wNoPart, VL.wPart, VL.wSl, VL.wSlN, VL.wChain, VL.wNeg, VL.wDnew, VL.wDput, VL.wDget, VL.wDin, VL.wDnin, VL.wIndex, VL.wRev, VL.wParNE, VL.wParEN, VL.wPar3, VL.wYes, VL.wSeqOf, VL.wRng1, VL.wRng2, VL.oI, VL.oI0, VL.oLt, VL.oLe, VL.oGt, VL.oGe, VL.oSub, VL.oMul, VL.oFdiv, VL.oMod, VL.oPow, VL.oShl', VL.oAbs, VL.oMax2, VL.oMin2, VL.oGcd, VL.atI_0, VL.atI_1, VL.atI_2, VL.ixN_20, VL.ixN_21, and_assoc, VL.shp_int, VL.shp_bool, VL.shp_none, VL.eqv_int, VL.eqv_bool, VL.isiD, VL.tyD, String.reduceBEq, Bool.not_true, Bool.not_false, Bool.and_true, Bool.and_false, Bool.true_and, Bool.false_and, Bool.or_true, Bool.or_false, Bool.true_or, Bool.false_or, decide_true, decide_false, Bool.not_eq_true', Bool.not_eq_eq_eq_not, decide_eq_true_eq, decide_eq_false_iff_not, VL.oInt1, VL.oInt2, VL.oLen, VL.oToInt, VL.oAdd, VL.oEq, VL.oNe, VL.oIsN, VL.oIn, VL.itemD, VL.isN, VL.der, VL.ders, VL.dats, VL.ioA, VL.endsV, VL.retE, VL.keepC, Option.map, List.range_succ, List.range_zero, List.map_cons, List.map_nil, List.map_append, List.nil_append, List.cons_append, List.append_nil, List.replicate_zero, List.replicate_succ, List.length_cons, List.length_nil, Nat.sub_self, List.getElem?_cons_zero, List.getElem?_cons_succ, List.set_cons_zero, List.set_cons_succ, Option.some.injEq, exists_eq_left', exists_eq_left, exists_eq_right, exists_and_left, exists_and_right, and_true, true_and, CV.d.injEq, CV.loc.injEq, Cell.lst.injEq, Cell.dat.injEq, Cell.dic.injEq, PyData.int.injEq, PyData.bool.injEq, PyData.list.injEq, PyData.tuple.injEq, PyData.str.injEq, reduceCtorEq, false_and, and_false, exists_false, false_or, or_false, if_true, if_false, reduceIte, Bool.false_eq_true, Nat.reduceAdd, Nat.reduceSub, Nat.succ_sub_succ, Nat.zero_add, VL.gP, List.filterMap_cons, List.filterMap_nil, List.cons.injEq, VL.wDisp0, VL.wDisp, VL.wPairs, VL.oLcm, VL.wPop, VL.wRevM, VL.wClearM, VL.wTupRg, VL.wListRg, VL.wR1, VL.wR2, VL.wRevN, VL.oRepT, VL.oRepL, List.length_map, seg_len]
  refine ⟨.inl (.inl ⟨by decide, by decide⟩), ?_⟩
  rw [hk]
  clear hk k
  refine seq_gen fun k hk => ?_
  have eline : List.map PyData.int (seg (fg q.num q.den) s 0) ++ (List.replicate (Int.toNat 4) (List.map PyData.int (seg (fg q.num q.den) p s))).flatten = (seg (fg q.num q.den) (s + 4 * p) 0).map PyData.int := by
    rw [map_flat, seg_rep P, ← List.map_append, seg_add, Nat.zero_add]
    rfl
  have elen := congrArg List.length eline
  rw [List.length_append, List.length_map, List.length_map, seg_len, seg_len] at elen
  simp only [VL.wSeq, VL.wNext, VL.wNever, VL.wAsg, VL.wSet, VL.wVar, VL.wFrz, VL.wC, VL.wOp, VL.wTest, VL.wNotT, VL.wAndT, VL.wOrT, VL.wAnd, VL.wOr, VL.wNot, VL.wIf, VL.wNil, VL.wCons, VL.wTup, VL.wLst, VL.wStay, VL.wNew, VL.wPar, VL.wAug, VL.wDrop, VL.wRet, VL.wRetN, VL.wRet0, VL.wIfS, VL.wBrk, VL.wCnt, VL.wGt, VL.wGs, VL.wCB, VL.wCBN, VL.wCall, VL.wCallN, VL.wCallIo, VL.wCallIoN, VL.wCallK, VL.wIsi, VL.wIsi2, VL.wApp, VL.wExt, VL.wIns, VL.wSetIt, VL.wNoPart, VL.wPart, VL.wSl, VL.wSlN, VL.wChain, VL.wNeg, VL.wDnew, VL.wDput, VL.wDget, VL.wDin, VL.wDnin, VL.wIndex, VL.wRev, VL.wParNE, VL.wParEN, VL.wPar3, VL.wYes, VL.wSeqOf, VL.wRng1, VL.wRng2, VL.oI, VL.oI0, VL.oLt, VL.oLe, VL.oGt, VL.oGe, VL.oSub, VL.oMul, VL.oFdiv, VL.oMod, VL.oPow, VL.oShl', VL.oAbs, VL.oMax2, VL.oMin2, VL.oGcd, VL.atI_0, VL.atI_1, VL.atI_2, VL.ixN_20, VL.ixN_21, and_assoc, VL.shp_int, VL.shp_bool, VL.shp_none, VL.eqv_int, VL.eqv_bool, VL.isiD, VL.tyD, String.reduceBEq, Bool.not_true, Bool.not_false, Bool.and_true, Bool.and_false, Bool.true_and, Bool.false_and, Bool.or_true, Bool.or_false, Bool.true_or, Bool.false_or, decide_true, decide_false, Bool.not_eq_true', Bool.not_eq_eq_eq_not, decide_eq_true_eq, decide_eq_false_iff_not, VL.oInt1, VL.oInt2, VL.oLen, VL.oToInt, VL.oAdd, VL.oEq, VL.oNe, VL.oIsN, VL.oIn, VL.itemD, VL.isN, VL.der, VL.ders, VL.dats, VL.ioA, VL.endsV, VL.retE, VL.keepC, Option.map, List.range_succ, List.range_zero, List.map_cons, List.map_nil, List.map_append, List.nil_append, List.cons_append, List.append_nil, List.replicate_zero, List.replicate_succ, List.length_cons, List.length_nil, Nat.sub_self, List.getElem?_cons_zero, List.getElem?_cons_succ, List.set_cons_zero, List.set_cons_succ, Option.some.injEq, exists_eq_left', exists_eq_left, exists_eq_right, exists_and_left, exists_and_right, and_true, true_and, CV.d.injEq, CV.loc.injEq, Cell.lst.injEq, Cell.dat.injEq, Cell.dic.injEq, PyData.int.injEq, PyData.bool.injEq, PyData.list.injEq, PyData.tuple.injEq, PyData.str.injEq, reduceCtorEq, false_and, and_false, exists_false, false_or, or_false, if_true, if_false, reduceIte, Bool.false_eq_true, Nat.reduceAdd, Nat.reduceSub, Nat.succ_sub_succ, Nat.zero_add, VL.gP, List.filterMap_cons, List.filterMap_nil, List.cons.injEq, VL.wDisp0, VL.wDisp, VL.wPairs, VL.oLcm, VL.wPop, VL.wRevM, VL.wClearM, VL.wTupRg, VL.wListRg, VL.wR1, VL.wR2, VL.wRevN, VL.oRepT, VL.oRepL, List.length_map, seg_len, oSeqN]
  rw [eline, elen]
  refine ⟨by decide, by decide, Nat.le_of_lt (small_size (by show p * 4 ≤ 3000; omega)), Nat.le_of_lt (small_size (by omega)), ?_⟩
  rw [hk]
  clear hk k
  refine seq_gen fun k hk => ?_
  simp only [VL.wSeq, VL.wNext, VL.wNever, VL.wAsg, VL.wSet, VL.wVar, VL.wFrz, VL.wC, VL.wOp, VL.wTest, VL.wNotT, VL.wAndT, VL.wOrT, VL.wAnd, VL.wOr, VL.wNot, VL.wIf, VL.wNil, VL.wCons, VL.wTup, VL.wLst, VL.wStay, VL.wNew, VL.wPar, VL.wAug, VL.wDrop, VL.wRet, VL.wRetN, VL.wRet0, VL.wIfS, VL.wBrk, VL.wCnt, VL.wGt, VL.wGs, VL.wCB, VL.wCBN, VL.wCall, VL.wCallN, VL.wCallIo, VL.wCallIoN, VL.wCallK, VL.wIsi, VL.wIsi2, VL.wApp, VL.wExt, VL.wIns, VL.wSetIt, VL.wNoPart, VL.wPart, VL.wSl, VL.wSlN, VL.wChain, VL.wNeg, VL.wDnew, VL.wDput, VL.wDget, VL.wDin, VL.wDnin, VL.wIndex, VL.wRev, VL.wParNE, VL.wParEN, VL.wPar3, VL.wYes, VL.wSeqOf, VL.wRng1, VL.wRng2, VL.oI, VL.oI0, VL.oLt, VL.oLe, VL.oGt, VL.oGe, VL.oSub, VL.oMul, VL.oFdiv, VL.oMod, VL.oPow, VL.oShl', VL.oAbs, VL.oMax2, VL.oMin2, VL.oGcd, VL.atI_0, VL.atI_1, VL.atI_2, VL.ixN_20, VL.ixN_21, and_assoc, VL.shp_int, VL.shp_bool, VL.shp_none, VL.eqv_int, VL.eqv_bool, VL.isiD, VL.tyD, String.reduceBEq, Bool.not_true, Bool.not_false, Bool.and_true, Bool.and_false, Bool.true_and, Bool.false_and, Bool.or_true, Bool.or_false, Bool.true_or, Bool.false_or, decide_true, decide_false, Bool.not_eq_true', Bool.not_eq_eq_eq_not, decide_eq_true_eq, decide_eq_false_iff_not, VL.oInt1, VL.oInt2, VL.oLen, VL.oToInt, VL.oAdd, VL.oEq, VL.oNe, VL.oIsN, VL.oIn, VL.itemD, VL.isN, VL.der, VL.ders, VL.dats, VL.ioA, VL.endsV, VL.retE, VL.keepC, Option.map, List.range_succ, List.range_zero, List.map_cons, List.map_nil, List.map_append, List.nil_append, List.cons_append, List.append_nil, List.replicate_zero, List.replicate_succ, List.length_cons, List.length_nil, Nat.sub_self, List.getElem?_cons_zero, List.getElem?_cons_succ, List.set_cons_zero, List.set_cons_succ, Option.some.injEq, exists_eq_left', exists_eq_left, exists_eq_right, exists_and_left, exists_and_right, and_true, true_and, CV.d.injEq, CV.loc.injEq, Cell.lst.injEq, Cell.dat.injEq, Cell.dic.injEq, PyData.int.injEq, PyData.bool.injEq, PyData.list.injEq, PyData.tuple.injEq, PyData.str.injEq, reduceCtorEq, false_and, and_false, exists_false, false_or, or_false, if_true, if_false, reduceIte, Bool.false_eq_true, Nat.reduceAdd, Nat.reduceSub, Nat.succ_sub_succ, Nat.zero_add, VL.gP, List.filterMap_cons, List.filterMap_nil, List.cons.injEq, VL.wDisp0, VL.wDisp, VL.wPairs, VL.oLcm, VL.wPop, VL.wRevM, VL.wClearM, VL.wTupRg, VL.wListRg, VL.wR1, VL.wR2, VL.wRevN, VL.oRepT, VL.oRepL, List.length_map, seg_len]
  have emin : (if ((s + 4 * p : Nat) : Int) < (s : Int) + 2 * (p : Int) + 2 then ((s + 4 * p : Nat) : Int) else (s : Int) + 2 * (p : Int) + 2) = ((s + 2 * p + 2 : Nat) : Int) := by
    rw [if_neg (by omega)]
    omega
  rw [emin, cut_lo (by rw [List.length_map, seg_len]; omega), ← List.map_take, seg_take _ (by omega), Int.toNat_natCast]
  have eone : (List.replicate p [PyData.int 1]).flatten = ((List.replicate p [1]).flatten).map PyData.int := map_flat p [1]
  rw [eone]
  unfold S__law_sequence
  refine ⟨q, s + 2 * p + 2, rfl, n, by omega, by omega, ?_⟩
  dsimp only
  rw [eqv_listI, decide_eq_true rfl, eqv_tupI, decide_eq_false (no_ones P)]
  refine ⟨shp_list _, shp_list _, ?_⟩
  rw [if_neg (by simp), if_neg (by simp)]
  refine ⟨by decide, by simp, by decide, by omega, by omega, shp_tup _, shp_tup _, ?_⟩
  rw [hk]
  clear hk k
  refine seq_gen fun k hk => ?_
  have tail : k [.dat (rD q), .dat (figD q.num q.den s p), .dat (.int ((s : Int) + 2 * (p : Int) + 2)), .dat (.list ((seg (fg q.num q.den) (s + 4 * p) 0).map .int)), .un, .dat (.tuple ((seg (fg q.num q.den) s 0).map .int)), .dat (.tuple ((seg (fg q.num q.den) p s).map .int))] := by
    rw [hk]
    clear hk k
    refine seq_gen fun k hk => ?_
    unfold wFor
    simp only [VL.wSeq, VL.wNext, VL.wNever, VL.wAsg, VL.wSet, VL.wVar, VL.wFrz, VL.wC, VL.wOp, VL.wTest, VL.wNotT, VL.wAndT, VL.wOrT, VL.wAnd, VL.wOr, VL.wNot, VL.wIf, VL.wNil, VL.wCons, VL.wTup, VL.wLst, VL.wStay, VL.wNew, VL.wPar, VL.wAug, VL.wDrop, VL.wRet, VL.wRetN, VL.wRet0, VL.wIfS, VL.wBrk, VL.wCnt, VL.wGt, VL.wGs, VL.wCB, VL.wCBN, VL.wCall, VL.wCallN, VL.wCallIo, VL.wCallIoN, VL.wCallK, VL.wIsi, VL.wIsi2, VL.wApp, VL.wExt, VL.wIns, VL.wSetIt, VL.wNoPart, VL.wPart, VL.wSl, VL.wSlN, VL.wChain, VL.wNeg, VL.wDnew, VL.wDput, VL.wDget, VL.wDin, VL.wDnin, VL.wIndex, VL.wRev, VL.wParNE, VL.wParEN, VL.wPar3, VL.wYes, VL.wSeqOf, VL.wRng1, VL.wRng2, VL.oI, VL.oI0, VL.oLt, VL.oLe, VL.oGt, VL.oGe, VL.oSub, VL.oMul, VL.oFdiv, VL.oMod, VL.oPow, VL.oShl', VL.oAbs, VL.oMax2, VL.oMin2, VL.oGcd, VL.atI_0, VL.atI_1, VL.atI_2, VL.ixN_20, VL.ixN_21, and_assoc, VL.shp_int, VL.shp_bool, VL.shp_none, VL.eqv_int, VL.eqv_bool, VL.isiD, VL.tyD, String.reduceBEq, Bool.not_true, Bool.not_false, Bool.and_true, Bool.and_false, Bool.true_and, Bool.false_and, Bool.or_true, Bool.or_false, Bool.true_or, Bool.false_or, decide_true, decide_false, Bool.not_eq_true', Bool.not_eq_eq_eq_not, decide_eq_true_eq, decide_eq_false_iff_not, VL.oInt1, VL.oInt2, VL.oLen, VL.oToInt, VL.oAdd, VL.oEq, VL.oNe, VL.oIsN, VL.oIn, VL.itemD, VL.isN, VL.der, VL.ders, VL.dats, VL.ioA, VL.endsV, VL.retE, VL.keepC, Option.map, List.range_succ, List.range_zero, List.map_cons, List.map_nil, List.map_append, List.nil_append, List.cons_append, List.append_nil, List.replicate_zero, List.replicate_succ, List.length_cons, List.length_nil, Nat.sub_self, List.getElem?_cons_zero, List.getElem?_cons_succ, List.set_cons_zero, List.set_cons_succ, Option.some.injEq, exists_eq_left', exists_eq_left, exists_eq_right, exists_and_left, exists_and_right, and_true, true_and, CV.d.injEq, CV.loc.injEq, Cell.lst.injEq, Cell.dat.injEq, Cell.dic.injEq, PyData.int.injEq, PyData.bool.injEq, PyData.list.injEq, PyData.tuple.injEq, PyData.str.injEq, reduceCtorEq, false_and, and_false, exists_false, false_or, or_false, if_true, if_false, reduceIte, Bool.false_eq_true, Nat.reduceAdd, Nat.reduceSub, Nat.succ_sub_succ, Nat.zero_add, VL.gP, List.filterMap_cons, List.filterMap_nil, List.cons.injEq, VL.wDisp0, VL.wDisp, VL.wPairs, VL.oLcm, VL.wPop, VL.wRevM, VL.wClearM, VL.wTupRg, VL.wListRg, VL.wR1, VL.wR2, VL.wRevN, VL.oRepT, VL.oRepL, List.length_map, seg_len]
    refine ⟨⟨by decide, by decide⟩, ⟨by omega, by omega⟩, fun i ρ => ∃ c, ρ = [.dat (rD q), .dat (figD q.num q.den s p), .dat (.int ((s : Int) + 2 * (p : Int) + 2)), .dat (.list ((seg (fg q.num q.den) (s + 4 * p) 0).map .int)), c, .dat (.tuple ((seg (fg q.num q.den) s 0).map .int)), .dat (.tuple ((seg (fg q.num q.den) p s).map .int))], ⟨_, rfl⟩, ?_, ?_⟩
    · rintro i ρ d ⟨c, rfl⟩ hx
      obtain ⟨rfl, hi⟩ := rng_one hx
      simp only [VL.wSeq, VL.wNext, VL.wNever, VL.wAsg, VL.wSet, VL.wVar, VL.wFrz, VL.wC, VL.wOp, VL.wTest, VL.wNotT, VL.wAndT, VL.wOrT, VL.wAnd, VL.wOr, VL.wNot, VL.wIf, VL.wNil, VL.wCons, VL.wTup, VL.wLst, VL.wStay, VL.wNew, VL.wPar, VL.wAug, VL.wDrop, VL.wRet, VL.wRetN, VL.wRet0, VL.wIfS, VL.wBrk, VL.wCnt, VL.wGt, VL.wGs, VL.wCB, VL.wCBN, VL.wCall, VL.wCallN, VL.wCallIo, VL.wCallIoN, VL.wCallK, VL.wIsi, VL.wIsi2, VL.wApp, VL.wExt, VL.wIns, VL.wSetIt, VL.wNoPart, VL.wPart, VL.wSl, VL.wSlN, VL.wChain, VL.wNeg, VL.wDnew, VL.wDput, VL.wDget, VL.wDin, VL.wDnin, VL.wIndex, VL.wRev, VL.wParNE, VL.wParEN, VL.wPar3, VL.wYes, VL.wSeqOf, VL.wRng1, VL.wRng2, VL.oI, VL.oI0, VL.oLt, VL.oLe, VL.oGt, VL.oGe, VL.oSub, VL.oMul, VL.oFdiv, VL.oMod, VL.oPow, VL.oShl', VL.oAbs, VL.oMax2, VL.oMin2, VL.oGcd, VL.atI_0, VL.atI_1, VL.atI_2, VL.ixN_20, VL.ixN_21, and_assoc, VL.shp_int, VL.shp_bool, VL.shp_none, VL.eqv_int, VL.eqv_bool, VL.isiD, VL.tyD, String.reduceBEq, Bool.not_true, Bool.not_false, Bool.and_true, Bool.and_false, Bool.true_and, Bool.false_and, Bool.or_true, Bool.or_false, Bool.true_or, Bool.false_or, decide_true, decide_false, Bool.not_eq_true', Bool.not_eq_eq_eq_not, decide_eq_true_eq, decide_eq_false_iff_not, VL.oInt1, VL.oInt2, VL.oLen, VL.oToInt, VL.oAdd, VL.oEq, VL.oNe, VL.oIsN, VL.oIn, VL.itemD, VL.isN, VL.der, VL.ders, VL.dats, VL.ioA, VL.endsV, VL.retE, VL.keepC, Option.map, List.range_succ, List.range_zero, List.map_cons, List.map_nil, List.map_append, List.nil_append, List.cons_append, List.append_nil, List.replicate_zero, List.replicate_succ, List.length_cons, List.length_nil, Nat.sub_self, List.getElem?_cons_zero, List.getElem?_cons_succ, List.set_cons_zero, List.set_cons_succ, Option.some.injEq, exists_eq_left', exists_eq_left, exists_eq_right, exists_and_left, exists_and_right, and_true, true_and, CV.d.injEq, CV.loc.injEq, Cell.lst.injEq, Cell.dat.injEq, Cell.dic.injEq, PyData.int.injEq, PyData.bool.injEq, PyData.list.injEq, PyData.tuple.injEq, PyData.str.injEq, reduceCtorEq, false_and, and_false, exists_false, false_or, or_false, if_true, if_false, reduceIte, Bool.false_eq_true, Nat.reduceAdd, Nat.reduceSub, Nat.succ_sub_succ, Nat.zero_add, VL.gP, List.filterMap_cons, List.filterMap_nil, List.cons.injEq, VL.wDisp0, VL.wDisp, VL.wPairs, VL.oLcm, VL.wPop, VL.wRevM, VL.wClearM, VL.wTupRg, VL.wListRg, VL.wR1, VL.wR2, VL.wRevN, VL.oRepT, VL.oRepL, List.length_map, seg_len]
      refine ⟨by omega, ?_⟩
      have e1 : (p : Int).fmod ((1 + i : Nat) : Int) = ((p % (1 + i) : Nat) : Int) := by
        rw [Int.fmod_eq_emod_of_nonneg _ (by omega), Int.natCast_emod]
      have e2 : (p : Int).fdiv ((1 + i : Nat) : Int) = ((p / (1 + i) : Nat) : Int) := by
        rw [Int.fdiv_eq_ediv_of_nonneg _ (by omega), Int.natCast_ediv]
      rw [e1, e2, cut_lo (by rw [List.length_map, seg_len]; omega), ← List.map_take, seg_take2 _ _ (by omega), Int.toNat_natCast, map_flat]
      by_cases e : ((p % (1 + i) : Nat) : Int) = 0
      · rw [if_pos e]
        have e3 : p = p / (1 + i) * (1 + i) := by
          have := Nat.div_add_mod p (1 + i)
          rw [Nat.mul_comm] at this
          omega
        have e4 : 1 ≤ p / (1 + i) := Nat.div_pos (by omega) (by omega)
        have e5 : p / (1 + i) ≤ p := Nat.div_le_self _ _
        rw [eqv_tupI, decide_eq_false (no_low P (by omega) hi e3), if_neg (by simp)]
        refine ⟨cdv_pos (by omega) (small_bd (by omega) (by omega)), fun z => ?_, by rw [List.length_map, seg_len]; omega, by omega, by omega, shp_tup _, shp_tup _, _, rfl⟩
        have := congrArg List.length z
        rw [List.length_map, seg_len] at this
        simp at this
      · rw [if_neg e]
        exact ⟨_, rfl⟩
    · rintro ρ ⟨c, rfl⟩
      rw [hk]
      simp only [VL.wSeq, VL.wNext, VL.wNever, VL.wAsg, VL.wSet, VL.wVar, VL.wFrz, VL.wC, VL.wOp, VL.wTest, VL.wNotT, VL.wAndT, VL.wOrT, VL.wAnd, VL.wOr, VL.wNot, VL.wIf, VL.wNil, VL.wCons, VL.wTup, VL.wLst, VL.wStay, VL.wNew, VL.wPar, VL.wAug, VL.wDrop, VL.wRet, VL.wRetN, VL.wRet0, VL.wIfS, VL.wBrk, VL.wCnt, VL.wGt, VL.wGs, VL.wCB, VL.wCBN, VL.wCall, VL.wCallN, VL.wCallIo, VL.wCallIoN, VL.wCallK, VL.wIsi, VL.wIsi2, VL.wApp, VL.wExt, VL.wIns, VL.wSetIt, VL.wNoPart, VL.wPart, VL.wSl, VL.wSlN, VL.wChain, VL.wNeg, VL.wDnew, VL.wDput, VL.wDget, VL.wDin, VL.wDnin, VL.wIndex, VL.wRev, VL.wParNE, VL.wParEN, VL.wPar3, VL.wYes, VL.wSeqOf, VL.wRng1, VL.wRng2, VL.oI, VL.oI0, VL.oLt, VL.oLe, VL.oGt, VL.oGe, VL.oSub, VL.oMul, VL.oFdiv, VL.oMod, VL.oPow, VL.oShl', VL.oAbs, VL.oMax2, VL.oMin2, VL.oGcd, VL.atI_0, VL.atI_1, VL.atI_2, VL.ixN_20, VL.ixN_21, and_assoc, VL.shp_int, VL.shp_bool, VL.shp_none, VL.eqv_int, VL.eqv_bool, VL.isiD, VL.tyD, String.reduceBEq, Bool.not_true, Bool.not_false, Bool.and_true, Bool.and_false, Bool.true_and, Bool.false_and, Bool.or_true, Bool.or_false, Bool.true_or, Bool.false_or, decide_true, decide_false, Bool.not_eq_true', Bool.not_eq_eq_eq_not, decide_eq_true_eq, decide_eq_false_iff_not, VL.oInt1, VL.oInt2, VL.oLen, VL.oToInt, VL.oAdd, VL.oEq, VL.oNe, VL.oIsN, VL.oIn, VL.itemD, VL.isN, VL.der, VL.ders, VL.dats, VL.ioA, VL.endsV, VL.retE, VL.keepC, Option.map, List.range_succ, List.range_zero, List.map_cons, List.map_nil, List.map_append, List.nil_append, List.cons_append, List.append_nil, List.replicate_zero, List.replicate_succ, List.length_cons, List.length_nil, Nat.sub_self, List.getElem?_cons_zero, List.getElem?_cons_succ, List.set_cons_zero, List.set_cons_succ, Option.some.injEq, exists_eq_left', exists_eq_left, exists_eq_right, exists_and_left, exists_and_right, and_true, true_and, CV.d.injEq, CV.loc.injEq, Cell.lst.injEq, Cell.dat.injEq, Cell.dic.injEq, PyData.int.injEq, PyData.bool.injEq, PyData.list.injEq, PyData.tuple.injEq, PyData.str.injEq, reduceCtorEq, false_and, and_false, exists_false, false_or, or_false, if_true, if_false, reduceIte, Bool.false_eq_true, Nat.reduceAdd, Nat.reduceSub, Nat.succ_sub_succ, Nat.zero_add, VL.gP, List.filterMap_cons, List.filterMap_nil, List.cons.injEq, VL.wDisp0, VL.wDisp, VL.wPairs, VL.oLcm, VL.wPop, VL.wRevM, VL.wClearM, VL.wTupRg, VL.wListRg, VL.wR1, VL.wR2, VL.wRevN, VL.oRepT, VL.oRepL]
      exact h
  clear hk
  unfold figD intT at tail
  simp only [VL.wSeq, VL.wNext, VL.wNever, VL.wAsg, VL.wSet, VL.wVar, VL.wFrz, VL.wC, VL.wOp, VL.wTest, VL.wNotT, VL.wAndT, VL.wOrT, VL.wAnd, VL.wOr, VL.wNot, VL.wIf, VL.wNil, VL.wCons, VL.wTup, VL.wLst, VL.wStay, VL.wNew, VL.wPar, VL.wAug, VL.wDrop, VL.wRet, VL.wRetN, VL.wRet0, VL.wIfS, VL.wBrk, VL.wCnt, VL.wGt, VL.wGs, VL.wCB, VL.wCBN, VL.wCall, VL.wCallN, VL.wCallIo, VL.wCallIoN, VL.wCallK, VL.wIsi, VL.wIsi2, VL.wApp, VL.wExt, VL.wIns, VL.wSetIt, VL.wNoPart, VL.wPart, VL.wSl, VL.wSlN, VL.wChain, VL.wNeg, VL.wDnew, VL.wDput, VL.wDget, VL.wDin, VL.wDnin, VL.wIndex, VL.wRev, VL.wParNE, VL.wParEN, VL.wPar3, VL.wYes, VL.wSeqOf, VL.wRng1, VL.wRng2, VL.oI, VL.oI0, VL.oLt, VL.oLe, VL.oGt, VL.oGe, VL.oSub, VL.oMul, VL.oFdiv, VL.oMod, VL.oPow, VL.oShl', VL.oAbs, VL.oMax2, VL.oMin2, VL.oGcd, VL.atI_0, VL.atI_1, VL.atI_2, VL.ixN_20, VL.ixN_21, and_assoc, VL.shp_int, VL.shp_bool, VL.shp_none, VL.eqv_int, VL.eqv_bool, VL.isiD, VL.tyD, String.reduceBEq, Bool.not_true, Bool.not_false, Bool.and_true, Bool.and_false, Bool.true_and, Bool.false_and, Bool.or_true, Bool.or_false, Bool.true_or, Bool.false_or, decide_true, decide_false, Bool.not_eq_true', Bool.not_eq_eq_eq_not, decide_eq_true_eq, decide_eq_false_iff_not, VL.oInt1, VL.oInt2, VL.oLen, VL.oToInt, VL.oAdd, VL.oEq, VL.oNe, VL.oIsN, VL.oIn, VL.itemD, VL.isN, VL.der, VL.ders, VL.dats, VL.ioA, VL.endsV, VL.retE, VL.keepC, Option.map, List.range_succ, List.range_zero, List.map_cons, List.map_nil, List.map_append, List.nil_append, List.cons_append, List.append_nil, List.replicate_zero, List.replicate_succ, List.length_cons, List.length_nil, Nat.sub_self, List.getElem?_cons_zero, List.getElem?_cons_succ, List.set_cons_zero, List.set_cons_succ, Option.some.injEq, exists_eq_left', exists_eq_left, exists_eq_right, exists_and_left, exists_and_right, and_true, true_and, CV.d.injEq, CV.loc.injEq, Cell.lst.injEq, Cell.dat.injEq, Cell.dic.injEq, PyData.int.injEq, PyData.bool.injEq, PyData.list.injEq, PyData.tuple.injEq, PyData.str.injEq, reduceCtorEq, false_and, and_false, exists_false, false_or, or_false, if_true, if_false, reduceIte, Bool.false_eq_true, Nat.reduceAdd, Nat.reduceSub, Nat.succ_sub_succ, Nat.zero_add, VL.gP, List.filterMap_cons, List.filterMap_nil, List.cons.injEq, VL.wDisp0, VL.wDisp, VL.wPairs, VL.oLcm, VL.wPop, VL.wRevM, VL.wClearM, VL.wTupRg, VL.wListRg, VL.wR1, VL.wR2, VL.wRevN, VL.oRepT, VL.oRepL]
  refine ⟨by decide, shp_tup _, shp_tup [], ?_⟩
  rw [show PyData.eqv (.tuple ((seg (fg q.num q.den) s 0).map .int)) (.tuple []) = decide (seg (fg q.num q.den) s 0 = []) from eqv_tupI _ []]
  by_cases hs : s = 0
  · rw [decide_eq_true (by rw [hs]; rfl), if_neg (by simp)]
    exact tail
  · rw [decide_eq_false (fun z => hs (by have := congrArg List.length z; rw [seg_len] at this; exact this)), if_pos rfl]
    refine ⟨_, at_last _ _ (by omega), _, at_last _ _ (by omega), rfl, rfl, ?_⟩
    have ne : fg q.num q.den (0 + (s - 1)) ≠ fg q.num q.den (s + (p - 1)) := by
      obtain ⟨s', rfl⟩ : ∃ s', s = s' + 1 := ⟨s - 1, by omega⟩
      have := per_last P
      rw [show 0 + (s' + 1 - 1) = s' by omega, show s' + 1 + (p - 1) = s' + p by omega]
      exact this
    rw [eqv_int, decide_eq_false ne, if_neg (by simp)]
    exact tail
end K03

end

/-! #### K03U -/
section
set_option autoImplicit false
set_option maxRecDepth 100000
set_option maxHeartbeats 2000000
set_option exponentiation.threshold 5000
namespace K03
open PySem PySem.Spec PyProof.Rows L2 VL
theorem per_uniq {a b : Int} {s p s' p' : Nat} (P : Per a b s p) (P' : Per a b s' p') : s' = s ∧ p' = p := by
  have p1 := P.pos
  have p2 := P'.pos
  have e : s' + p' = s + p := by
    by_cases l : s' + p' < s + p
    · exact (P.inj s' (s' + p') (by omega) l P'.rep.symm).elim
    · by_cases l2 : s + p < s' + p'
      · exact (P'.inj s (s + p) (by omega) l2 P.rep.symm).elim
      · omega
  have h : tp a b s' = tp a b s := by rw [← P'.rep, e, P.rep]
  have es : s' = s := by
    by_cases l : s' < s
    · exact (P.inj s' s l (by omega) h).elim
    · by_cases l2 : s < s'
      · exact (P'.inj s s' l2 (by omega) h.symm).elim
      · omega
  omega
theorem ok_rD (j : Nat) (q : Rat) : Ok (j + 2) (rD q) := .tup (j + 1) _ (show 2 ≤ 300 by decide) fun d hd => by
  simp only [List.mem_cons, List.not_mem_nil, or_false] at hd
  rcases hd with rfl | rfl
  · exact .int j _
  · exact .int j _
theorem ok_intT (j : Nat) {ns : List Int} (h : ns.length ≤ 300) : Ok (j + 2) (intT ns) := .tup (j + 1) _ (by rw [List.length_map]; exact h) fun d hd => by
  obtain ⟨x, _, rfl⟩ := List.mem_map.mp hd
  exact .int j x
theorem ok_figD (j : Nat) {a b : Int} {s p : Nat} (l : s + p ≤ 201) : Ok (j + 3) (figD a b s p) := .tup (j + 2) _ (show 2 ≤ 300 by decide) fun d hd => by
  simp only [List.mem_cons, List.not_mem_nil, or_false] at hd
  rcases hd with rfl | rfl
  · exact ok_intT j (by rw [seg_len]; omega)
  · exact ok_intT j (by rw [seg_len]; omega)
theorem for_body {wi : WN} {g : WG} {tb : WS} {w : WEn} {ρ : En} (h : ∀ B : WS, (∀ w' ρ', B w' ρ' = tb w' ρ') → wFor wi g B w ρ) : wFor wi g tb w ρ := h tb fun _ _ => rfl
theorem h_law (ρ : En) (Q : RV → En → Prop) (h : S_law ρ Q) : t_law (endsV 1 Q) (ρ ++ List.replicate (6 - 1) .un) := by
  obtain ⟨ns, rfl, hl, h⟩ := h
  unfold t_law
  refine seq_gen fun k hk => ?_
  unfold intL
  refine for_body fun B hB => ?_
  unfold wFor
  simp only [VL.wSeq, VL.wNext, VL.wNever, VL.wAsg, VL.wSet, VL.wVar, VL.wFrz, VL.wC, VL.wOp, VL.wTest, VL.wNotT, VL.wAndT, VL.wOrT, VL.wAnd, VL.wOr, VL.wNot, VL.wIf, VL.wNil, VL.wCons, VL.wTup, VL.wLst, VL.wStay, VL.wNew, VL.wPar, VL.wAug, VL.wDrop, VL.wRet, VL.wRetN, VL.wRet0, VL.wIfS, VL.wBrk, VL.wCnt, VL.wGt, VL.wGs, VL.wCB, VL.wCBN, VL.wCall, VL.wCallN, VL.wCallIo, VL.wCallIoN, VL.wCallK, VL.wIsi, VL.wIsi2, VL.wApp, VL.wExt, VL.wIns, VL.wSetIt, VL.wNoPart, VL.wPart, VL.wSl, VL.wSlN, VL.wChain, VL.wNeg, VL.wDnew, VL.wDput, VL.wDget, VL.wDin, VL.wDnin, VL.wIndex, VL.wRev, VL.wParNE, VL.wParEN, VL.wPar3, VL.wYes, VL.wSeqOf, VL.wRng1, VL.wRng2, VL.oI, VL.oI0, VL.oLt, VL.oLe, VL.oGt, VL.oGe, VL.oSub, VL.oMul, VL.oFdiv, VL.oMod, VL.oPow, VL.oShl', VL.oAbs, VL.oMax2, VL.oMin2, VL.oGcd, VL.atI_0, VL.atI_1, VL.atI_2, VL.ixN_20, VL.ixN_21, and_assoc, VL.shp_int, VL.shp_bool, VL.shp_none, VL.eqv_int, VL.eqv_bool, VL.isiD, VL.tyD, String.reduceBEq, Bool.not_true, Bool.not_false, Bool.and_true, Bool.and_false, Bool.true_and, Bool.false_and, Bool.or_true, Bool.or_false, Bool.true_or, Bool.false_or, decide_true, decide_false, Bool.not_eq_true', Bool.not_eq_eq_eq_not, decide_eq_true_eq, decide_eq_false_iff_not, VL.oInt1, VL.oInt2, VL.oLen, VL.oToInt, VL.oAdd, VL.oEq, VL.oNe, VL.oIsN, VL.oIn, VL.itemD, VL.isN, VL.der, VL.ders, VL.dats, VL.ioA, VL.endsV, VL.retE, VL.keepC, Option.map, List.range_succ, List.range_zero, List.map_cons, List.map_nil, List.map_append, List.nil_append, List.cons_append, List.append_nil, List.replicate_zero, List.replicate_succ, List.length_cons, List.length_nil, Nat.sub_self, List.getElem?_cons_zero, List.getElem?_cons_succ, List.set_cons_zero, List.set_cons_succ, Option.some.injEq, exists_eq_left', exists_eq_left, exists_eq_right, exists_and_left, exists_and_right, and_true, true_and, CV.d.injEq, CV.loc.injEq, Cell.lst.injEq, Cell.dat.injEq, Cell.dic.injEq, PyData.int.injEq, PyData.bool.injEq, PyData.list.injEq, PyData.tuple.injEq, PyData.str.injEq, reduceCtorEq, false_and, and_false, exists_false, false_or, or_false, if_true, if_false, reduceIte, Bool.false_eq_true, Nat.reduceAdd, Nat.reduceSub, Nat.succ_sub_succ, Nat.zero_add, VL.gP, List.filterMap_cons, List.filterMap_nil, List.cons.injEq, VL.wDisp0, VL.wDisp, VL.wPairs, VL.oLcm, VL.wPop, VL.wRevM, VL.wClearM, VL.wTupRg, VL.wListRg, VL.wR1, VL.wR2, VL.wRevN, VL.oRepT, VL.oRepL, List.length_map]
  obtain ⟨m, hm⟩ : ∃ m : Nat, (if (if (12 : Int) < (ns.length : Int) then 12 else (ns.length : Int)) > 2 then (if (12 : Int) < (ns.length : Int) then 12 else (ns.length : Int)) else 2) = (m : Int) ∧ m ≤ 100 := by
    refine ⟨(if (if (12 : Int) < (ns.length : Int) then 12 else (ns.length : Int)) > 2 then (if (12 : Int) < (ns.length : Int) then 12 else (ns.length : Int)) else 2).toNat, ?_, ?_⟩ <;> (repeat' split) <;> omega
  rw [hm.1]
  have hm2 := hm.2
  refine ⟨⟨by omega, by omega⟩, fun i ρ => ∃ c1 c2 c3 c4 c5, ρ = [.dat (.list (ns.map .int)), c1, c2, c3, c4, c5], ⟨_, _, _, _, _, rfl⟩, ?_, ?_⟩
  · rintro i ρ d ⟨c1, c2, c3, c4, c5, rfl⟩ hx
    obtain ⟨rfl, _⟩ := rng_at hx
    simp only [VL.wSeq, VL.wNext, VL.wNever, VL.wAsg, VL.wSet, VL.wVar, VL.wFrz, VL.wC, VL.wOp, VL.wTest, VL.wNotT, VL.wAndT, VL.wOrT, VL.wAnd, VL.wOr, VL.wNot, VL.wIf, VL.wNil, VL.wCons, VL.wTup, VL.wLst, VL.wStay, VL.wNew, VL.wPar, VL.wAug, VL.wDrop, VL.wRet, VL.wRetN, VL.wRet0, VL.wIfS, VL.wBrk, VL.wCnt, VL.wGt, VL.wGs, VL.wCB, VL.wCBN, VL.wCall, VL.wCallN, VL.wCallIo, VL.wCallIoN, VL.wCallK, VL.wIsi, VL.wIsi2, VL.wApp, VL.wExt, VL.wIns, VL.wSetIt, VL.wNoPart, VL.wPart, VL.wSl, VL.wSlN, VL.wChain, VL.wNeg, VL.wDnew, VL.wDput, VL.wDget, VL.wDin, VL.wDnin, VL.wIndex, VL.wRev, VL.wParNE, VL.wParEN, VL.wPar3, VL.wYes, VL.wSeqOf, VL.wRng1, VL.wRng2, VL.oI, VL.oI0, VL.oLt, VL.oLe, VL.oGt, VL.oGe, VL.oSub, VL.oMul, VL.oFdiv, VL.oMod, VL.oPow, VL.oShl', VL.oAbs, VL.oMax2, VL.oMin2, VL.oGcd, VL.atI_0, VL.atI_1, VL.atI_2, VL.ixN_20, VL.ixN_21, and_assoc, VL.shp_int, VL.shp_bool, VL.shp_none, VL.eqv_int, VL.eqv_bool, VL.isiD, VL.tyD, String.reduceBEq, Bool.not_true, Bool.not_false, Bool.and_true, Bool.and_false, Bool.true_and, Bool.false_and, Bool.or_true, Bool.or_false, Bool.true_or, Bool.false_or, decide_true, decide_false, Bool.not_eq_true', Bool.not_eq_eq_eq_not, decide_eq_true_eq, decide_eq_false_iff_not, VL.oInt1, VL.oInt2, VL.oLen, VL.oToInt, VL.oAdd, VL.oEq, VL.oNe, VL.oIsN, VL.oIn, VL.itemD, VL.isN, VL.der, VL.ders, VL.dats, VL.ioA, VL.endsV, VL.retE, VL.keepC, Option.map, List.range_succ, List.range_zero, List.map_cons, List.map_nil, List.map_append, List.nil_append, List.cons_append, List.append_nil, List.replicate_zero, List.replicate_succ, List.length_cons, List.length_nil, Nat.sub_self, List.getElem?_cons_zero, List.getElem?_cons_succ, List.set_cons_zero, List.set_cons_succ, Option.some.injEq, exists_eq_left', exists_eq_left, exists_eq_right, exists_and_left, exists_and_right, and_true, true_and, CV.d.injEq, CV.loc.injEq, Cell.lst.injEq, Cell.dat.injEq, Cell.dic.injEq, PyData.int.injEq, PyData.bool.injEq, PyData.list.injEq, PyData.tuple.injEq, PyData.str.injEq, reduceCtorEq, false_and, and_false, exists_false, false_or, or_false, if_true, if_false, reduceIte, Bool.false_eq_true, Nat.reduceAdd, Nat.reduceSub, Nat.succ_sub_succ, Nat.zero_add, VL.gP, List.filterMap_cons, List.filterMap_nil, List.cons.injEq, VL.wDisp0, VL.wDisp, VL.wPairs, VL.oLcm, VL.wPop, VL.wRevM, VL.wClearM, VL.wTupRg, VL.wListRg, VL.wR1, VL.wR2, VL.wRevN, VL.oRepT, VL.oRepL]
    rw [hB]
    refine seq_gen fun k2 hk2 => ?_
    simp only [VL.wSeq, VL.wNext, VL.wNever, VL.wAsg, VL.wSet, VL.wVar, VL.wFrz, VL.wC, VL.wOp, VL.wTest, VL.wNotT, VL.wAndT, VL.wOrT, VL.wAnd, VL.wOr, VL.wNot, VL.wIf, VL.wNil, VL.wCons, VL.wTup, VL.wLst, VL.wStay, VL.wNew, VL.wPar, VL.wAug, VL.wDrop, VL.wRet, VL.wRetN, VL.wRet0, VL.wIfS, VL.wBrk, VL.wCnt, VL.wGt, VL.wGs, VL.wCB, VL.wCBN, VL.wCall, VL.wCallN, VL.wCallIo, VL.wCallIoN, VL.wCallK, VL.wIsi, VL.wIsi2, VL.wApp, VL.wExt, VL.wIns, VL.wSetIt, VL.wNoPart, VL.wPart, VL.wSl, VL.wSlN, VL.wChain, VL.wNeg, VL.wDnew, VL.wDput, VL.wDget, VL.wDin, VL.wDnin, VL.wIndex, VL.wRev, VL.wParNE, VL.wParEN, VL.wPar3, VL.wYes, VL.wSeqOf, VL.wRng1, VL.wRng2, VL.oI, VL.oI0, VL.oLt, VL.oLe, VL.oGt, VL.oGe, VL.oSub, VL.oMul, VL.oFdiv, VL.oMod, VL.oPow, VL.oShl', VL.oAbs, VL.oMax2, VL.oMin2, VL.oGcd, VL.atI_0, VL.atI_1, VL.atI_2, VL.ixN_20, VL.ixN_21, and_assoc, VL.shp_int, VL.shp_bool, VL.shp_none, VL.eqv_int, VL.eqv_bool, VL.isiD, VL.tyD, String.reduceBEq, Bool.not_true, Bool.not_false, Bool.and_true, Bool.and_false, Bool.true_and, Bool.false_and, Bool.or_true, Bool.or_false, Bool.true_or, Bool.false_or, decide_true, decide_false, Bool.not_eq_true', Bool.not_eq_eq_eq_not, decide_eq_true_eq, decide_eq_false_iff_not, VL.oInt1, VL.oInt2, VL.oLen, VL.oToInt, VL.oAdd, VL.oEq, VL.oNe, VL.oIsN, VL.oIn, VL.itemD, VL.isN, VL.der, VL.ders, VL.dats, VL.ioA, VL.endsV, VL.retE, VL.keepC, Option.map, List.range_succ, List.range_zero, List.map_cons, List.map_nil, List.map_append, List.nil_append, List.cons_append, List.append_nil, List.replicate_zero, List.replicate_succ, List.length_cons, List.length_nil, Nat.sub_self, List.getElem?_cons_zero, List.getElem?_cons_succ, List.set_cons_zero, List.set_cons_succ, Option.some.injEq, exists_eq_left', exists_eq_left, exists_eq_right, exists_and_left, exists_and_right, and_true, true_and, CV.d.injEq, CV.loc.injEq, Cell.lst.injEq, Cell.dat.injEq, Cell.dic.injEq, PyData.int.injEq, PyData.bool.injEq, PyData.list.injEq, PyData.tuple.injEq, PyData.str.injEq, reduceCtorEq, false_and, and_false, exists_false, false_or, or_false, if_true, if_false, reduceIte, Bool.false_eq_true, Nat.reduceAdd, Nat.reduceSub, Nat.succ_sub_succ, Nat.zero_add, VL.gP, List.filterMap_cons, List.filterMap_nil, List.cons.injEq, VL.wDisp0, VL.wDisp, VL.wPairs, VL.oLcm, VL.wPop, VL.wRevM, VL.wClearM, VL.wTupRg, VL.wListRg, VL.wR1, VL.wR2, VL.wRevN, VL.oRepT, VL.oRepL, S__law_deck]
    refine ⟨⟨ns, rfl⟩, ⟨i, rfl⟩, fun a b => ?_⟩
    refine ⟨by decide, ?_⟩
    rw [hk2]
    clear hk2 k2
    refine for_body fun B hB => ?_
    unfold wFor
    simp only [VL.wSeq, VL.wNext, VL.wNever, VL.wAsg, VL.wSet, VL.wVar, VL.wFrz, VL.wC, VL.wOp, VL.wTest, VL.wNotT, VL.wAndT, VL.wOrT, VL.wAnd, VL.wOr, VL.wNot, VL.wIf, VL.wNil, VL.wCons, VL.wTup, VL.wLst, VL.wStay, VL.wNew, VL.wPar, VL.wAug, VL.wDrop, VL.wRet, VL.wRetN, VL.wRet0, VL.wIfS, VL.wBrk, VL.wCnt, VL.wGt, VL.wGs, VL.wCB, VL.wCBN, VL.wCall, VL.wCallN, VL.wCallIo, VL.wCallIoN, VL.wCallK, VL.wIsi, VL.wIsi2, VL.wApp, VL.wExt, VL.wIns, VL.wSetIt, VL.wNoPart, VL.wPart, VL.wSl, VL.wSlN, VL.wChain, VL.wNeg, VL.wDnew, VL.wDput, VL.wDget, VL.wDin, VL.wDnin, VL.wIndex, VL.wRev, VL.wParNE, VL.wParEN, VL.wPar3, VL.wYes, VL.wSeqOf, VL.wRng1, VL.wRng2, VL.oI, VL.oI0, VL.oLt, VL.oLe, VL.oGt, VL.oGe, VL.oSub, VL.oMul, VL.oFdiv, VL.oMod, VL.oPow, VL.oShl', VL.oAbs, VL.oMax2, VL.oMin2, VL.oGcd, VL.atI_0, VL.atI_1, VL.atI_2, VL.ixN_20, VL.ixN_21, and_assoc, VL.shp_int, VL.shp_bool, VL.shp_none, VL.eqv_int, VL.eqv_bool, VL.isiD, VL.tyD, String.reduceBEq, Bool.not_true, Bool.not_false, Bool.and_true, Bool.and_false, Bool.true_and, Bool.false_and, Bool.or_true, Bool.or_false, Bool.true_or, Bool.false_or, decide_true, decide_false, Bool.not_eq_true', Bool.not_eq_eq_eq_not, decide_eq_true_eq, decide_eq_false_iff_not, VL.oInt1, VL.oInt2, VL.oLen, VL.oToInt, VL.oAdd, VL.oEq, VL.oNe, VL.oIsN, VL.oIn, VL.itemD, VL.isN, VL.der, VL.ders, VL.dats, VL.ioA, VL.endsV, VL.retE, VL.keepC, Option.map, List.range_succ, List.range_zero, List.map_cons, List.map_nil, List.map_append, List.nil_append, List.cons_append, List.append_nil, List.replicate_zero, List.replicate_succ, List.length_cons, List.length_nil, Nat.sub_self, List.getElem?_cons_zero, List.getElem?_cons_succ, List.set_cons_zero, List.set_cons_succ, Option.some.injEq, exists_eq_left', exists_eq_left, exists_eq_right, exists_and_left, exists_and_right, and_true, true_and, CV.d.injEq, CV.loc.injEq, Cell.lst.injEq, Cell.dat.injEq, Cell.dic.injEq, PyData.int.injEq, PyData.bool.injEq, PyData.list.injEq, PyData.tuple.injEq, PyData.str.injEq, reduceCtorEq, false_and, and_false, exists_false, false_or, or_false, if_true, if_false, reduceIte, Bool.false_eq_true, Nat.reduceAdd, Nat.reduceSub, Nat.succ_sub_succ, Nat.zero_add, VL.gP, List.filterMap_cons, List.filterMap_nil, List.cons.injEq, VL.wDisp0, VL.wDisp, VL.wPairs, VL.oLcm, VL.wPop, VL.wRevM, VL.wClearM, VL.wTupRg, VL.wListRg, VL.wR1, VL.wR2, VL.wRevN, VL.oRepT, VL.oRepL]
    refine ⟨⟨by decide, by decide⟩, fun j ρ => ∃ a b c3 c4 c5, ρ = [.dat (.list (ns.map .int)), .dat (.int i), .lst false [.int a, .int b], c3, c4, c5], ⟨_, _, _, _, _, rfl⟩, ?_, ?_⟩
    · rintro j ρ d ⟨a, b, c3, c4, c5, rfl⟩ hy
      simp only [VL.wSeq, VL.wNext, VL.wNever, VL.wAsg, VL.wSet, VL.wVar, VL.wFrz, VL.wC, VL.wOp, VL.wTest, VL.wNotT, VL.wAndT, VL.wOrT, VL.wAnd, VL.wOr, VL.wNot, VL.wIf, VL.wNil, VL.wCons, VL.wTup, VL.wLst, VL.wStay, VL.wNew, VL.wPar, VL.wAug, VL.wDrop, VL.wRet, VL.wRetN, VL.wRet0, VL.wIfS, VL.wBrk, VL.wCnt, VL.wGt, VL.wGs, VL.wCB, VL.wCBN, VL.wCall, VL.wCallN, VL.wCallIo, VL.wCallIoN, VL.wCallK, VL.wIsi, VL.wIsi2, VL.wApp, VL.wExt, VL.wIns, VL.wSetIt, VL.wNoPart, VL.wPart, VL.wSl, VL.wSlN, VL.wChain, VL.wNeg, VL.wDnew, VL.wDput, VL.wDget, VL.wDin, VL.wDnin, VL.wIndex, VL.wRev, VL.wParNE, VL.wParEN, VL.wPar3, VL.wYes, VL.wSeqOf, VL.wRng1, VL.wRng2, VL.oI, VL.oI0, VL.oLt, VL.oLe, VL.oGt, VL.oGe, VL.oSub, VL.oMul, VL.oFdiv, VL.oMod, VL.oPow, VL.oShl', VL.oAbs, VL.oMax2, VL.oMin2, VL.oGcd, VL.atI_0, VL.atI_1, VL.atI_2, VL.ixN_20, VL.ixN_21, and_assoc, VL.shp_int, VL.shp_bool, VL.shp_none, VL.eqv_int, VL.eqv_bool, VL.isiD, VL.tyD, String.reduceBEq, Bool.not_true, Bool.not_false, Bool.and_true, Bool.and_false, Bool.true_and, Bool.false_and, Bool.or_true, Bool.or_false, Bool.true_or, Bool.false_or, decide_true, decide_false, Bool.not_eq_true', Bool.not_eq_eq_eq_not, decide_eq_true_eq, decide_eq_false_iff_not, VL.oInt1, VL.oInt2, VL.oLen, VL.oToInt, VL.oAdd, VL.oEq, VL.oNe, VL.oIsN, VL.oIn, VL.itemD, VL.isN, VL.der, VL.ders, VL.dats, VL.ioA, VL.endsV, VL.retE, VL.keepC, Option.map, List.range_succ, List.range_zero, List.map_cons, List.map_nil, List.map_append, List.nil_append, List.cons_append, List.append_nil, List.replicate_zero, List.replicate_succ, List.length_cons, List.length_nil, Nat.sub_self, List.getElem?_cons_zero, List.getElem?_cons_succ, List.set_cons_zero, List.set_cons_succ, Option.some.injEq, exists_eq_left', exists_eq_left, exists_eq_right, exists_and_left, exists_and_right, and_true, true_and, CV.d.injEq, CV.loc.injEq, Cell.lst.injEq, Cell.dat.injEq, Cell.dic.injEq, PyData.int.injEq, PyData.bool.injEq, PyData.list.injEq, PyData.tuple.injEq, PyData.str.injEq, reduceCtorEq, false_and, and_false, exists_false, false_or, or_false, if_true, if_false, reduceIte, Bool.false_eq_true, Nat.reduceAdd, Nat.reduceSub, Nat.succ_sub_succ, Nat.zero_add, VL.gP, List.filterMap_cons, List.filterMap_nil, List.cons.injEq, VL.wDisp0, VL.wDisp, VL.wPairs, VL.oLcm, VL.wPop, VL.wRevM, VL.wClearM, VL.wTupRg, VL.wListRg, VL.wR1, VL.wR2, VL.wRevN, VL.oRepT, VL.oRepL]
      rw [hB]
      refine seq_gen fun k hk => ?_
      simp only [VL.wSeq, VL.wNext, VL.wNever, VL.wAsg, VL.wSet, VL.wVar, VL.wFrz, VL.wC, VL.wOp, VL.wTest, VL.wNotT, VL.wAndT, VL.wOrT, VL.wAnd, VL.wOr, VL.wNot, VL.wIf, VL.wNil, VL.wCons, VL.wTup, VL.wLst, VL.wStay, VL.wNew, VL.wPar, VL.wAug, VL.wDrop, VL.wRet, VL.wRetN, VL.wRet0, VL.wIfS, VL.wBrk, VL.wCnt, VL.wGt, VL.wGs, VL.wCB, VL.wCBN, VL.wCall, VL.wCallN, VL.wCallIo, VL.wCallIoN, VL.wCallK, VL.wIsi, VL.wIsi2, VL.wApp, VL.wExt, VL.wIns, VL.wSetIt, VL.wNoPart, VL.wPart, VL.wSl, VL.wSlN, VL.wChain, VL.wNeg, VL.wDnew, VL.wDput, VL.wDget, VL.wDin, VL.wDnin, VL.wIndex, VL.wRev, VL.wParNE, VL.wParEN, VL.wPar3, VL.wYes, VL.wSeqOf, VL.wRng1, VL.wRng2, VL.oI, VL.oI0, VL.oLt, VL.oLe, VL.oGt, VL.oGe, VL.oSub, VL.oMul, VL.oFdiv, VL.oMod, VL.oPow, VL.oShl', VL.oAbs, VL.oMax2, VL.oMin2, VL.oGcd, VL.atI_0, VL.atI_1, VL.atI_2, VL.ixN_20, VL.ixN_21, and_assoc, VL.shp_int, VL.shp_bool, VL.shp_none, VL.eqv_int, VL.eqv_bool, VL.isiD, VL.tyD, String.reduceBEq, Bool.not_true, Bool.not_false, Bool.and_true, Bool.and_false, Bool.true_and, Bool.false_and, Bool.or_true, Bool.or_false, Bool.true_or, Bool.false_or, decide_true, decide_false, Bool.not_eq_true', Bool.not_eq_eq_eq_not, decide_eq_true_eq, decide_eq_false_iff_not, VL.oInt1, VL.oInt2, VL.oLen, VL.oToInt, VL.oAdd, VL.oEq, VL.oNe, VL.oIsN, VL.oIn, VL.itemD, VL.isN, VL.der, VL.ders, VL.dats, VL.ioA, VL.endsV, VL.retE, VL.keepC, Option.map, List.range_succ, List.range_zero, List.map_cons, List.map_nil, List.map_append, List.nil_append, List.cons_append, List.append_nil, List.replicate_zero, List.replicate_succ, List.length_cons, List.length_nil, Nat.sub_self, List.getElem?_cons_zero, List.getElem?_cons_succ, List.set_cons_zero, List.set_cons_succ, Option.some.injEq, exists_eq_left', exists_eq_left, exists_eq_right, exists_and_left, exists_and_right, and_true, true_and, CV.d.injEq, CV.loc.injEq, Cell.lst.injEq, Cell.dat.injEq, Cell.dic.injEq, PyData.int.injEq, PyData.bool.injEq, PyData.list.injEq, PyData.tuple.injEq, PyData.str.injEq, reduceCtorEq, false_and, and_false, exists_false, false_or, or_false, if_true, if_false, reduceIte, Bool.false_eq_true, Nat.reduceAdd, Nat.reduceSub, Nat.succ_sub_succ, Nat.zero_add, VL.gP, List.filterMap_cons, List.filterMap_nil, List.cons.injEq, VL.wDisp0, VL.wDisp, VL.wPairs, VL.oLcm, VL.wPop, VL.wRevM, VL.wClearM, VL.wTupRg, VL.wListRg, VL.wR1, VL.wR2, VL.wRevN, VL.oRepT, VL.oRepL, S__law_drawn_number, Prod.mk.injEq]
      refine ⟨⟨_, rfl⟩, fun q a b n => ?_⟩
      rw [hk]
      clear hk k
      refine seq_gen fun k hk => ?_
      simp only [VL.wSeq, VL.wNext, VL.wNever, VL.wAsg, VL.wSet, VL.wVar, VL.wFrz, VL.wC, VL.wOp, VL.wTest, VL.wNotT, VL.wAndT, VL.wOrT, VL.wAnd, VL.wOr, VL.wNot, VL.wIf, VL.wNil, VL.wCons, VL.wTup, VL.wLst, VL.wStay, VL.wNew, VL.wPar, VL.wAug, VL.wDrop, VL.wRet, VL.wRetN, VL.wRet0, VL.wIfS, VL.wBrk, VL.wCnt, VL.wGt, VL.wGs, VL.wCB, VL.wCBN, VL.wCall, VL.wCallN, VL.wCallIo, VL.wCallIoN, VL.wCallK, VL.wIsi, VL.wIsi2, VL.wApp, VL.wExt, VL.wIns, VL.wSetIt, VL.wNoPart, VL.wPart, VL.wSl, VL.wSlN, VL.wChain, VL.wNeg, VL.wDnew, VL.wDput, VL.wDget, VL.wDin, VL.wDnin, VL.wIndex, VL.wRev, VL.wParNE, VL.wParEN, VL.wPar3, VL.wYes, VL.wSeqOf, VL.wRng1, VL.wRng2, VL.oI, VL.oI0, VL.oLt, VL.oLe, VL.oGt, VL.oGe, VL.oSub, VL.oMul, VL.oFdiv, VL.oMod, VL.oPow, VL.oShl', VL.oAbs, VL.oMax2, VL.oMin2, VL.oGcd, VL.atI_0, VL.atI_1, VL.atI_2, VL.ixN_20, VL.ixN_21, and_assoc, VL.shp_int, VL.shp_bool, VL.shp_none, VL.eqv_int, VL.eqv_bool, VL.isiD, VL.tyD, String.reduceBEq, Bool.not_true, Bool.not_false, Bool.and_true, Bool.and_false, Bool.true_and, Bool.false_and, Bool.or_true, Bool.or_false, Bool.true_or, Bool.false_or, decide_true, decide_false, Bool.not_eq_true', Bool.not_eq_eq_eq_not, decide_eq_true_eq, decide_eq_false_iff_not, VL.oInt1, VL.oInt2, VL.oLen, VL.oToInt, VL.oAdd, VL.oEq, VL.oNe, VL.oIsN, VL.oIn, VL.itemD, VL.isN, VL.der, VL.ders, VL.dats, VL.ioA, VL.endsV, VL.retE, VL.keepC, Option.map, List.range_succ, List.range_zero, List.map_cons, List.map_nil, List.map_append, List.nil_append, List.cons_append, List.append_nil, List.replicate_zero, List.replicate_succ, List.length_cons, List.length_nil, Nat.sub_self, List.getElem?_cons_zero, List.getElem?_cons_succ, List.set_cons_zero, List.set_cons_succ, Option.some.injEq, exists_eq_left', exists_eq_left, exists_eq_right, exists_and_left, exists_and_right, and_true, true_and, CV.d.injEq, CV.loc.injEq, Cell.lst.injEq, Cell.dat.injEq, Cell.dic.injEq, PyData.int.injEq, PyData.bool.injEq, PyData.list.injEq, PyData.tuple.injEq, PyData.str.injEq, reduceCtorEq, false_and, and_false, exists_false, false_or, or_false, if_true, if_false, reduceIte, Bool.false_eq_true, Nat.reduceAdd, Nat.reduceSub, Nat.succ_sub_succ, Nat.zero_add, VL.gP, List.filterMap_cons, List.filterMap_nil, List.cons.injEq, VL.wDisp0, VL.wDisp, VL.wPairs, VL.oLcm, VL.wPop, VL.wRevM, VL.wClearM, VL.wTupRg, VL.wListRg, VL.wR1, VL.wR2, VL.wRevN, VL.oRepT, VL.oRepL, S__law_due]
      refine ⟨q, rfl, n, fun s p P => ?_⟩
      rw [hk]
      clear hk k
      have l := per_len n P
      refine seq_gen fun k hk => ?_
      simp only [VL.wSeq, VL.wNext, VL.wNever, VL.wAsg, VL.wSet, VL.wVar, VL.wFrz, VL.wC, VL.wOp, VL.wTest, VL.wNotT, VL.wAndT, VL.wOrT, VL.wAnd, VL.wOr, VL.wNot, VL.wIf, VL.wNil, VL.wCons, VL.wTup, VL.wLst, VL.wStay, VL.wNew, VL.wPar, VL.wAug, VL.wDrop, VL.wRet, VL.wRetN, VL.wRet0, VL.wIfS, VL.wBrk, VL.wCnt, VL.wGt, VL.wGs, VL.wCB, VL.wCBN, VL.wCall, VL.wCallN, VL.wCallIo, VL.wCallIoN, VL.wCallK, VL.wIsi, VL.wIsi2, VL.wApp, VL.wExt, VL.wIns, VL.wSetIt, VL.wNoPart, VL.wPart, VL.wSl, VL.wSlN, VL.wChain, VL.wNeg, VL.wDnew, VL.wDput, VL.wDget, VL.wDin, VL.wDnin, VL.wIndex, VL.wRev, VL.wParNE, VL.wParEN, VL.wPar3, VL.wYes, VL.wSeqOf, VL.wRng1, VL.wRng2, VL.oI, VL.oI0, VL.oLt, VL.oLe, VL.oGt, VL.oGe, VL.oSub, VL.oMul, VL.oFdiv, VL.oMod, VL.oPow, VL.oShl', VL.oAbs, VL.oMax2, VL.oMin2, VL.oGcd, VL.atI_0, VL.atI_1, VL.atI_2, VL.ixN_20, VL.ixN_21, and_assoc, VL.shp_int, VL.shp_bool, VL.shp_none, VL.eqv_int, VL.eqv_bool, VL.isiD, VL.tyD, String.reduceBEq, Bool.not_true, Bool.not_false, Bool.and_true, Bool.and_false, Bool.true_and, Bool.false_and, Bool.or_true, Bool.or_false, Bool.true_or, Bool.false_or, decide_true, decide_false, Bool.not_eq_true', Bool.not_eq_eq_eq_not, decide_eq_true_eq, decide_eq_false_iff_not, VL.oInt1, VL.oInt2, VL.oLen, VL.oToInt, VL.oAdd, VL.oEq, VL.oNe, VL.oIsN, VL.oIn, VL.itemD, VL.isN, VL.der, VL.ders, VL.dats, VL.ioA, VL.endsV, VL.retE, VL.keepC, Option.map, List.range_succ, List.range_zero, List.map_cons, List.map_nil, List.map_append, List.nil_append, List.cons_append, List.append_nil, List.replicate_zero, List.replicate_succ, List.length_cons, List.length_nil, Nat.sub_self, List.getElem?_cons_zero, List.getElem?_cons_succ, List.set_cons_zero, List.set_cons_succ, Option.some.injEq, exists_eq_left', exists_eq_left, exists_eq_right, exists_and_left, exists_and_right, and_true, true_and, CV.d.injEq, CV.loc.injEq, Cell.lst.injEq, Cell.dat.injEq, Cell.dic.injEq, PyData.int.injEq, PyData.bool.injEq, PyData.list.injEq, PyData.tuple.injEq, PyData.str.injEq, reduceCtorEq, false_and, and_false, exists_false, false_or, or_false, if_true, if_false, reduceIte, Bool.false_eq_true, Nat.reduceAdd, Nat.reduceSub, Nat.succ_sub_succ, Nat.zero_add, VL.gP, List.filterMap_cons, List.filterMap_nil, List.cons.injEq, VL.wDisp0, VL.wDisp, VL.wPairs, VL.oLcm, VL.wPop, VL.wRevM, VL.wClearM, VL.wTupRg, VL.wListRg, VL.wR1, VL.wR2, VL.wRevN, VL.oRepT, VL.oRepL, S__law_is_right]
      refine ⟨q, rfl, s, p, rfl, n, P, ?_⟩
      rw [hk]
      clear hk k
      simp only [VL.wSeq, VL.wNext, VL.wNever, VL.wAsg, VL.wSet, VL.wVar, VL.wFrz, VL.wC, VL.wOp, VL.wTest, VL.wNotT, VL.wAndT, VL.wOrT, VL.wAnd, VL.wOr, VL.wNot, VL.wIf, VL.wNil, VL.wCons, VL.wTup, VL.wLst, VL.wStay, VL.wNew, VL.wPar, VL.wAug, VL.wDrop, VL.wRet, VL.wRetN, VL.wRet0, VL.wIfS, VL.wBrk, VL.wCnt, VL.wGt, VL.wGs, VL.wCB, VL.wCBN, VL.wCall, VL.wCallN, VL.wCallIo, VL.wCallIoN, VL.wCallK, VL.wIsi, VL.wIsi2, VL.wApp, VL.wExt, VL.wIns, VL.wSetIt, VL.wNoPart, VL.wPart, VL.wSl, VL.wSlN, VL.wChain, VL.wNeg, VL.wDnew, VL.wDput, VL.wDget, VL.wDin, VL.wDnin, VL.wIndex, VL.wRev, VL.wParNE, VL.wParEN, VL.wPar3, VL.wYes, VL.wSeqOf, VL.wRng1, VL.wRng2, VL.oI, VL.oI0, VL.oLt, VL.oLe, VL.oGt, VL.oGe, VL.oSub, VL.oMul, VL.oFdiv, VL.oMod, VL.oPow, VL.oShl', VL.oAbs, VL.oMax2, VL.oMin2, VL.oGcd, VL.atI_0, VL.atI_1, VL.atI_2, VL.ixN_20, VL.ixN_21, and_assoc, VL.shp_int, VL.shp_bool, VL.shp_none, VL.eqv_int, VL.eqv_bool, VL.isiD, VL.tyD, String.reduceBEq, Bool.not_true, Bool.not_false, Bool.and_true, Bool.and_false, Bool.true_and, Bool.false_and, Bool.or_true, Bool.or_false, Bool.true_or, Bool.false_or, decide_true, decide_false, Bool.not_eq_true', Bool.not_eq_eq_eq_not, decide_eq_true_eq, decide_eq_false_iff_not, VL.oInt1, VL.oInt2, VL.oLen, VL.oToInt, VL.oAdd, VL.oEq, VL.oNe, VL.oIsN, VL.oIn, VL.itemD, VL.isN, VL.der, VL.ders, VL.dats, VL.ioA, VL.endsV, VL.retE, VL.keepC, Option.map, List.range_succ, List.range_zero, List.map_cons, List.map_nil, List.map_append, List.nil_append, List.cons_append, List.append_nil, List.replicate_zero, List.replicate_succ, List.length_cons, List.length_nil, Nat.sub_self, List.getElem?_cons_zero, List.getElem?_cons_succ, List.set_cons_zero, List.set_cons_succ, Option.some.injEq, exists_eq_left', exists_eq_left, exists_eq_right, exists_and_left, exists_and_right, and_true, true_and, CV.d.injEq, CV.loc.injEq, Cell.lst.injEq, Cell.dat.injEq, Cell.dic.injEq, PyData.int.injEq, PyData.bool.injEq, PyData.list.injEq, PyData.tuple.injEq, PyData.str.injEq, reduceCtorEq, false_and, and_false, exists_false, false_or, or_false, if_true, if_false, reduceIte, Bool.false_eq_true, Nat.reduceAdd, Nat.reduceSub, Nat.succ_sub_succ, Nat.zero_add, VL.gP, List.filterMap_cons, List.filterMap_nil, List.cons.injEq, VL.wDisp0, VL.wDisp, VL.wPairs, VL.oLcm, VL.wPop, VL.wRevM, VL.wClearM, VL.wTupRg, VL.wListRg, VL.wR1, VL.wR2, VL.wRevN, VL.oRepT, VL.oRepL, S_figures]
      refine ⟨q, rfl, n, fun s1 p1 P1 => ⟨q, rfl, n, fun s2 p2 P2 => ?_⟩⟩
      obtain ⟨e1, e2⟩ := per_uniq P P1
      obtain ⟨e3, e4⟩ := per_uniq P P2
      subst e1 e2 e3 e4
      unfold S_number
      refine ⟨q, _, _, rfl, n, P, ?_⟩
      dsimp only
      refine ⟨q, _, _, rfl, n, P, ?_⟩
      simp only [VL.wSeq, VL.wNext, VL.wNever, VL.wAsg, VL.wSet, VL.wVar, VL.wFrz, VL.wC, VL.wOp, VL.wTest, VL.wNotT, VL.wAndT, VL.wOrT, VL.wAnd, VL.wOr, VL.wNot, VL.wIf, VL.wNil, VL.wCons, VL.wTup, VL.wLst, VL.wStay, VL.wNew, VL.wPar, VL.wAug, VL.wDrop, VL.wRet, VL.wRetN, VL.wRet0, VL.wIfS, VL.wBrk, VL.wCnt, VL.wGt, VL.wGs, VL.wCB, VL.wCBN, VL.wCall, VL.wCallN, VL.wCallIo, VL.wCallIoN, VL.wCallK, VL.wIsi, VL.wIsi2, VL.wApp, VL.wExt, VL.wIns, VL.wSetIt, VL.wNoPart, VL.wPart, VL.wSl, VL.wSlN, VL.wChain, VL.wNeg, VL.wDnew, VL.wDput, VL.wDget, VL.wDin, VL.wDnin, VL.wIndex, VL.wRev, VL.wParNE, VL.wParEN, VL.wPar3, VL.wYes, VL.wSeqOf, VL.wRng1, VL.wRng2, VL.oI, VL.oI0, VL.oLt, VL.oLe, VL.oGt, VL.oGe, VL.oSub, VL.oMul, VL.oFdiv, VL.oMod, VL.oPow, VL.oShl', VL.oAbs, VL.oMax2, VL.oMin2, VL.oGcd, VL.atI_0, VL.atI_1, VL.atI_2, VL.ixN_20, VL.ixN_21, and_assoc, VL.shp_int, VL.shp_bool, VL.shp_none, VL.eqv_int, VL.eqv_bool, VL.isiD, VL.tyD, String.reduceBEq, Bool.not_true, Bool.not_false, Bool.and_true, Bool.and_false, Bool.true_and, Bool.false_and, Bool.or_true, Bool.or_false, Bool.true_or, Bool.false_or, decide_true, decide_false, Bool.not_eq_true', Bool.not_eq_eq_eq_not, decide_eq_true_eq, decide_eq_false_iff_not, VL.oInt1, VL.oInt2, VL.oLen, VL.oToInt, VL.oAdd, VL.oEq, VL.oNe, VL.oIsN, VL.oIn, VL.itemD, VL.isN, VL.der, VL.ders, VL.dats, VL.ioA, VL.endsV, VL.retE, VL.keepC, Option.map, List.range_succ, List.range_zero, List.map_cons, List.map_nil, List.map_append, List.nil_append, List.cons_append, List.append_nil, List.replicate_zero, List.replicate_succ, List.length_cons, List.length_nil, Nat.sub_self, List.getElem?_cons_zero, List.getElem?_cons_succ, List.set_cons_zero, List.set_cons_succ, Option.some.injEq, exists_eq_left', exists_eq_left, exists_eq_right, exists_and_left, exists_and_right, and_true, true_and, CV.d.injEq, CV.loc.injEq, Cell.lst.injEq, Cell.dat.injEq, Cell.dic.injEq, PyData.int.injEq, PyData.bool.injEq, PyData.list.injEq, PyData.tuple.injEq, PyData.str.injEq, reduceCtorEq, false_and, and_false, exists_false, false_or, or_false, if_true, if_false, reduceIte, Bool.false_eq_true, Nat.reduceAdd, Nat.reduceSub, Nat.succ_sub_succ, Nat.zero_add, VL.gP, List.filterMap_cons, List.filterMap_nil, List.cons.injEq, VL.wDisp0, VL.wDisp, VL.wPairs, VL.oLcm, VL.wPop, VL.wRevM, VL.wClearM, VL.wTupRg, VL.wListRg, VL.wR1, VL.wR2, VL.wRevN, VL.oRepT, VL.oRepL, S__law_same]
      refine ⟨by decide, by decide, .lst 7 _ (show 4 ≤ 300 by decide) (fun d hd => ?_), _, rfl⟩
      simp only [List.mem_cons, List.not_mem_nil, or_false] at hd
      rcases hd with rfl | rfl | rfl | rfl
      · exact ok_figD 4 l
      · exact ok_figD 4 l
      · exact ok_rD 5 q
      · exact ok_rD 5 q
    · rintro ρ ⟨a, b, c3, c4, c5, rfl⟩
      exact ⟨_, _, _, _, _, rfl⟩
  · rintro ρ ⟨c1, c2, c3, c4, c5, rfl⟩
    rw [hk]
    simp only [VL.wSeq, VL.wNext, VL.wNever, VL.wAsg, VL.wSet, VL.wVar, VL.wFrz, VL.wC, VL.wOp, VL.wTest, VL.wNotT, VL.wAndT, VL.wOrT, VL.wAnd, VL.wOr, VL.wNot, VL.wIf, VL.wNil, VL.wCons, VL.wTup, VL.wLst, VL.wStay, VL.wNew, VL.wPar, VL.wAug, VL.wDrop, VL.wRet, VL.wRetN, VL.wRet0, VL.wIfS, VL.wBrk, VL.wCnt, VL.wGt, VL.wGs, VL.wCB, VL.wCBN, VL.wCall, VL.wCallN, VL.wCallIo, VL.wCallIoN, VL.wCallK, VL.wIsi, VL.wIsi2, VL.wApp, VL.wExt, VL.wIns, VL.wSetIt, VL.wNoPart, VL.wPart, VL.wSl, VL.wSlN, VL.wChain, VL.wNeg, VL.wDnew, VL.wDput, VL.wDget, VL.wDin, VL.wDnin, VL.wIndex, VL.wRev, VL.wParNE, VL.wParEN, VL.wPar3, VL.wYes, VL.wSeqOf, VL.wRng1, VL.wRng2, VL.oI, VL.oI0, VL.oLt, VL.oLe, VL.oGt, VL.oGe, VL.oSub, VL.oMul, VL.oFdiv, VL.oMod, VL.oPow, VL.oShl', VL.oAbs, VL.oMax2, VL.oMin2, VL.oGcd, VL.atI_0, VL.atI_1, VL.atI_2, VL.ixN_20, VL.ixN_21, and_assoc, VL.shp_int, VL.shp_bool, VL.shp_none, VL.eqv_int, VL.eqv_bool, VL.isiD, VL.tyD, String.reduceBEq, Bool.not_true, Bool.not_false, Bool.and_true, Bool.and_false, Bool.true_and, Bool.false_and, Bool.or_true, Bool.or_false, Bool.true_or, Bool.false_or, decide_true, decide_false, Bool.not_eq_true', Bool.not_eq_eq_eq_not, decide_eq_true_eq, decide_eq_false_iff_not, VL.oInt1, VL.oInt2, VL.oLen, VL.oToInt, VL.oAdd, VL.oEq, VL.oNe, VL.oIsN, VL.oIn, VL.itemD, VL.isN, VL.der, VL.ders, VL.dats, VL.ioA, VL.endsV, VL.retE, VL.keepC, Option.map, List.range_succ, List.range_zero, List.map_cons, List.map_nil, List.map_append, List.nil_append, List.cons_append, List.append_nil, List.replicate_zero, List.replicate_succ, List.length_cons, List.length_nil, Nat.sub_self, List.getElem?_cons_zero, List.getElem?_cons_succ, List.set_cons_zero, List.set_cons_succ, Option.some.injEq, exists_eq_left', exists_eq_left, exists_eq_right, exists_and_left, exists_and_right, and_true, true_and, CV.d.injEq, CV.loc.injEq, Cell.lst.injEq, Cell.dat.injEq, Cell.dic.injEq, PyData.int.injEq, PyData.bool.injEq, PyData.list.injEq, PyData.tuple.injEq, PyData.str.injEq, reduceCtorEq, false_and, and_false, exists_false, false_or, or_false, if_true, if_false, reduceIte, Bool.false_eq_true, Nat.reduceAdd, Nat.reduceSub, Nat.succ_sub_succ, Nat.zero_add, VL.gP, List.filterMap_cons, List.filterMap_nil, List.cons.injEq, VL.wDisp0, VL.wDisp, VL.wPairs, VL.oLcm, VL.wPop, VL.wRevM, VL.wClearM, VL.wTupRg, VL.wListRg, VL.wR1, VL.wR2, VL.wRevN, VL.oRepT, VL.oRepL]
    exact h
theorem law_top (ns : List Int) (h : ns.length ≤ 63) : S_law [.dat (.list (ns.map .int))] fun rv _ => rv = .d (.bool true) := ⟨ns, rfl, h, rfl⟩
end K03

end

/-! #### K03E -/
section
set_option autoImplicit false
set_option maxRecDepth 100000
set_option maxHeartbeats 4000000
namespace K03
open PySem PySem.Spec PyProof.Rows L2 VL
section
variable {P : Program} {w : World} {K : PySem.W.Frag} {mg : Str → Option Value} {base : Heap} {ts : List Addr}
theorem ok__law_deck {fa : Addr} {fd : FuncData} (F : Fun K "_law_deck" "_law_deck" s__law_deck fa fd) (hm : mg "_law_deck" = some (.ref fa)) (T : Tx mg) : FOk P w K ts mg base 1 2 "_law_deck" fa fd ["script", "at"] S__law_deck :=
  ⟨fnV F sc__law_deck rfl (by decide) (fun cdv A outer s H E as hr => d__law_deck T  hr) h__law_deck, hm, F.kp, F.binds (ps := ["script", "at"]) fun _ _ _ _ _ _ us hl => match us, hl with | [_, _], _ => rfl⟩
theorem ok__law_gcd {fa : Addr} {fd : FuncData} (F : Fun K "_law_gcd" "_law_gcd" s__law_gcd fa fd) (hm : mg "_law_gcd" = some (.ref fa)) (T : Tx mg) : FOk P w K ts mg base 1 2 "_law_gcd" fa fd ["u", "v"] S__law_gcd :=
  ⟨fnV F sc__law_gcd rfl (by decide) (fun cdv A outer s H E as hr => d__law_gcd T  hr) h__law_gcd, hm, F.kp, F.binds (ps := ["u", "v"]) fun _ _ _ _ _ _ us hl => match us, hl with | [_, _], _ => rfl⟩
theorem ok__law_pair {fa : Addr} {fd : FuncData} (F : Fun K "_law_pair" "_law_pair" s__law_pair fa fd) (hm : mg "_law_pair" = some (.ref fa)) (T : Tx mg) {f__law_gcd : Addr} {fd__law_gcd : FuncData} (c__law_gcd : FOk P w K ts mg base 1 2 "_law_gcd" f__law_gcd fd__law_gcd ["u", "v"] S__law_gcd) : FOk P w K ts mg base 2 2 "_law_pair" fa fd ["upper", "lower"] S__law_pair :=
  ⟨fnV F sc__law_pair rfl (by decide) (fun cdv A outer s H E as hr => d__law_pair T c__law_gcd hr) h__law_pair, hm, F.kp, F.binds (ps := ["upper", "lower"]) fun _ _ _ _ _ _ us hl => match us, hl with | [_, _], _ => rfl⟩
theorem ok__law_take {fa : Addr} {fd : FuncData} (F : Fun K "_law_take" "_law_take" s__law_take fa fd) (hm : mg "_law_take" = some (.ref fa)) (T : Tx mg) : FOk P w K ts mg base 1 2 "_law_take" fa fd ["deck", "many"] S__law_take :=
  ⟨fnV F sc__law_take rfl (by decide) (fun cdv A outer s H E as hr => d__law_take T  hr) h__law_take, hm, F.kp, F.binds (ps := ["deck", "many"]) fun _ _ _ _ _ _ us hl => match us, hl with | [_, _], _ => rfl⟩
theorem ok__law_drawn_number {fa : Addr} {fd : FuncData} (F : Fun K "_law_drawn_number" "_law_drawn_number" s__law_drawn_number fa fd) (hm : mg "_law_drawn_number" = some (.ref fa)) (T : Tx mg) {f__law_pair : Addr} {fd__law_pair : FuncData} (c__law_pair : FOk P w K ts mg base 2 2 "_law_pair" f__law_pair fd__law_pair ["upper", "lower"] S__law_pair) {f__law_take : Addr} {fd__law_take : FuncData} (c__law_take : FOk P w K ts mg base 1 2 "_law_take" f__law_take fd__law_take ["deck", "many"] S__law_take) : FOk P w K ts mg base 3 2 "_law_drawn_number" fa fd ["deck", "most"] S__law_drawn_number :=
  ⟨fnV F sc__law_drawn_number rfl (by decide) (fun cdv A outer s H E as hr => d__law_drawn_number T c__law_pair c__law_take hr) h__law_drawn_number, hm, F.kp, F.binds (ps := ["deck", "most"]) fun _ _ _ _ _ _ us hl => match us, hl with | [_, _], _ => rfl⟩
theorem ok__law_rounds {fa : Addr} {fd : FuncData} (F : Fun K "_law_rounds" "_law_rounds" s__law_rounds fa fd) (hm : mg "_law_rounds" = some (.ref fa)) (T : Tx mg) : FOk P w K ts mg base 1 1 "_law_rounds" fa fd ["u"] S__law_rounds :=
  ⟨fnV F sc__law_rounds rfl (by decide) (fun cdv A outer s H E as hr => d__law_rounds T  hr) h__law_rounds, hm, F.kp, F.binds (ps := ["u"]) fun _ _ _ _ _ _ us hl => match us, hl with | [_], _ => rfl⟩
theorem ok__law_sequence {fa : Addr} {fd : FuncData} (F : Fun K "_law_sequence" "_law_sequence" s__law_sequence fa fd) (hm : mg "_law_sequence" = some (.ref fa)) (T : Tx mg) : FOk P w K ts mg base 1 2 "_law_sequence" fa fd ["u", "many"] S__law_sequence :=
  ⟨fnV F sc__law_sequence rfl (by decide) (fun cdv A outer s H E as hr => d__law_sequence T  hr) h__law_sequence, hm, F.kp, F.binds (ps := ["u", "many"]) fun _ _ _ _ _ _ us hl => match us, hl with | [_, _], _ => rfl⟩
theorem ok__law_due {fa : Addr} {fd : FuncData} (F : Fun K "_law_due" "_law_due" s__law_due fa fd) (hm : mg "_law_due" = some (.ref fa)) (T : Tx mg) {f__law_rounds : Addr} {fd__law_rounds : FuncData} (c__law_rounds : FOk P w K ts mg base 1 1 "_law_rounds" f__law_rounds fd__law_rounds ["u"] S__law_rounds) {f__law_sequence : Addr} {fd__law_sequence : FuncData} (c__law_sequence : FOk P w K ts mg base 1 2 "_law_sequence" f__law_sequence fd__law_sequence ["u", "many"] S__law_sequence) : FOk P w K ts mg base 2 1 "_law_due" fa fd ["u"] S__law_due :=
  ⟨fnV F sc__law_due rfl (by decide) (fun cdv A outer s H E as hr => d__law_due T c__law_rounds c__law_sequence hr) h__law_due, hm, F.kp, F.binds (ps := ["u"]) fun _ _ _ _ _ _ us hl => match us, hl with | [_], _ => rfl⟩
theorem ok__law_is_right {fa : Addr} {fd : FuncData} (F : Fun K "_law_is_right" "_law_is_right" s__law_is_right fa fd) (hm : mg "_law_is_right" = some (.ref fa)) (T : Tx mg) {f__law_sequence : Addr} {fd__law_sequence : FuncData} (c__law_sequence : FOk P w K ts mg base 1 2 "_law_sequence" f__law_sequence fd__law_sequence ["u", "many"] S__law_sequence) : FOk P w K ts mg base 2 2 "_law_is_right" fa fd ["u", "due"] S__law_is_right :=
  ⟨fnV F sc__law_is_right rfl (by decide) (fun cdv A outer s H E as hr => d__law_is_right T c__law_sequence hr) h__law_is_right, hm, F.kp, F.binds (ps := ["u", "due"]) fun _ _ _ _ _ _ us hl => match us, hl with | [_, _], _ => rfl⟩
theorem ok__law_same {fa : Addr} {fd : FuncData} (F : Fun K "_law_same" "_law_same" s__law_same fa fd) (hm : mg "_law_same" = some (.ref fa)) (T : Tx mg) : ∀ j : Nat, FOk P w K ts mg base (1 + j) 2 "_law_same" fa fd ["found", "due"] (S__law_same j)
  | 0 => ⟨no_spec F sc__law_same rfl (by decide) (fun ρ Q h => z__law_same h), hm, F.kp, F.binds (ps := ["found", "due"]) fun _ _ _ _ _ _ us hl => match us, hl with | [_, _], _ => rfl⟩
  | j + 1 => by
    have c__law_same := ok__law_same F hm T  j
    exact ⟨fnV F sc__law_same rfl (by decide) (fun cdv A outer s H E as hr => d__law_same T c__law_same hr) (h__law_same j), hm, F.kp, F.binds (ps := ["found", "due"]) fun _ _ _ _ _ _ us hl => match us, hl with | [_, _], _ => rfl⟩
theorem ok_is_integer {fa : Addr} {fd : FuncData} (F : Fun K "is_integer" "is_integer" s_is_integer fa fd) (hm : mg "is_integer" = some (.ref fa)) (T : Tx mg) : FOk P w K ts mg base 1 1 "is_integer" fa fd ["told"] S_is_integer :=
  ⟨fnV F sc_is_integer rfl (by decide) (fun cdv A outer s H E as hr => d_is_integer T  hr) h_is_integer, hm, F.kp, F.binds (ps := ["told"]) fun _ _ _ _ _ _ us hl => match us, hl with | [_], _ => rfl⟩
theorem ok_is_integer_from {fa : Addr} {fd : FuncData} (F : Fun K "is_integer_from" "is_integer_from" s_is_integer_from fa fd) (hm : mg "is_integer_from" = some (.ref fa)) (T : Tx mg) {f_is_integer : Addr} {fd_is_integer : FuncData} (c_is_integer : FOk P w K ts mg base 1 1 "is_integer" f_is_integer fd_is_integer ["told"] S_is_integer) : FOk P w K ts mg base 2 2 "is_integer_from" fa fd ["told", "least"] S_is_integer_from :=
  ⟨fnV F sc_is_integer_from rfl (by decide) (fun cdv A outer s H E as hr => d_is_integer_from T c_is_integer hr) h_is_integer_from, hm, F.kp, F.binds (ps := ["told", "least"]) fun _ _ _ _ _ _ us hl => match us, hl with | [_, _], _ => rfl⟩
theorem ok_lowest {fa : Addr} {fd : FuncData} (F : Fun K "lowest" "lowest" s_lowest fa fd) (hm : mg "lowest" = some (.ref fa)) (T : Tx mg) : FOk P w K ts mg base 1 2 "lowest" fa fd ["top", "bottom"] S_lowest :=
  ⟨fnV F sc_lowest rfl (by decide) (fun cdv A outer s H E as hr => d_lowest T  hr) h_lowest, hm, F.kp, F.binds (ps := ["top", "bottom"]) fun _ _ _ _ _ _ us hl => match us, hl with | [_, _], _ => rfl⟩
theorem ok_is_number {fa : Addr} {fd : FuncData} (F : Fun K "is_number" "is_number" s_is_number fa fd) (hm : mg "is_number" = some (.ref fa)) (T : Tx mg) {f_is_integer : Addr} {fd_is_integer : FuncData} (c_is_integer : FOk P w K ts mg base 1 1 "is_integer" f_is_integer fd_is_integer ["told"] S_is_integer) {f_is_integer_from : Addr} {fd_is_integer_from : FuncData} (c_is_integer_from : FOk P w K ts mg base 2 2 "is_integer_from" f_is_integer_from fd_is_integer_from ["told", "least"] S_is_integer_from) {f_lowest : Addr} {fd_lowest : FuncData} (c_lowest : FOk P w K ts mg base 1 2 "lowest" f_lowest fd_lowest ["top", "bottom"] S_lowest) : FOk P w K ts mg base 3 1 "is_number" fa fd ["told"] S_is_number :=
  ⟨fnV F sc_is_number rfl (by decide) (fun cdv A outer s H E as hr => d_is_number T c_is_integer c_is_integer_from c_lowest hr) h_is_number, hm, F.kp, F.binds (ps := ["told"]) fun _ _ _ _ _ _ us hl => match us, hl with | [_], _ => rfl⟩
theorem ok_check_number {fa : Addr} {fd : FuncData} (F : Fun K "check_number" "check_number" s_check_number fa fd) (hm : mg "check_number" = some (.ref fa)) (T : Tx mg) {f_is_number : Addr} {fd_is_number : FuncData} (c_is_number : FOk P w K ts mg base 3 1 "is_number" f_is_number fd_is_number ["told"] S_is_number) : FOk P w K ts mg base 4 1 "check_number" fa fd ["number"] S_check_number :=
  ⟨fnV F sc_check_number rfl (by decide) (fun cdv A outer s H E as hr => d_check_number T c_is_number hr) h_check_number, hm, F.kp, F.binds (ps := ["number"]) fun _ _ _ _ _ _ us hl => match us, hl with | [_], _ => rfl⟩
theorem ok_tails_of {fa : Addr} {fd : FuncData} (F : Fun K "tails_of" "tails_of" s_tails_of fa fd) (hm : mg "tails_of" = some (.ref fa)) (T : Tx mg) : FOk P w K ts mg base 1 1 "tails_of" fa fd ["number"] S_tails_of :=
  ⟨fnV F sc_tails_of rfl (by decide) (fun cdv A outer s H E as hr => d_tails_of T  hr) h_tails_of, hm, F.kp, F.binds (ps := ["number"]) fun _ _ _ _ _ _ us hl => match us, hl with | [_], _ => rfl⟩
theorem ok_figures {fa : Addr} {fd : FuncData} (F : Fun K "figures" "figures" s_figures fa fd) (hm : mg "figures" = some (.ref fa)) (T : Tx mg) {cdv : Value} (FC : FunC K "figures" "figures" s_figures fa fd cdv) {c_ P_ : Addr} (G : GxD base mg ts cdv c_ P_) {f_check_number : Addr} {fd_check_number : FuncData} (c_check_number : FOk P w K ts mg base 4 1 "check_number" f_check_number fd_check_number ["number"] S_check_number) {f_tails_of : Addr} {fd_tails_of : FuncData} (c_tails_of : FOk P w K ts mg base 1 1 "tails_of" f_tails_of fd_tails_of ["number"] S_tails_of) : FOk P w K ts mg base 5 1 "figures" fa fd ["number"] S_figures :=
  ⟨fnVC FC sc_figures rfl (by decide) (fun A outer s H E as hr => d_figures T G c_check_number c_tails_of hr) h_figures, hm, F.kp, F.binds (ps := ["number"]) fun _ _ _ _ _ _ us hl => match us, hl with | [_], _ => rfl⟩
theorem ok_in_base_two {fa : Addr} {fd : FuncData} (F : Fun K "in_base_two" "in_base_two" s_in_base_two fa fd) (hm : mg "in_base_two" = some (.ref fa)) (T : Tx mg) : FOk P w K ts mg base 1 1 "in_base_two" fa fd ["row"] S_in_base_two :=
  ⟨fnV F sc_in_base_two rfl (by decide) (fun cdv A outer s H E as hr => d_in_base_two T  hr) h_in_base_two, hm, F.kp, F.binds (ps := ["row"]) fun _ _ _ _ _ _ us hl => match us, hl with | [_], _ => rfl⟩
theorem ok_sum_of_row {fa : Addr} {fd : FuncData} (F : Fun K "sum_of_row" "sum_of_row" s_sum_of_row fa fd) (hm : mg "sum_of_row" = some (.ref fa)) (T : Tx mg) {f_lowest : Addr} {fd_lowest : FuncData} (c_lowest : FOk P w K ts mg base 1 2 "lowest" f_lowest fd_lowest ["top", "bottom"] S_lowest) {f_in_base_two : Addr} {fd_in_base_two : FuncData} (c_in_base_two : FOk P w K ts mg base 1 1 "in_base_two" f_in_base_two fd_in_base_two ["row"] S_in_base_two) : FOk P w K ts mg base 2 2 "sum_of_row" fa fd ["ahead", "again"] S_sum_of_row :=
  ⟨fnV F sc_sum_of_row rfl (by decide) (fun cdv A outer s H E as hr => d_sum_of_row T c_lowest c_in_base_two hr) h_sum_of_row, hm, F.kp, F.binds (ps := ["ahead", "again"]) fun _ _ _ _ _ _ us hl => match us, hl with | [_, _], _ => rfl⟩
theorem ok_is_signs {fa : Addr} {fd : FuncData} (F : Fun K "is_signs" "is_signs" s_is_signs fa fd) (hm : mg "is_signs" = some (.ref fa)) (T : Tx mg) {cdv : Value} (FC : FunC K "is_signs" "is_signs" s_is_signs fa fd cdv) {c_ P_ : Addr} (G : GxD base mg ts cdv c_ P_) {f_is_integer_from : Addr} {fd_is_integer_from : FuncData} (c_is_integer_from : FOk P w K ts mg base 2 2 "is_integer_from" f_is_integer_from fd_is_integer_from ["told", "least"] S_is_integer_from) : FOk P w K ts mg base 5 1 "is_signs" fa fd ["told"] S_is_signs :=
  ⟨fnVC FC sc_is_signs rfl (by decide) (fun A outer s H E as hr => d_is_signs T G c_is_integer_from hr) h_is_signs, hm, F.kp, F.binds (ps := ["told"]) fun _ _ _ _ _ _ us hl => match us, hl with | [_], _ => rfl⟩
theorem ok_is_figures {fa : Addr} {fd : FuncData} (F : Fun K "is_figures" "is_figures" s_is_figures fa fd) (hm : mg "is_figures" = some (.ref fa)) (T : Tx mg) {f_is_signs : Addr} {fd_is_signs : FuncData} (c_is_signs : FOk P w K ts mg base 5 1 "is_signs" f_is_signs fd_is_signs ["told"] S_is_signs) : FOk P w K ts mg base 6 1 "is_figures" fa fd ["told"] S_is_figures :=
  ⟨fnV F sc_is_figures rfl (by decide) (fun cdv A outer s H E as hr => d_is_figures T c_is_signs hr) h_is_figures, hm, F.kp, F.binds (ps := ["told"]) fun _ _ _ _ _ _ us hl => match us, hl with | [_], _ => rfl⟩
theorem ok_number {fa : Addr} {fd : FuncData} (F : Fun K "number" "number" s_number fa fd) (hm : mg "number" = some (.ref fa)) (T : Tx mg) {f_sum_of_row : Addr} {fd_sum_of_row : FuncData} (c_sum_of_row : FOk P w K ts mg base 2 2 "sum_of_row" f_sum_of_row fd_sum_of_row ["ahead", "again"] S_sum_of_row) {f_is_figures : Addr} {fd_is_figures : FuncData} (c_is_figures : FOk P w K ts mg base 6 1 "is_figures" f_is_figures fd_is_figures ["told"] S_is_figures) : FOk P w K ts mg base 7 1 "number" fa fd ["told"] S_number :=
  ⟨fnV F sc_number rfl (by decide) (fun cdv A outer s H E as hr => d_number T c_sum_of_row c_is_figures hr) h_number, hm, F.kp, F.binds (ps := ["told"]) fun _ _ _ _ _ _ us hl => match us, hl with | [_], _ => rfl⟩
theorem ok_law {fa : Addr} {fd : FuncData} (F : Fun K "law" "law" s_law fa fd) (hm : mg "law" = some (.ref fa)) (T : Tx mg) {f__law_deck : Addr} {fd__law_deck : FuncData} (c__law_deck : FOk P w K ts mg base 1 2 "_law_deck" f__law_deck fd__law_deck ["script", "at"] S__law_deck) {f__law_drawn_number : Addr} {fd__law_drawn_number : FuncData} (c__law_drawn_number : FOk P w K ts mg base 3 2 "_law_drawn_number" f__law_drawn_number fd__law_drawn_number ["deck", "most"] S__law_drawn_number) {f__law_due : Addr} {fd__law_due : FuncData} (c__law_due : FOk P w K ts mg base 2 1 "_law_due" f__law_due fd__law_due ["u"] S__law_due) {f__law_is_right : Addr} {fd__law_is_right : FuncData} (c__law_is_right : FOk P w K ts mg base 2 2 "_law_is_right" f__law_is_right fd__law_is_right ["u", "due"] S__law_is_right) {f__law_same : Addr} {fd__law_same : FuncData} (c__law_same : FOk P w K ts mg base 9 2 "_law_same" f__law_same fd__law_same ["found", "due"] (S__law_same 8)) {f_figures : Addr} {fd_figures : FuncData} (c_figures : FOk P w K ts mg base 5 1 "figures" f_figures fd_figures ["number"] S_figures) {f_number : Addr} {fd_number : FuncData} (c_number : FOk P w K ts mg base 7 1 "number" f_number fd_number ["told"] S_number) (kw_figures_0_number : KwB K fd_figures ["number"] 0 ["number"] [0]) (kw_number_0_told : KwB K fd_number ["told"] 0 ["told"] [0]) : FOk P w K ts mg base 10 1 "law" fa fd ["script"] S_law :=
  ⟨fnV F sc_law rfl (by decide) (fun cdv A outer s H E as hr => d_law T c__law_deck c__law_drawn_number c__law_due c__law_is_right c__law_same c_figures c_number kw_figures_0_number kw_number_0_told hr) h_law, hm, F.kp, F.binds (ps := ["script"]) fun _ _ _ _ _ _ us hl => match us, hl with | [_], _ => rfl⟩
end
theorem all_mk {l : PySem.W.OpenLaw} {w : World} {K : PySem.W.Frag} {h : Heap} {mg : Str → Option Value} {fa : Addr} (X : K.In h) (G : h.Ns mainGlobals mg) (hfa : mg "law" = some (.ref fa))
    {od0 an0 : Option Addr} {sl0 : Array (Option Value)} {oc0 kV0 dc0 pm0 cd0 ct0 : Value} {f0 : Addr}
    {od1 an1 : Option Addr} {sl1 : Array (Option Value)} {oc1 kV1 dc1 pm1 cd1 ct1 : Value} {f1 : Addr}
    {od2 an2 : Option Addr} {sl2 : Array (Option Value)} {oc2 kV2 dc2 pm2 cd2 ct2 : Value} {f2 : Addr}
    {od3 an3 : Option Addr} {sl3 : Array (Option Value)} {oc3 kV3 dc3 pm3 cd3 ct3 : Value} {f3 : Addr}
    {od4 an4 : Option Addr} {sl4 : Array (Option Value)} {oc4 kV4 dc4 pm4 cd4 ct4 : Value} {f4 : Addr}
    {od5 an5 : Option Addr} {sl5 : Array (Option Value)} {oc5 kV5 dc5 pm5 cd5 ct5 : Value} {f5 : Addr}
    {od6 an6 : Option Addr} {sl6 : Array (Option Value)} {oc6 kV6 dc6 pm6 cd6 ct6 : Value} {f6 : Addr}
    {od7 an7 : Option Addr} {sl7 : Array (Option Value)} {oc7 kV7 dc7 pm7 cd7 ct7 : Value} {f7 : Addr}
    {od8 an8 : Option Addr} {sl8 : Array (Option Value)} {oc8 kV8 dc8 pm8 cd8 ct8 : Value} {f8 : Addr}
    {od9 an9 : Option Addr} {sl9 : Array (Option Value)} {oc9 kV9 dc9 pm9 cd9 ct9 : Value} {f9 : Addr}
    {od10 an10 : Option Addr} {sl10 : Array (Option Value)} {oc10 kV10 dc10 pm10 cd10 ct10 : Value} {f10 : Addr}
    {od11 an11 : Option Addr} {sl11 : Array (Option Value)} {oc11 kV11 dc11 pm11 cd11 ct11 : Value} {f11 : Addr}
    {od12 an12 : Option Addr} {sl12 : Array (Option Value)} {oc12 kV12 dc12 pm12 cd12 ct12 : Value} {f12 : Addr}
    {od13 an13 : Option Addr} {sl13 : Array (Option Value)} {oc13 kV13 dc13 pm13 cd13 ct13 : Value} {f13 : Addr}
    {od14 an14 : Option Addr} {sl14 : Array (Option Value)} {oc14 kV14 dc14 pm14 cd14 ct14 : Value} {f14 : Addr}
    {od15 an15 : Option Addr} {sl15 : Array (Option Value)} {oc15 kV15 dc15 pm15 cd15 ct15 : Value} {f15 : Addr}
    {od16 an16 : Option Addr} {sl16 : Array (Option Value)} {oc16 kV16 dc16 pm16 cd16 ct16 : Value} {f16 : Addr}
    {od17 an17 : Option Addr} {sl17 : Array (Option Value)} {oc17 kV17 dc17 pm17 cd17 ct17 : Value} {f17 : Addr}
    {od18 an18 : Option Addr} {sl18 : Array (Option Value)} {oc18 kV18 dc18 pm18 cd18 ct18 : Value} {f18 : Addr}
    {od19 an19 : Option Addr} {sl19 : Array (Option Value)} {oc19 kV19 dc19 pm19 cd19 ct19 : Value} {f19 : Addr}
    {od20 an20 : Option Addr} {sl20 : Array (Option Value)} {oc20 kV20 dc20 pm20 cd20 ct20 : Value} {f20 : Addr}
    {od21 an21 : Option Addr} {sl21 : Array (Option Value)} {oc21 kV21 dc21 pm21 cd21 ct21 : Value} {f21 : Addr}
    {od22 an22 : Option Addr} {sl22 : Array (Option Value)} {oc22 kV22 dc22 pm22 cd22 ct22 : Value} {f22 : Addr}
    (a0 : PySem.W.nsIn K mainGlobals "_law_deck" = some (some (.ref f0))) (l0 : K.lookup f0 = some ⟨oc0, od0, .func (PySem.W.fnOf "_law_deck" "_law_deck" (defArgs s__law_deck) (defBody s__law_deck) (defScope s__law_deck) .none kV0 dc0 pm0 an0 cd0 ct0), sl0⟩) (c0 : PySem.W.codeIn K cd0 "_law_deck" = true) (k0 : PySem.W.keepIn K (.ref f0) = true)
    (a1 : PySem.W.nsIn K mainGlobals "_law_gcd" = some (some (.ref f1))) (l1 : K.lookup f1 = some ⟨oc1, od1, .func (PySem.W.fnOf "_law_gcd" "_law_gcd" (defArgs s__law_gcd) (defBody s__law_gcd) (defScope s__law_gcd) .none kV1 dc1 pm1 an1 cd1 ct1), sl1⟩) (c1 : PySem.W.codeIn K cd1 "_law_gcd" = true) (k1 : PySem.W.keepIn K (.ref f1) = true)
    (a2 : PySem.W.nsIn K mainGlobals "_law_pair" = some (some (.ref f2))) (l2 : K.lookup f2 = some ⟨oc2, od2, .func (PySem.W.fnOf "_law_pair" "_law_pair" (defArgs s__law_pair) (defBody s__law_pair) (defScope s__law_pair) .none kV2 dc2 pm2 an2 cd2 ct2), sl2⟩) (c2 : PySem.W.codeIn K cd2 "_law_pair" = true) (k2 : PySem.W.keepIn K (.ref f2) = true)
    (a3 : PySem.W.nsIn K mainGlobals "_law_take" = some (some (.ref f3))) (l3 : K.lookup f3 = some ⟨oc3, od3, .func (PySem.W.fnOf "_law_take" "_law_take" (defArgs s__law_take) (defBody s__law_take) (defScope s__law_take) .none kV3 dc3 pm3 an3 cd3 ct3), sl3⟩) (c3 : PySem.W.codeIn K cd3 "_law_take" = true) (k3 : PySem.W.keepIn K (.ref f3) = true)
    (a4 : PySem.W.nsIn K mainGlobals "_law_drawn_number" = some (some (.ref f4))) (l4 : K.lookup f4 = some ⟨oc4, od4, .func (PySem.W.fnOf "_law_drawn_number" "_law_drawn_number" (defArgs s__law_drawn_number) (defBody s__law_drawn_number) (defScope s__law_drawn_number) .none kV4 dc4 pm4 an4 cd4 ct4), sl4⟩) (c4 : PySem.W.codeIn K cd4 "_law_drawn_number" = true) (k4 : PySem.W.keepIn K (.ref f4) = true)
    (a5 : PySem.W.nsIn K mainGlobals "_law_rounds" = some (some (.ref f5))) (l5 : K.lookup f5 = some ⟨oc5, od5, .func (PySem.W.fnOf "_law_rounds" "_law_rounds" (defArgs s__law_rounds) (defBody s__law_rounds) (defScope s__law_rounds) .none kV5 dc5 pm5 an5 cd5 ct5), sl5⟩) (c5 : PySem.W.codeIn K cd5 "_law_rounds" = true) (k5 : PySem.W.keepIn K (.ref f5) = true)
    (a6 : PySem.W.nsIn K mainGlobals "_law_sequence" = some (some (.ref f6))) (l6 : K.lookup f6 = some ⟨oc6, od6, .func (PySem.W.fnOf "_law_sequence" "_law_sequence" (defArgs s__law_sequence) (defBody s__law_sequence) (defScope s__law_sequence) .none kV6 dc6 pm6 an6 cd6 ct6), sl6⟩) (c6 : PySem.W.codeIn K cd6 "_law_sequence" = true) (k6 : PySem.W.keepIn K (.ref f6) = true)
    (a7 : PySem.W.nsIn K mainGlobals "_law_due" = some (some (.ref f7))) (l7 : K.lookup f7 = some ⟨oc7, od7, .func (PySem.W.fnOf "_law_due" "_law_due" (defArgs s__law_due) (defBody s__law_due) (defScope s__law_due) .none kV7 dc7 pm7 an7 cd7 ct7), sl7⟩) (c7 : PySem.W.codeIn K cd7 "_law_due" = true) (k7 : PySem.W.keepIn K (.ref f7) = true)
    (a8 : PySem.W.nsIn K mainGlobals "_law_is_right" = some (some (.ref f8))) (l8 : K.lookup f8 = some ⟨oc8, od8, .func (PySem.W.fnOf "_law_is_right" "_law_is_right" (defArgs s__law_is_right) (defBody s__law_is_right) (defScope s__law_is_right) .none kV8 dc8 pm8 an8 cd8 ct8), sl8⟩) (c8 : PySem.W.codeIn K cd8 "_law_is_right" = true) (k8 : PySem.W.keepIn K (.ref f8) = true)
    (a9 : PySem.W.nsIn K mainGlobals "_law_same" = some (some (.ref f9))) (l9 : K.lookup f9 = some ⟨oc9, od9, .func (PySem.W.fnOf "_law_same" "_law_same" (defArgs s__law_same) (defBody s__law_same) (defScope s__law_same) .none kV9 dc9 pm9 an9 cd9 ct9), sl9⟩) (c9 : PySem.W.codeIn K cd9 "_law_same" = true) (k9 : PySem.W.keepIn K (.ref f9) = true)
    (a10 : PySem.W.nsIn K mainGlobals "is_integer" = some (some (.ref f10))) (l10 : K.lookup f10 = some ⟨oc10, od10, .func (PySem.W.fnOf "is_integer" "is_integer" (defArgs s_is_integer) (defBody s_is_integer) (defScope s_is_integer) .none kV10 dc10 pm10 an10 cd10 ct10), sl10⟩) (c10 : PySem.W.codeIn K cd10 "is_integer" = true) (k10 : PySem.W.keepIn K (.ref f10) = true)
    (a11 : PySem.W.nsIn K mainGlobals "is_integer_from" = some (some (.ref f11))) (l11 : K.lookup f11 = some ⟨oc11, od11, .func (PySem.W.fnOf "is_integer_from" "is_integer_from" (defArgs s_is_integer_from) (defBody s_is_integer_from) (defScope s_is_integer_from) .none kV11 dc11 pm11 an11 cd11 ct11), sl11⟩) (c11 : PySem.W.codeIn K cd11 "is_integer_from" = true) (k11 : PySem.W.keepIn K (.ref f11) = true)
    (a12 : PySem.W.nsIn K mainGlobals "lowest" = some (some (.ref f12))) (l12 : K.lookup f12 = some ⟨oc12, od12, .func (PySem.W.fnOf "lowest" "lowest" (defArgs s_lowest) (defBody s_lowest) (defScope s_lowest) .none kV12 dc12 pm12 an12 cd12 ct12), sl12⟩) (c12 : PySem.W.codeIn K cd12 "lowest" = true) (k12 : PySem.W.keepIn K (.ref f12) = true)
    (a13 : PySem.W.nsIn K mainGlobals "is_number" = some (some (.ref f13))) (l13 : K.lookup f13 = some ⟨oc13, od13, .func (PySem.W.fnOf "is_number" "is_number" (defArgs s_is_number) (defBody s_is_number) (defScope s_is_number) .none kV13 dc13 pm13 an13 cd13 ct13), sl13⟩) (c13 : PySem.W.codeIn K cd13 "is_number" = true) (k13 : PySem.W.keepIn K (.ref f13) = true)
    (a14 : PySem.W.nsIn K mainGlobals "check_number" = some (some (.ref f14))) (l14 : K.lookup f14 = some ⟨oc14, od14, .func (PySem.W.fnOf "check_number" "check_number" (defArgs s_check_number) (defBody s_check_number) (defScope s_check_number) .none kV14 dc14 pm14 an14 cd14 ct14), sl14⟩) (c14 : PySem.W.codeIn K cd14 "check_number" = true) (k14 : PySem.W.keepIn K (.ref f14) = true)
    (a15 : PySem.W.nsIn K mainGlobals "tails_of" = some (some (.ref f15))) (l15 : K.lookup f15 = some ⟨oc15, od15, .func (PySem.W.fnOf "tails_of" "tails_of" (defArgs s_tails_of) (defBody s_tails_of) (defScope s_tails_of) .none kV15 dc15 pm15 an15 cd15 ct15), sl15⟩) (c15 : PySem.W.codeIn K cd15 "tails_of" = true) (k15 : PySem.W.keepIn K (.ref f15) = true)
    (a16 : PySem.W.nsIn K mainGlobals "figures" = some (some (.ref f16))) (l16 : K.lookup f16 = some ⟨oc16, od16, .func (PySem.W.fnOf "figures" "figures" (defArgs s_figures) (defBody s_figures) (defScope s_figures) .none kV16 dc16 pm16 an16 cd16 ct16), sl16⟩) (c16 : PySem.W.codeIn K cd16 "figures" = true) (k16 : PySem.W.keepIn K (.ref f16) = true) {tc16 tp16 : Addr} {ve16 : Value} {vd16 : Option Addr} {vv16 : Array Value} {vs16 : Array (Option Value)} (e16 : cd16 = .ref tc16) (m16 : K.lookup tc16 = some ⟨ve16, vd16, .fields vv16, vs16⟩) (v16 : vv16[11]? = some (.ref tp16)) (n16 : K.lookup tp16 = none)
    (a17 : PySem.W.nsIn K mainGlobals "in_base_two" = some (some (.ref f17))) (l17 : K.lookup f17 = some ⟨oc17, od17, .func (PySem.W.fnOf "in_base_two" "in_base_two" (defArgs s_in_base_two) (defBody s_in_base_two) (defScope s_in_base_two) .none kV17 dc17 pm17 an17 cd17 ct17), sl17⟩) (c17 : PySem.W.codeIn K cd17 "in_base_two" = true) (k17 : PySem.W.keepIn K (.ref f17) = true)
    (a18 : PySem.W.nsIn K mainGlobals "sum_of_row" = some (some (.ref f18))) (l18 : K.lookup f18 = some ⟨oc18, od18, .func (PySem.W.fnOf "sum_of_row" "sum_of_row" (defArgs s_sum_of_row) (defBody s_sum_of_row) (defScope s_sum_of_row) .none kV18 dc18 pm18 an18 cd18 ct18), sl18⟩) (c18 : PySem.W.codeIn K cd18 "sum_of_row" = true) (k18 : PySem.W.keepIn K (.ref f18) = true)
    (a19 : PySem.W.nsIn K mainGlobals "is_signs" = some (some (.ref f19))) (l19 : K.lookup f19 = some ⟨oc19, od19, .func (PySem.W.fnOf "is_signs" "is_signs" (defArgs s_is_signs) (defBody s_is_signs) (defScope s_is_signs) .none kV19 dc19 pm19 an19 cd19 ct19), sl19⟩) (c19 : PySem.W.codeIn K cd19 "is_signs" = true) (k19 : PySem.W.keepIn K (.ref f19) = true) {tc19 tp19 : Addr} {ve19 : Value} {vd19 : Option Addr} {vv19 : Array Value} {vs19 : Array (Option Value)} (e19 : cd19 = .ref tc19) (m19 : K.lookup tc19 = some ⟨ve19, vd19, .fields vv19, vs19⟩) (v19 : vv19[11]? = some (.ref tp19)) (n19 : K.lookup tp19 = none)
    (a20 : PySem.W.nsIn K mainGlobals "is_figures" = some (some (.ref f20))) (l20 : K.lookup f20 = some ⟨oc20, od20, .func (PySem.W.fnOf "is_figures" "is_figures" (defArgs s_is_figures) (defBody s_is_figures) (defScope s_is_figures) .none kV20 dc20 pm20 an20 cd20 ct20), sl20⟩) (c20 : PySem.W.codeIn K cd20 "is_figures" = true) (k20 : PySem.W.keepIn K (.ref f20) = true)
    (a21 : PySem.W.nsIn K mainGlobals "number" = some (some (.ref f21))) (l21 : K.lookup f21 = some ⟨oc21, od21, .func (PySem.W.fnOf "number" "number" (defArgs s_number) (defBody s_number) (defScope s_number) .none kV21 dc21 pm21 an21 cd21 ct21), sl21⟩) (c21 : PySem.W.codeIn K cd21 "number" = true) (k21 : PySem.W.keepIn K (.ref f21) = true)
    (a22 : PySem.W.nsIn K mainGlobals "law" = some (some (.ref f22))) (l22 : K.lookup f22 = some ⟨oc22, od22, .func (PySem.W.fnOf "law" "law" (defArgs s_law) (defBody s_law) (defScope s_law) .none kV22 dc22 pm22 an22 cd22 ct22), sl22⟩) (c22 : PySem.W.codeIn K cd22 "law" = true) (k22 : PySem.W.keepIn K (.ref f22) = true)
    (z_abs : PySem.W.nsIn K mainGlobals "abs" = some none)
    (z_all : PySem.W.nsIn K mainGlobals "all" = some none)
    (z_bool : PySem.W.nsIn K mainGlobals "bool" = some none)
    (z_gcd : PySem.W.nsIn K mainGlobals "gcd" = some (some (.builtin "math.gcd")))
    (z_int : PySem.W.nsIn K mainGlobals "int" = some none)
    (z_isinstance : PySem.W.nsIn K mainGlobals "isinstance" = some none)
    (z_len : PySem.W.nsIn K mainGlobals "len" = some none)
    (z_list : PySem.W.nsIn K mainGlobals "list" = some none)
    (z_max : PySem.W.nsIn K mainGlobals "max" = some none)
    (z_min : PySem.W.nsIn K mainGlobals "min" = some none)
    (z_range : PySem.W.nsIn K mainGlobals "range" = some none)
    (z_str : PySem.W.nsIn K mainGlobals "str" = some none)
    (z_tuple : PySem.W.nsIn K mainGlobals "tuple" = some none)
    : ∃ (cs : List (Addr × Addr)) (fd : FuncData), (∀ p ∈ cs, (∃ y ∈ (["figures", "is_signs"] : List Str), PySem.W.tabIn K y = some p) ∧ K.lookup p.2 = none) ∧ (∀ (s : Shared) (v : Value), BindsTo s fd ⟨[v], []⟩ [("script", v)]) ∧ ∀ base : Heap, K.In base → base.Ns mainGlobals mg → (∀ p ∈ cs, GxR.TabB base mg p.1 p.2) → FnOk l.prog w K mg base CX0 10 fa fd ["script"] (spV K (cs.map (·.2)) 1 S_law) := by
  have t16 := VL.tab_mk a16 l16 e16 m16 v16
  have t19 := VL.tab_mk a19 l19 e19 m19 v19
  have e := hfa.symm.trans (PySem.W.mg_of X G a22)
  cases e
  have F__law_deck := fun_mk (st := s__law_deck) l0 c0 k0
  have F__law_gcd := fun_mk (st := s__law_gcd) l1 c1 k1
  have F__law_pair := fun_mk (st := s__law_pair) l2 c2 k2
  have F__law_take := fun_mk (st := s__law_take) l3 c3 k3
  have F__law_drawn_number := fun_mk (st := s__law_drawn_number) l4 c4 k4
  have F__law_rounds := fun_mk (st := s__law_rounds) l5 c5 k5
  have F__law_sequence := fun_mk (st := s__law_sequence) l6 c6 k6
  have F__law_due := fun_mk (st := s__law_due) l7 c7 k7
  have F__law_is_right := fun_mk (st := s__law_is_right) l8 c8 k8
  have F__law_same := fun_mk (st := s__law_same) l9 c9 k9
  have F_is_integer := fun_mk (st := s_is_integer) l10 c10 k10
  have F_is_integer_from := fun_mk (st := s_is_integer_from) l11 c11 k11
  have F_lowest := fun_mk (st := s_lowest) l12 c12 k12
  have F_is_number := fun_mk (st := s_is_number) l13 c13 k13
  have F_check_number := fun_mk (st := s_check_number) l14 c14 k14
  have F_tails_of := fun_mk (st := s_tails_of) l15 c15 k15
  have F_figures := fun_mk (st := s_figures) l16 c16 k16
  have F_in_base_two := fun_mk (st := s_in_base_two) l17 c17 k17
  have F_sum_of_row := fun_mk (st := s_sum_of_row) l18 c18 k18
  have F_is_signs := fun_mk (st := s_is_signs) l19 c19 k19
  have F_is_figures := fun_mk (st := s_is_figures) l20 c20 k20
  have F_number := fun_mk (st := s_number) l21 c21 k21
  have F_law := fun_mk (st := s_law) l22 c22 k22
  have T : Tx mg := ⟨PySem.W.mg_none_of X G z_abs, PySem.W.mg_none_of X G z_all, PySem.W.mg_none_of X G z_bool, PySem.W.mg_of X G z_gcd, PySem.W.mg_none_of X G z_int, PySem.W.mg_none_of X G z_isinstance, PySem.W.mg_none_of X G z_len, PySem.W.mg_none_of X G z_list, PySem.W.mg_none_of X G z_max, PySem.W.mg_none_of X G z_min, PySem.W.mg_none_of X G z_range, PySem.W.mg_none_of X G z_str, PySem.W.mg_none_of X G z_tuple⟩
  have kw_figures_0_number := kw_of (ps := ["number"]) (ks := ["number"]) (n := 0) (pm := [0]) F_figures fun _ _ _ _ _ _ us ws h1 h2 => match us, h1, ws, h2 with | [], _, [_], _ => rfl
  have kw_number_0_told := kw_of (ps := ["told"]) (ks := ["told"]) (n := 0) (pm := [0]) F_number fun _ _ _ _ _ _ us ws h1 h2 => match us, h1, ws, h2 with | [], _, [_], _ => rfl
  refine ⟨[(tc16, tp16), (tc19, tp19)], PySem.W.fnOf "law" "law" (defArgs s_law) (defBody s_law) (defScope s_law) .none kV22 dc22 pm22 an22 cd22 ct22, fun p hp => ?_, fun s v => .of_eq rfl, fun base hb nb TBs => ?_⟩
  · simp only [List.mem_cons, List.not_mem_nil, or_false] at hp
    rcases hp with rfl | rfl
    · exact ⟨⟨"figures", by simp, t16⟩, n16⟩
    · exact ⟨⟨"is_signs", by simp, t19⟩, n19⟩
  have tsd : ([(tc16, tp16), (tc19, tp19)] : List (Addr × Addr)).map (·.2) = [tp16, tp19] := rfl
  have c__law_deck := ok__law_deck (P := l.prog) (w := w) (base := base) (ts := ([(tc16, tp16), (tc19, tp19)] : List (Addr × Addr)).map (·.2)) F__law_deck (PySem.W.mg_of X G a0) T 
  have c__law_gcd := ok__law_gcd (P := l.prog) (w := w) (base := base) (ts := ([(tc16, tp16), (tc19, tp19)] : List (Addr × Addr)).map (·.2)) F__law_gcd (PySem.W.mg_of X G a1) T 
  have c__law_pair := ok__law_pair (P := l.prog) (w := w) (base := base) (ts := ([(tc16, tp16), (tc19, tp19)] : List (Addr × Addr)).map (·.2)) F__law_pair (PySem.W.mg_of X G a2) T c__law_gcd
  have c__law_take := ok__law_take (P := l.prog) (w := w) (base := base) (ts := ([(tc16, tp16), (tc19, tp19)] : List (Addr × Addr)).map (·.2)) F__law_take (PySem.W.mg_of X G a3) T 
  have c__law_drawn_number := ok__law_drawn_number (P := l.prog) (w := w) (base := base) (ts := ([(tc16, tp16), (tc19, tp19)] : List (Addr × Addr)).map (·.2)) F__law_drawn_number (PySem.W.mg_of X G a4) T c__law_pair c__law_take
  have c__law_rounds := ok__law_rounds (P := l.prog) (w := w) (base := base) (ts := ([(tc16, tp16), (tc19, tp19)] : List (Addr × Addr)).map (·.2)) F__law_rounds (PySem.W.mg_of X G a5) T 
  have c__law_sequence := ok__law_sequence (P := l.prog) (w := w) (base := base) (ts := ([(tc16, tp16), (tc19, tp19)] : List (Addr × Addr)).map (·.2)) F__law_sequence (PySem.W.mg_of X G a6) T 
  have c__law_due := ok__law_due (P := l.prog) (w := w) (base := base) (ts := ([(tc16, tp16), (tc19, tp19)] : List (Addr × Addr)).map (·.2)) F__law_due (PySem.W.mg_of X G a7) T c__law_rounds c__law_sequence
  have c__law_is_right := ok__law_is_right (P := l.prog) (w := w) (base := base) (ts := ([(tc16, tp16), (tc19, tp19)] : List (Addr × Addr)).map (·.2)) F__law_is_right (PySem.W.mg_of X G a8) T c__law_sequence
  have c__law_same := ok__law_same (P := l.prog) (w := w) (base := base) (ts := ([(tc16, tp16), (tc19, tp19)] : List (Addr × Addr)).map (·.2)) F__law_same (PySem.W.mg_of X G a9) T  8
  have c_is_integer := ok_is_integer (P := l.prog) (w := w) (base := base) (ts := ([(tc16, tp16), (tc19, tp19)] : List (Addr × Addr)).map (·.2)) F_is_integer (PySem.W.mg_of X G a10) T 
  have c_is_integer_from := ok_is_integer_from (P := l.prog) (w := w) (base := base) (ts := ([(tc16, tp16), (tc19, tp19)] : List (Addr × Addr)).map (·.2)) F_is_integer_from (PySem.W.mg_of X G a11) T c_is_integer
  have c_lowest := ok_lowest (P := l.prog) (w := w) (base := base) (ts := ([(tc16, tp16), (tc19, tp19)] : List (Addr × Addr)).map (·.2)) F_lowest (PySem.W.mg_of X G a12) T 
  have c_is_number := ok_is_number (P := l.prog) (w := w) (base := base) (ts := ([(tc16, tp16), (tc19, tp19)] : List (Addr × Addr)).map (·.2)) F_is_number (PySem.W.mg_of X G a13) T c_is_integer c_is_integer_from c_lowest
  have c_check_number := ok_check_number (P := l.prog) (w := w) (base := base) (ts := ([(tc16, tp16), (tc19, tp19)] : List (Addr × Addr)).map (·.2)) F_check_number (PySem.W.mg_of X G a14) T c_is_number
  have c_tails_of := ok_tails_of (P := l.prog) (w := w) (base := base) (ts := ([(tc16, tp16), (tc19, tp19)] : List (Addr × Addr)).map (·.2)) F_tails_of (PySem.W.mg_of X G a15) T 
  have c_figures := ok_figures (P := l.prog) (w := w) (base := base) (ts := ([(tc16, tp16), (tc19, tp19)] : List (Addr × Addr)).map (·.2)) F_figures (PySem.W.mg_of X G a16) T ⟨_, _, _, _, _, _, _, _, rfl, l16, c16⟩ ⟨by simp, TBs (tc16, tp16) (by simp), tab_cd a16 l16 t16⟩ c_check_number c_tails_of
  have c_in_base_two := ok_in_base_two (P := l.prog) (w := w) (base := base) (ts := ([(tc16, tp16), (tc19, tp19)] : List (Addr × Addr)).map (·.2)) F_in_base_two (PySem.W.mg_of X G a17) T 
  have c_sum_of_row := ok_sum_of_row (P := l.prog) (w := w) (base := base) (ts := ([(tc16, tp16), (tc19, tp19)] : List (Addr × Addr)).map (·.2)) F_sum_of_row (PySem.W.mg_of X G a18) T c_lowest c_in_base_two
  have c_is_signs := ok_is_signs (P := l.prog) (w := w) (base := base) (ts := ([(tc16, tp16), (tc19, tp19)] : List (Addr × Addr)).map (·.2)) F_is_signs (PySem.W.mg_of X G a19) T ⟨_, _, _, _, _, _, _, _, rfl, l19, c19⟩ ⟨by simp, TBs (tc19, tp19) (by simp), tab_cd a19 l19 t19⟩ c_is_integer_from
  have c_is_figures := ok_is_figures (P := l.prog) (w := w) (base := base) (ts := ([(tc16, tp16), (tc19, tp19)] : List (Addr × Addr)).map (·.2)) F_is_figures (PySem.W.mg_of X G a20) T c_is_signs
  have c_number := ok_number (P := l.prog) (w := w) (base := base) (ts := ([(tc16, tp16), (tc19, tp19)] : List (Addr × Addr)).map (·.2)) F_number (PySem.W.mg_of X G a21) T c_sum_of_row c_is_figures
  have c_law := ok_law (P := l.prog) (w := w) (base := base) (ts := ([(tc16, tp16), (tc19, tp19)] : List (Addr × Addr)).map (·.2)) F_law (PySem.W.mg_of X G a22) T c__law_deck c__law_drawn_number c__law_due c__law_is_right c__law_same c_figures c_number kw_figures_0_number kw_number_0_told
  exact c_law.fn
end K03
open PySem PySem.W PyProof.Rows
set_option maxHeartbeats 0 in
theorem PySem.Challenge.cw_tosstrees_k03_whole_figures_of_numbers_holds : PySem.Challenge.rw_tosstrees_k03_whole_figures_of_numbers.Holds := by
  w_on; o_law; k_head; (case hw => w_witness2)
  k_fill
  refine VL.walk_ofG (l := PySem.Challenge.rw_tosstrees_k03_whole_figures_of_numbers) (n := 63) (k := 10) (x := "script") (xs := ["figures", "is_signs"]) (S := K03.S_law) rfl (by decide) rfl ⟨rfl, by decide, by decide⟩ (by decide +kernel) (fun w h Y => PySem.W.kIn_of Y) ?F (fun ns hl => K03.law_top ns hl)
  case F =>
    intro w mg fa h KX G hmg
    refine' K03.all_mk KX G hmg ?a0 ?l0 ?c0 ?k0 ?a1 ?l1 ?c1 ?k1 ?a2 ?l2 ?c2 ?k2 ?a3 ?l3 ?c3 ?k3 ?a4 ?l4 ?c4 ?k4 ?a5 ?l5 ?c5 ?k5 ?a6 ?l6 ?c6 ?k6 ?a7 ?l7 ?c7 ?k7 ?a8 ?l8 ?c8 ?k8 ?a9 ?l9 ?c9 ?k9 ?a10 ?l10 ?c10 ?k10 ?a11 ?l11 ?c11 ?k11 ?a12 ?l12 ?c12 ?k12 ?a13 ?l13 ?c13 ?k13 ?a14 ?l14 ?c14 ?k14 ?a15 ?l15 ?c15 ?k15 ?a16 ?l16 ?c16 ?k16 ?e16 ?m16 ?v16 ?n16 ?a17 ?l17 ?c17 ?k17 ?a18 ?l18 ?c18 ?k18 ?a19 ?l19 ?c19 ?k19 ?e19 ?m19 ?v19 ?n19 ?a20 ?l20 ?c20 ?k20 ?a21 ?l21 ?c21 ?k21 ?a22 ?l22 ?c22 ?k22 ?z_abs ?z_all ?z_bool ?z_gcd ?z_int ?z_isinstance ?z_len ?z_list ?z_max ?z_min ?z_range ?z_str ?z_tuple
    (case a0 => k_is); (case l0 => k_is); (case c0 => k_is); (case k0 => k_is); (case a1 => k_is); (case l1 => k_is); (case c1 => k_is); (case k1 => k_is); (case a2 => k_is); (case l2 => k_is); (case c2 => k_is); (case k2 => k_is); (case a3 => k_is); (case l3 => k_is); (case c3 => k_is); (case k3 => k_is); (case a4 => k_is); (case l4 => k_is); (case c4 => k_is); (case k4 => k_is); (case a5 => k_is); (case l5 => k_is); (case c5 => k_is); (case k5 => k_is); (case a6 => k_is); (case l6 => k_is); (case c6 => k_is); (case k6 => k_is); (case a7 => k_is); (case l7 => k_is); (case c7 => k_is); (case k7 => k_is); (case a8 => k_is); (case l8 => k_is); (case c8 => k_is); (case k8 => k_is); (case a9 => k_is); (case l9 => k_is); (case c9 => k_is); (case k9 => k_is); (case a10 => k_is); (case l10 => k_is); (case c10 => k_is); (case k10 => k_is); (case a11 => k_is); (case l11 => k_is); (case c11 => k_is); (case k11 => k_is); (case a12 => k_is); (case l12 => k_is); (case c12 => k_is); (case k12 => k_is); (case a13 => k_is); (case l13 => k_is); (case c13 => k_is); (case k13 => k_is); (case a14 => k_is); (case l14 => k_is); (case c14 => k_is); (case k14 => k_is); (case a15 => k_is); (case l15 => k_is); (case c15 => k_is); (case k15 => k_is); (case a16 => k_is); (case l16 => k_is); (case c16 => k_is); (case k16 => k_is); (case e16 => rfl); (case m16 => k_is); (case v16 => rfl); (case n16 => first | rfl | with_unfolding_all rfl | decide); (case a17 => k_is); (case l17 => k_is); (case c17 => k_is); (case k17 => k_is); (case a18 => k_is); (case l18 => k_is); (case c18 => k_is); (case k18 => k_is); (case a19 => k_is); (case l19 => k_is); (case c19 => k_is); (case k19 => k_is); (case e19 => rfl); (case m19 => k_is); (case v19 => rfl); (case n19 => first | rfl | with_unfolding_all rfl | decide); (case a20 => k_is); (case l20 => k_is); (case c20 => k_is); (case k20 => k_is); (case a21 => k_is); (case l21 => k_is); (case c21 => k_is); (case k21 => k_is); (case a22 => k_is); (case l22 => k_is); (case c22 => k_is); (case k22 => k_is)
    (case z_abs => k_is); (case z_all => k_is); (case z_bool => k_is); (case z_gcd => k_is); (case z_int => k_is); (case z_isinstance => k_is); (case z_len => k_is); (case z_list => k_is); (case z_max => k_is); (case z_min => k_is); (case z_range => k_is); (case z_str => k_is); (case z_tuple => k_is)

end
