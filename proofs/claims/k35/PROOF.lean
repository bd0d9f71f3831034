import PyProof.Rows.All
import Wide.All
import OpenK.AllK
import Wide.FinOn
import PySem.Challenge.RW_tosstrees_k35_whole_means_of_a_crooked_c
import HandS.ForMost
import HandS.ForExc
import HandS.IsInst
import HandS.AnyAll
import HandS.Wide
import HandS.TupAny
import HandS.Flow
import HandS.Deep
import HandS.Gcd
import HandS.More
import HandS.Words
import HandS.Defaults
import HandS.Style
import HandS.Dict
import HandS.WideBits
import HandS.Conv
import HandS.TupMul
import HandS.GenList
import PyProof.TupleOfGen
import HandS.EndTab
import KE.KNest
import PyProof.SumWalkG
import PyProof.ReprRoads
import KE.KTupSum
import KE.KRevSl
import HandS.Zip
import HandS.Star
import KE.GoesEnum
import KE.KMathGC
import HandS.RevRange
import HandS.WordsExc
import HandS.ExcInit
import HandS.ExcField
import HandS.TryMany
import HandS.ExcIs
import HandS.SetFor
import HandS.Small
import PyProof.ReprLen
set_option Elab.async false
set_option linter.all false
section
set_option maxRecDepth 100000
set_option maxHeartbeats 2000000
namespace VL
open PySem PySem.Spec PyProof.Rows L2
abbrev D := PyData
abbrev Fg := PySem.W.Frag
/-- a slot of a frame, by values: nothing known, data that stays, a list of the frame's own (io: the caller's), a dict of the frame's own -/
inductive Cell where
  | un | dat (d : D) | lst (io : Bool) (ds : List D) | dic (kvs : List (Key × D)) | dit (kvs : List (List Key × D))
abbrev En := List Cell
/-- the arguments, and where the tables of code stand -/
abbrev As := List (Option V) × List Addr × (Str → V → L2.St → Hp → Prop)
/-- no error leaves -/
abbrev nW : Str → V → L2.St → Hp → Prop := fun _ _ _ _ => False
def own : Cell → Bool
  | .lst _ _ => true
  | .dic _ => true
  | .dit _ => true
  | _ => false
def isTbl : HO → Bool
  | .tbl _ => true
  | _ => false
/-- the code object of a generator expression, its own table of codes -/
def CodeAt (o : Obj) (P : Addr) : Prop := ∃ vs file tf flags tg inF text tt, o.cls = .type "code" ∧ o.data = .fields vs ∧ vs[11]? = some (.ref P) ∧ vs.getD 11 .none = .ref P ∧ vs.getD 18 .none = .str file tf ∧ vs.getD 7 .none = .int flags tg ∧ vs.getD 9 .none = .bool inF ∧ vs.getD 10 .none = .int text tt
theorem CodeAt.uniq {o : Obj} {P Q : Addr} (h : CodeAt o P) (k : CodeAt o Q) : P = Q := by
  obtain ⟨vs, _, _, _, _, _, _, _, _, d1, a1, _⟩ := h
  obtain ⟨ws, _, _, _, _, _, _, _, _, d2, a2, _⟩ := k
  rw [d1] at d2
  cases d2
  rw [a1] at a2
  cases a2
  rfl
/-- the object o, frozen -/
def frzC (c : Addr) (o : Obj) : HO := .frz o (.ext fun h => h.get? c = some o)
/-- the codes that a table holds are frozen, their own tables are in T -/
def Codes (B : Hp) (T : Addr → Prop) (ps : Array Value) : Prop := ∀ pos v, codeAmong pos ps.toList = some v → ∃ c P o, v = .ref c ∧ c ≠ P ∧ B c = some (frzC c o) ∧ CodeAt o P ∧ T P
/-- a table of codes, its codes' tables, theirs, and so on -/
def TabG (B : Hp) (P : Addr) : Prop := ∃ T : Addr → Prop, T P ∧ ∀ Q, T Q → ∃ ps, B Q = some (.tbl ps) ∧ TriplesOk ps.toList ∧ Codes B T ps
theorem TabG.out {B : Hp} {P : Addr} (h : TabG B P) : ∃ ps, B P = some (.tbl ps) ∧ TriplesOk ps.toList ∧ Codes B (TabG B) ps := by
  obtain ⟨T, t, k⟩ := h
  obtain ⟨ps, h1, h2, h3⟩ := k P t
  refine ⟨ps, h1, h2, fun pos v e => ?_⟩
  obtain ⟨c, Q, o, a1, a2, a3, a4, a5⟩ := h3 pos v e
  exact ⟨c, Q, o, a1, a2, a3, a4, T, a5, k⟩
theorem codes0 {B : Hp} {T : Addr → Prop} : Codes B T #[] := fun _ _ e => by cases e
theorem TabG.of0 {B : Hp} {P : Addr} (h : B P = some (.tbl #[])) : TabG B P := ⟨fun Q => B Q = some (.tbl #[]), h, fun Q q => ⟨#[], q, True.intro, codes0⟩⟩
theorem TabG.sub {B B' : Hp} (h : ∀ a o, B a = some o → B' a = some o) {P : Addr} : TabG B P → TabG B' P
  | ⟨T, t, k⟩ => ⟨T, t, fun Q q => by
    obtain ⟨ps, h1, h2, h3⟩ := k Q q
    refine ⟨ps, h _ _ h1, h2, fun pos v e => ?_⟩
    obtain ⟨c, Q, o, a1, a2, a3, a4, a5⟩ := h3 pos v e
    exact ⟨c, Q, o, a1, a2, h _ _ a3, a4, a5⟩⟩
/-- the table P has grown by one code at the most, all else stands -/
structure Grown (P : Addr) (H H2 : Hp) : Prop where
  off : ∀ b o, b ≠ P → H b = some o → H2 b = some o
  at_ : ∃ ps ps2, H P = some (.tbl ps) ∧ H2 P = some (.tbl ps2) ∧ TriplesOk ps2.toList ∧ ∀ pos v, codeAmong pos ps2.toList = some v → codeAmong pos ps.toList = some v ∨ ∃ c Q o, v = .ref c ∧ c ≠ Q ∧ H2 c = some (frzC c o) ∧ CodeAt o Q ∧ H2 Q = some (.tbl #[]) ∧ H c = none ∧ H Q = none
theorem Grown.tab {P : Addr} {H H2 : Hp} (g : Grown P H H2) {Q : Addr} (h : TabG H Q) : TabG H2 Q := by
  refine ⟨fun Q => TabG H Q ∨ H2 Q = some (.tbl #[]), .inl h, fun Q q => ?_⟩
  rcases q with q | q
  · obtain ⟨qs, h1, h2, h3⟩ := q.out
    have old : ∀ pos v, codeAmong pos qs.toList = some v → ∃ c Q' o, v = .ref c ∧ c ≠ Q' ∧ H2 c = some (frzC c o) ∧ CodeAt o Q' ∧ (TabG H Q' ∨ H2 Q' = some (.tbl #[])) := fun pos v e => by
      obtain ⟨c, Q', o, a1, a2, a3, a4, a5⟩ := h3 pos v e
      refine ⟨c, Q', o, a1, a2, g.off _ _ (fun z => ?_) a3, a4, .inl a5⟩
      obtain ⟨ps, _, p1, _⟩ := g.at_
      rw [← z, a3] at p1
      cases p1
    by_cases z : Q = P
    · subst z
      obtain ⟨ps, ps2, p1, p2, p3, p4⟩ := g.at_
      rw [p1] at h1
      cases h1
      refine ⟨ps2, p2, p3, fun pos v e => ?_⟩
      rcases p4 pos v e with e | ⟨c, Q', o, a1, a2, a3, a4, a5, _⟩
      · exact old pos v e
      · exact ⟨c, Q', o, a1, a2, a3, a4, .inr a5⟩
    · exact ⟨qs, g.off _ _ z h1, h2, old⟩
  · exact ⟨#[], q, True.intro, codes0⟩
/-- a key as data -/
def keyD : Key → D
  | .inl i => .int i
  | .inr x => .str x
mutual
/-- v is the data d, by what stands in H -/
inductive Dq (K : Fg) (H : Hp) : V → D → Prop
  | non : Dq K H .non .none
  | bl (b : Bool) : Dq K H (.bl b) (.bool b)
  | int (i : Int) : Dq K H (.int i) (.int i)
  | str (x : Str) : Dq K H (.str x) (.str x)
  | lst {a : Addr} {xs : List V} {ds : List D} : SqL K H a xs → DqAll K H xs ds → Dq K H (.ref a) (.list ds)
  | tup {a : Addr} {xs : List V} {ds : List D} : SqT K H a xs → DqAll K H xs ds → Dq K H (.ref a) (.tuple ds)
  | dct {a : Addr} {vs : List (Key × V)} {ds : List (D × D)} : Rd H a (.dK vs) → DqPs K H vs ds → Dq K H (.ref a) (.dict ds)
  /-- a set of ints (no dict's data looks so) -/
  | st {a : Addr} {S : Int → Bool} {n : Nat} {ns : List Int} : H a = some (.set S n) → (∀ k, S k = decide (k ∈ ns)) → Dq K H (.ref a) (.dict [(.list (ns.map .int), .list [])])
inductive DqPs (K : Fg) (H : Hp) : List (Key × V) → List (D × D) → Prop
  | nil : DqPs K H [] []
  | cons {k : Key} {v : V} {d : D} {r : List (Key × V)} {s : List (D × D)} : Dq K H v d → DqPs K H r s → DqPs K H ((k, v) :: r) ((keyD k, d) :: s)
inductive DqAll (K : Fg) (H : Hp) : List V → List D → Prop
  | nil : DqAll K H [] []
  | cons {v : V} {vs : List V} {d : D} {ds : List D} : Dq K H v d → DqAll K H vs ds → DqAll K H (v :: vs) (d :: ds)
end
mutual
theorem Dq.dp {K : Fg} {H : Hp} : ∀ {v : V} {d : D}, Dq K H v d → d.canLay0 = true → L2.Dp K H v d
  | _, _, .non, _ => .non
  | _, _, .bl b, _ => .bl b
  | _, _, .int i, _ => .int i
  | _, _, .str x, _ => .str x
  | _, _, .lst h r, c => .lst h (DqAll.dp r (by simpa [PyData.canLay0] using c))
  | _, _, .tup h r, c => .tup h (DqAll.dp r (by simpa [PyData.canLay0] using c))
  | _, _, .dct _ _, c => by simp [PyData.canLay0] at c
  | _, _, .st _ _, c => by simp [PyData.canLay0] at c
theorem DqAll.dp {K : Fg} {H : Hp} : ∀ {xs : List V} {ds : List D}, DqAll K H xs ds → PyData.canLayAll0 ds = true → L2.DpAll K H xs ds
  | _, _, .nil, _ => .nil
  | _, _, .cons h r, c => by
    rw [PyData.canLayAll0, Bool.and_eq_true] at c
    exact .cons (Dq.dp h c.1) (DqAll.dp r c.2)
end
structure ExT (B B' : Hp) : Prop where
  keep : ∀ a o, B a = some o → isTbl o = false → B' a = some o
  tabs : ∀ P, TabG B P → TabG B' P
theorem ExT.refl (B : Hp) : ExT B B := ⟨fun _ _ h _ => h, fun _ h => h⟩
theorem ExT.trans {B B1 B2 : Hp} (a : ExT B B1) (b : ExT B1 B2) : ExT B B2 := ⟨fun x o h t => b.keep x o (a.keep x o h t) t, fun P h => b.tabs P (a.tabs P h)⟩
theorem ExT.of {B B' : Hp} (h : ∀ a o, B a = some o → B' a = some o) : ExT B B' := ⟨fun a o e _ => h a o e, fun P t => t.sub h⟩
theorem ExT.new {B : Hp} {p : Addr} {o : HO} (h : B p = none) : ExT B (upd B p o) := .of fun a u e => by rw [upd_ne (ne_of_none e h)]; exact e
section
variable {K : Fg} {B B' H H' : Hp}
theorem rd_ext (e : ExT B B') {a : Addr} {o : HO} (t : isTbl o = false) (h : Rd B a o) : Rd B' a o := by
  rcases h with h | ⟨u, h⟩
  · exact .inl (e.keep _ _ h t)
  · exact .inr ⟨u, e.keep _ _ h rfl⟩
theorem sqL_ext (e : ExT B B') {a : Addr} {xs : List V} (h : SqL K B a xs) : SqL K B' a xs := h.imp (rd_ext e rfl) id
theorem sqT_ext (e : ExT B B') {a : Addr} {xs : List V} (h : SqT K B a xs) : SqT K B' a xs := by
  rcases h with (h | ⟨o, h⟩) | h
  · exact .inl (.inl (e.keep _ _ h rfl))
  · exact .inl (.inr ⟨o, e.keep _ _ h rfl⟩)
  · exact .inr h
mutual
theorem Dq.ext (e : ExT B B') : ∀ {v : V} {d : D}, Dq K B v d → Dq K B' v d
  | _, _, .non => .non
  | _, _, .bl b => .bl b
  | _, _, .int i => .int i
  | _, _, .str x => .str x
  | _, _, .lst h r => .lst (sqL_ext e h) (DqAll.ext e r)
  | _, _, .tup h r => .tup (sqT_ext e h) (DqAll.ext e r)
  | _, _, .dct h r => .dct (rd_ext e rfl h) (DqPs.ext e r)
  | _, _, .st h r => .st (e.keep _ _ h rfl) r
theorem DqPs.ext (e : ExT B B') : ∀ {xs : List (Key × V)} {ds : List (D × D)}, DqPs K B xs ds → DqPs K B' xs ds
  | _, _, .nil => .nil
  | _, _, .cons h r => .cons (Dq.ext e h) (DqPs.ext e r)
theorem DqAll.ext (e : ExT B B') : ∀ {xs : List V} {ds : List D}, DqAll K B xs ds → DqAll K B' xs ds
  | _, _, .nil => .nil
  | _, _, .cons h r => .cons (Dq.ext e h) (DqAll.ext e r)
end
theorem DqAll.len : ∀ {xs : List V} {ds : List D}, DqAll K B xs ds → xs.length = ds.length
  | _, _, .nil => rfl
  | _, _, .cons _ r => congrArg (· + 1) (DqAll.len r)
theorem DqAll.get : ∀ {xs : List V} {ds : List D} {i : Nat} {d : D}, DqAll K B xs ds → ds[i]? = some d → ∃ x, xs[i]? = some x ∧ Dq K B x d
  | _, _, _, _, .nil, h => by simp at h
  | _, _, 0, _, .cons h _, e => by
    simp at e
    subst e
    exact ⟨_, rfl, h⟩
  | _, _, i + 1, _, .cons _ r, e => by
    obtain ⟨x, h1, h2⟩ := DqAll.get (i := i) r (by simpa using e)
    exact ⟨x, by simpa using h1, h2⟩
theorem DqAll.getV : ∀ {xs : List V} {ds : List D} {i : Nat} {x : V}, DqAll K B xs ds → xs[i]? = some x → ∃ d, ds[i]? = some d ∧ Dq K B x d
  | _, _, _, _, .nil, h => by simp at h
  | _, _, 0, _, .cons h _, e => by
    simp at e
    subst e
    exact ⟨_, rfl, h⟩
  | _, _, i + 1, _, .cons _ r, e => by
    obtain ⟨x, h1, h2⟩ := DqAll.getV (i := i) r (by simpa using e)
    exact ⟨x, by simpa using h1, h2⟩
theorem DqAll.app : ∀ {xs ys : List V} {ds es : List D}, DqAll K B xs ds → DqAll K B ys es → DqAll K B (xs ++ ys) (ds ++ es)
  | _, _, _, _, .nil, s => s
  | _, _, _, _, .cons h r, s => .cons h (DqAll.app r s)
theorem DqAll.take : ∀ {xs : List V} {ds : List D} (n : Nat), DqAll K B xs ds → DqAll K B (xs.take n) (ds.take n)
  | _, _, 0, _ => by simp; exact .nil
  | _, _, _ + 1, .nil => .nil
  | _, _, n + 1, .cons h r => .cons h (DqAll.take n r)
theorem DqAll.drop : ∀ {xs : List V} {ds : List D} (n : Nat), DqAll K B xs ds → DqAll K B (xs.drop n) (ds.drop n)
  | _, _, 0, r => r
  | _, _, _ + 1, .nil => .nil
  | _, _, n + 1, .cons _ r => DqAll.drop n r
theorem DqAll.set : ∀ {xs : List V} {ds : List D} {x : V} {d : D} (n : Nat), DqAll K B xs ds → Dq K B x d → DqAll K B (xs.set n x) (ds.set n d)
  | _, _, _, _, _, .nil, _ => .nil
  | _, _, _, _, 0, .cons _ r, h => .cons h r
  | _, _, _, _, n + 1, .cons h r, q => .cons h (DqAll.set n r q)
theorem dqAll_ints : ∀ (ns : List Int), DqAll K B (ns.map V.int) (ns.map PyData.int)
  | [] => .nil
  | n :: r => .cons (.int n) (dqAll_ints r)
theorem DqAll.ints : ∀ {xs : List V} {ns : List Int}, DqAll K B xs (ns.map PyData.int) → xs = ns.map V.int
  | _, [], .nil => rfl
  | _, n :: r, .cons h t => by
    cases h
    rw [DqAll.ints t]
    rfl
end
end VL
end
section
set_option autoImplicit false
set_option maxRecDepth 100000
set_option maxHeartbeats 2000000
namespace VL
open PySem PySem.Spec PyProof.Rows L2
inductive DqKV {κ : Type} (K : Fg) (B : Hp) : List (κ × V) → List (κ × D) → Prop
  | nil : DqKV K B [] []
  | cons {k : κ} {v : V} {d : D} {r : List (κ × V)} {s : List (κ × D)} : Dq K B v d → DqKV K B r s → DqKV K B ((k, v) :: r) ((k, d) :: s)
theorem DqKV.ext {κ : Type} {K : Fg} {B B' : Hp} (e : ExT B B') : ∀ {vs : List (κ × V)} {ds : List (κ × D)}, DqKV K B vs ds → DqKV K B' vs ds
  | _, _, .nil => .nil
  | _, _, .cons h r => .cons (Dq.ext e h) (DqKV.ext e r)
/-- what an own cell's object holds -/
def OwnAt (K : Fg) (B H : Hp) (p : Addr) : Cell → Prop
  | .lst _ ds => ∃ xs, H p = some (.lst xs) ∧ DqAll K B xs ds
  | .dic kvs => ∃ vs, H p = some (.dK vs) ∧ DqKV K B vs kvs
  | .dit kvs => ∃ vs, H p = some (.dT vs) ∧ DqKV K B vs kvs
  | _ => False
theorem OwnAt.some {K : Fg} {B H : Hp} {p : Addr} : ∀ {c : Cell}, OwnAt K B H p c → ∃ o, H p = some o ∧ isTbl o = false ∧ Mut (some o)
  | .lst _ _, ⟨_, h, _⟩ => ⟨_, h, rfl, True.intro⟩
  | .dic _, ⟨_, h, _⟩ => ⟨_, h, rfl, True.intro⟩
  | .dit _, ⟨_, h, _⟩ => ⟨_, h, rfl, True.intro⟩
theorem OwnAt.ext {K : Fg} {B B' H H' : Hp} {p : Addr} (e : ExT B B') (h : H' p = H p) : ∀ {c : Cell}, OwnAt K B H p c → OwnAt K B' H' p c
  | .lst _ _, ⟨xs, q, r⟩ => ⟨xs, h.trans q, DqAll.ext e r⟩
  | .dic _, ⟨vs, q, r⟩ => ⟨vs, h.trans q, DqKV.ext e r⟩
  | .dit _, ⟨vs, q, r⟩ => ⟨vs, h.trans q, DqKV.ext e r⟩
/-- a is the object of an own cell -/
def Ow (ρ : En) (σ : L2.St) (a : Addr) : Prop := ∃ (i : Nat) (c : Cell), ρ[i]? = some c ∧ own c = true ∧ σ[i]? = some (some (V.ref a))
structure Sv (K : Fg) (as : As) (Z : Hp) (ρ : En) (σ : L2.St) (B H : Hp) : Prop where
  len : ρ.length = σ.length
  dat : ∀ (i : Nat) (d : D), ρ[i]? = some (Cell.dat d) → ∃ v, σ[i]? = some (some v) ∧ Dq K B v d
  own : ∀ (i : Nat) (c : Cell), ρ[i]? = some c → own c = true → ∃ p, σ[i]? = some (some (V.ref p)) ∧ B p = none ∧ OwnAt K B H p c
  one : ∀ (i j : Nat) (ci cj : Cell) (p : Addr), ρ[i]? = some ci → ρ[j]? = some cj → VL.own ci = true → VL.own cj = true → σ[i]? = some (some (V.ref p)) → σ[j]? = some (some (V.ref p)) → i = j
  off : ∀ a, ¬ Ow ρ σ a → Z a = none → H a = B a
  hid : ∀ a o, Z a = some o → H a = some o ∧ B a = none ∧ ¬ Ow ρ σ a ∧ ((∃ xs, o = .lst xs) ∨ (∃ kvs, o = .dK kvs) ∨ ∃ kvs, o = .dT kvs)
  io : ∀ (i : Nat) (ds : List D), ρ[i]? = some (Cell.lst true ds) → σ[i]? = as.1[i]?
  tab : ∀ P ∈ as.2.1, TabG B P
section
variable {K : Fg} {as : As} {Z : Hp} {ρ : En} {σ : L2.St} {B H : Hp}
theorem Sv.ow (S : Sv K as Z ρ σ B H) {a : Addr} (h : Ow ρ σ a) : B a = none ∧ ∃ o, H a = some o ∧ isTbl o = false ∧ Mut (some o) := by
  obtain ⟨i, c, h1, h2, h3⟩ := h
  obtain ⟨p, q1, q2, q3⟩ := S.own i c h1 h2
  rw [h3] at q1
  cases q1
  exact ⟨q2, q3.some⟩
theorem Sv.sub (S : Sv K as Z ρ σ B H) {a : Addr} {o : HO} (h : B a = some o) : H a = some o := by
  by_cases w : Ow ρ σ a
  · rw [(S.ow w).1] at h
    cases h
  · cases z : Z a with
    | none => rw [S.off a w z, h]
    | some u =>
      rw [(S.hid a u z).2.1] at h
      cases h
theorem Sv.ext (S : Sv K as Z ρ σ B H) : ExT B H := .of fun _ _ h => S.sub h
theorem Sv.free (S : Sv K as Z ρ σ B H) {p : Addr} (h : H p = none) : B p = none := by
  cases e : B p with
  | none => rfl
  | some o =>
    rw [S.sub e] at h
    cases h
theorem Sv.nOw (S : Sv K as Z ρ σ B H) {p : Addr} (h : H p = none) : ¬ Ow ρ σ p := fun w => by
  obtain ⟨_, o, e, _⟩ := S.ow w
  rw [h] at e
  cases e
theorem Sv.nZ (S : Sv K as Z ρ σ B H) {p : Addr} (h : H p = none) : Z p = none := by
  cases e : Z p with
  | none => rfl
  | some o =>
    rw [(S.hid p o e).1] at h
    cases h
/-- the stable part grows, the own objects stand -/
theorem Sv.grow {B' H' : Hp} (S : Sv K as Z ρ σ B H) (e : ExT B B') (hn : ∀ a, Ow ρ σ a ∨ Z a ≠ none → B' a = none ∧ H' a = H a) (ho : ∀ a, ¬ Ow ρ σ a → Z a = none → H' a = B' a) : Sv K as Z ρ σ B' H' where
  len := S.len
  dat := fun i d h => by
    obtain ⟨v, h1, h2⟩ := S.dat i d h
    exact ⟨v, h1, Dq.ext e h2⟩
  own := fun i c h hc => by
    obtain ⟨p, h1, h2, h3⟩ := S.own i c h hc
    obtain ⟨w1, w2⟩ := hn p (.inl ⟨i, c, h, hc, h1⟩)
    exact ⟨p, h1, w1, h3.ext e w2⟩
  one := S.one
  off := ho
  hid := fun a o h => by
    obtain ⟨h1, h2, h3, h4⟩ := S.hid a o h
    obtain ⟨w1, w2⟩ := hn a (.inr (by rw [h]; exact fun z => by cases z))
    exact ⟨w2.trans h1, w1, h3, h4⟩
  io := S.io
  tab := fun P h => e.tabs P (S.tab P h)
/-- a new object that stays -/
theorem Sv.al (S : Sv K as Z ρ σ B H) {p : Addr} {o : HO} (h : H p = none) : Sv K as Z ρ σ (upd B p o) (upd H p o) :=
  S.grow (.new (S.free h)) (fun a w => by
    have ne : a ≠ p := fun z => w.elim (fun w => S.nOw h (z ▸ w)) fun w => w (z ▸ S.nZ h)
    rw [upd_ne ne, upd_ne ne]
    refine ⟨?_, rfl⟩
    rcases w with w | w
    · exact (S.ow w).1
    · cases e : Z a with
      | none => exact (w e).elim
      | some o => exact (S.hid a o e).2.1) fun a w wz => by
    by_cases z : a = p
    · rw [z, upd_same, upd_same]
    · rw [upd_ne z, upd_ne z]
      exact S.off a w wz
theorem env_set {ρ : En} {i j : Nat} {c c' : Cell} (h : (ρ.set i c)[j]? = some c') : (i = j ∧ c' = c ∧ i < ρ.length) ∨ (i ≠ j ∧ ρ[j]? = some c') := by
  by_cases e : i = j
  · subst e
    rw [List.getElem?_set] at h
    simp at h
    exact .inl ⟨rfl, h.2.symm, h.1⟩
  · rw [List.getElem?_set_ne e] at h
    exact .inr ⟨e, h⟩
theorem st_set {σ : L2.St} {i j : Nat} {v : Option V} (e : i ≠ j) : (σ.set i v)[j]? = σ[j]? := List.getElem?_set_ne e
theorem st_set_same {σ : L2.St} {i : Nat} {v : Option V} (h : i < σ.length) : (σ.set i v)[i]? = some v := by simp [h]
/-- slot i's own object (if any) is let stay, the slot forgotten -/
theorem Sv.drop (S : Sv K as Z ρ σ B H) (i : Nat) : ∃ B', ExT B B' ∧ Sv K as Z (ρ.set i .un) σ B' H ∧ ∀ c, ρ[i]? = some c → VL.own c = true → ∀ p, σ[i]? = some (some (V.ref p)) → B' = fun a => if a = p then H a else B a := by
  by_cases hw : ∃ c, ρ[i]? = some c ∧ VL.own c = true
  · obtain ⟨c, h1, h2⟩ := hw
    obtain ⟨p, q1, q2, q3⟩ := S.own i c h1 h2
    obtain ⟨o, e1, e2, e3⟩ := q3.some
    have ex : ExT B (fun a => if a = p then H a else B a) := .of fun a u h => by
      show (if a = p then H a else B a) = some u
      by_cases z : a = p
      · rw [z, q2] at h
        cases h
      · rw [if_neg z, h]
    have key : ∀ (j : Nat) (c' : Cell), (ρ.set i .un)[j]? = some c' → VL.own c' = true → i ≠ j ∧ ρ[j]? = some c' := fun j c' h hc => by
      rcases env_set h with ⟨_, z, _⟩ | z
      · rw [z] at hc
        cases hc
      · exact z
    refine ⟨_, ex, ⟨by rw [List.length_set]; exact S.len, fun j d h => ?_, fun j c' h hc => ?_, fun j k cj ck r hj hk oj ok ej ek => ?_, fun a w wz => ?_, fun a o hz => ?_, fun j ds h => ?_, fun P h => ex.tabs P (S.tab P h)⟩, fun c' h hc p' hp => ?_⟩
    · rcases env_set h with ⟨_, z, _⟩ | ⟨_, z⟩
      · cases z
      · obtain ⟨v, a1, a2⟩ := S.dat j d z
        exact ⟨v, a1, Dq.ext ex a2⟩
    · obtain ⟨ne, z⟩ := key j c' h hc
      obtain ⟨r, a1, a2, a3⟩ := S.own j c' z hc
      have rp : r ≠ p := fun y => ne (S.one i j c c' p h1 z h2 hc q1 (by rw [← y]; exact a1))
      refine ⟨r, a1, ?_, a3.ext ex rfl⟩
      show (if r = p then H r else B r) = none
      rw [if_neg rp]
      exact a2
    · obtain ⟨_, z1⟩ := key j cj hj oj
      obtain ⟨_, z2⟩ := key k ck hk ok
      exact S.one j k cj ck r z1 z2 oj ok ej ek
    · show H a = if a = p then H a else B a
      by_cases z : a = p
      · rw [if_pos z]
      · rw [if_neg z]
        refine S.off a (fun ⟨j, c', y1, y2, y3⟩ => w ⟨j, c', ?_, y2, y3⟩) wz
        have ne : i ≠ j := fun y => by
          rw [← y, q1] at y3
          cases y3
          exact z rfl
        rw [List.getElem?_set_ne ne]
        exact y1
    · obtain ⟨h3, h4, h5, h6⟩ := S.hid a o hz
      refine ⟨h3, ?_, fun ⟨j, c', y1, y2, y3⟩ => h5 ⟨j, c', (key j c' y1 y2).2, y2, y3⟩, h6⟩
      have na : a ≠ p := fun z => h5 ⟨i, c, h1, h2, by rw [z]; exact q1⟩
      show (if a = p then H a else B a) = none
      rw [if_neg na]
      exact h4
    · rcases env_set h with ⟨_, z, _⟩ | ⟨_, z⟩
      · cases z
      · exact S.io j ds z
    · rw [q1] at hp
      cases hp
      rfl
  · refine ⟨B, .refl B, ⟨by rw [List.length_set]; exact S.len, fun j d h => ?_, fun j c' h hc => ?_, fun j k cj ck r hj hk oj ok ej ek => ?_, fun a w wz => ?_, fun a o hz => ?_, fun j ds h => ?_, S.tab⟩, fun c' h hc p' hp => (hw ⟨c', h, hc⟩).elim⟩
    · rcases env_set h with ⟨_, z, _⟩ | ⟨_, z⟩
      · cases z
      · exact S.dat j d z
    · rcases env_set h with ⟨_, z, _⟩ | ⟨_, z⟩
      · rw [z] at hc
        cases hc
      · exact S.own j c' z hc
    · rcases env_set hj with ⟨_, z, _⟩ | ⟨_, z1⟩
      · rw [z] at oj
        cases oj
      · rcases env_set hk with ⟨_, z, _⟩ | ⟨_, z2⟩
        · rw [z] at ok
          cases ok
        · exact S.one j k cj ck r z1 z2 oj ok ej ek
    · refine S.off a (fun ⟨j, c', y1, y2, y3⟩ => w ⟨j, c', ?_, y2, y3⟩) wz
      have ne : i ≠ j := fun y => hw ⟨c', by rw [y]; exact y1, y2⟩
      rw [List.getElem?_set_ne ne]
      exact y1
    · obtain ⟨h3, h4, h5, h6⟩ := S.hid a o hz
      refine ⟨h3, h4, fun ⟨j, c', y1, y2, y3⟩ => h5 ⟨j, c', ?_, y2, y3⟩, h6⟩
      rcases env_set y1 with ⟨_, z, _⟩ | ⟨_, z⟩
      · rw [z] at y2
        cases y2
      · exact z
    · rcases env_set h with ⟨_, z, _⟩ | ⟨_, z⟩
      · cases z
      · exact S.io j ds z
/-- data is put into a forgotten slot -/
theorem Sv.put {i : Nat} (S : Sv K as Z (ρ.set i .un) σ B H) {v : V} {d : D} (hd : Dq K B v d) : Sv K as Z (ρ.set i (.dat d)) (σ.set i (some v)) B H := by
  have hl : ρ.length = σ.length := by
    have := S.len
    rwa [List.length_set] at this
  have up : ∀ (j : Nat) (c : Cell), i ≠ j → ρ[j]? = some c → (ρ.set i .un)[j]? = some c := fun j c ne h => by rw [List.getElem?_set_ne ne]; exact h
  have key : ∀ (j : Nat) (c' : Cell), (ρ.set i (.dat d))[j]? = some c' → VL.own c' = true → i ≠ j ∧ (ρ.set i .un)[j]? = some c' := fun j c' h hc => by
    rcases env_set h with ⟨_, z, _⟩ | ⟨ne, z⟩
    · rw [z] at hc
      cases hc
    · exact ⟨ne, up j c' ne z⟩
  refine ⟨by rw [List.length_set, List.length_set]; exact hl, fun j e h => ?_, fun j c' h hc => ?_, fun j k cj ck r hj hk oj ok ej ek => ?_, fun a w wz => ?_, fun a o hz => ?_, fun j ds h => ?_, S.tab⟩
  · rcases env_set h with ⟨y, z, l⟩ | ⟨ne, z⟩
    · cases z
      subst y
      exact ⟨v, st_set_same (by omega), hd⟩
    · rw [st_set ne]
      exact S.dat j e (up j _ ne z)
  · obtain ⟨ne, z⟩ := key j c' h hc
    rw [st_set ne]
    exact S.own j c' z hc
  · obtain ⟨n1, z1⟩ := key j cj hj oj
    obtain ⟨n2, z2⟩ := key k ck hk ok
    rw [st_set n1] at ej
    rw [st_set n2] at ek
    exact S.one j k cj ck r z1 z2 oj ok ej ek
  · refine S.off a (fun ⟨j, c', y1, y2, y3⟩ => w ⟨j, c', ?_, y2, ?_⟩) wz
    · rcases env_set y1 with ⟨_, z, _⟩ | ⟨ne, z⟩
      · rw [z] at y2
        cases y2
      · rw [List.getElem?_set_ne ne]
        exact z
    · rcases env_set y1 with ⟨_, z, _⟩ | ⟨ne, z⟩
      · rw [z] at y2
        cases y2
      · rw [st_set ne]
        exact y3
  · obtain ⟨h3, h4, h5, h6⟩ := S.hid a o hz
    refine ⟨h3, h4, fun ⟨j, c', y1, y2, y3⟩ => ?_, h6⟩
    obtain ⟨n, z⟩ := key j c' y1 y2
    rw [st_set n] at y3
    exact h5 ⟨j, c', z, y2, y3⟩
  · rcases env_set h with ⟨_, z, _⟩ | ⟨ne, z⟩
    · cases z
    · rw [st_set ne]
      exact S.io j ds (up j _ ne z)
/-- a new own object is put into a forgotten slot -/
theorem Sv.putOwn {i : Nat} (S : Sv K as Z (ρ.set i .un) σ B H) {p : Addr} {o : HO} {c : Cell} (hp : H p = none) (hc : VL.own c = true) (hio : ∀ ds, c ≠ .lst true ds) (hi : i < ρ.length) (hd : OwnAt K B (upd H p o) p c) : Sv K as Z (ρ.set i c) (σ.set i (some (V.ref p))) B (upd H p o) := by
  have hl : ρ.length = σ.length := by
    have := S.len
    rwa [List.length_set] at this
  have up : ∀ (j : Nat) (c : Cell), i ≠ j → ρ[j]? = some c → (ρ.set i .un)[j]? = some c := fun j c ne h => by rw [List.getElem?_set_ne ne]; exact h
  have old : ∀ (j : Nat) (c' : Cell) (r : Addr), i ≠ j → ρ[j]? = some c' → VL.own c' = true → σ[j]? = some (some (V.ref r)) → r ≠ p := fun j c' r ne h h2 h3 z => S.nOw hp ⟨j, c', up j c' ne h, h2, by rw [← z]; exact h3⟩
  refine ⟨by rw [List.length_set, List.length_set]; exact hl, fun j e h => ?_, fun j c' h h2 => ?_, fun j k cj ck r hj hk oj ok ej ek => ?_, fun a w wz => ?_, fun a o' hz => ?_, fun j ds h => ?_, S.tab⟩
  · rcases env_set h with ⟨y, z, l⟩ | ⟨ne, z⟩
    · rw [← z] at hc
      cases hc
    · rw [st_set ne]
      exact S.dat j e (up j _ ne z)
  · rcases env_set h with ⟨y, z, l⟩ | ⟨ne, z⟩
    · subst y
      subst z
      exact ⟨p, st_set_same (by omega), S.free hp, hd⟩
    · rw [st_set ne]
      obtain ⟨r, a1, a2, a3⟩ := S.own j c' (up j c' ne z) h2
      exact ⟨r, a1, a2, a3.ext (.refl B) (upd_ne (old j c' r ne z h2 a1))⟩
  · rcases env_set hj with ⟨y1, z1, l1⟩ | ⟨n1, z1⟩
    · rcases env_set hk with ⟨y2, z2, l2⟩ | ⟨n2, z2⟩
      · exact y1.symm.trans y2
      · rw [← y1, st_set_same (by omega)] at ej
        cases ej
        rw [st_set n2] at ek
        exact (old k ck p n2 z2 ok ek rfl).elim
    · rcases env_set hk with ⟨y2, z2, l2⟩ | ⟨n2, z2⟩
      · rw [← y2, st_set_same (by omega)] at ek
        cases ek
        rw [st_set n1] at ej
        exact (old j cj p n1 z1 oj ej rfl).elim
      · rw [st_set n1] at ej
        rw [st_set n2] at ek
        exact S.one j k cj ck r (up j _ n1 z1) (up k _ n2 z2) oj ok ej ek
  · have na : a ≠ p := fun z => w ⟨i, c, by simp [hi], hc, by rw [st_set_same (by omega), z]⟩
    rw [upd_ne na]
    refine S.off a (fun ⟨j, c', y1, y2, y3⟩ => w ⟨j, c', ?_, y2, ?_⟩) wz
    · rcases env_set y1 with ⟨_, z, _⟩ | ⟨ne, z⟩
      · rw [z] at y2
        cases y2
      · rw [List.getElem?_set_ne ne]
        exact z
    · rcases env_set y1 with ⟨_, z, _⟩ | ⟨ne, z⟩
      · rw [z] at y2
        cases y2
      · rw [st_set ne]
        exact y3
  · obtain ⟨h3, h4, h5, h6⟩ := S.hid a o' hz
    have na : a ≠ p := fun z => by
      rw [z, hp] at h3
      cases h3
    refine ⟨by rw [upd_ne na]; exact h3, h4, fun ⟨j, c', y1, y2, y3⟩ => ?_, h6⟩
    rcases env_set y1 with ⟨y, z, _⟩ | ⟨ne, z⟩
    · rw [← y, st_set_same (by omega)] at y3
      cases y3
      exact na rfl
    · rw [st_set ne] at y3
      exact h5 ⟨j, c', up j c' ne z, y2, y3⟩
  · rcases env_set h with ⟨_, z, _⟩ | ⟨ne, z⟩
    · exact (hio ds z.symm).elim
    · rw [st_set ne]
      exact S.io j ds (up j _ ne z)
/-- an own object is changed -/
theorem Sv.mut (S : Sv K as Z ρ σ B H) {i : Nat} {p : Addr} {o : HO} {c c' : Cell} (hi : ρ[i]? = some c) (hc : VL.own c = true) (hp : σ[i]? = some (some (V.ref p))) (hc' : VL.own c' = true) (hio : ∀ ds, c' = .lst true ds → ∃ ds', c = .lst true ds') (hd : OwnAt K B (upd H p o) p c') :
    Sv K as Z (ρ.set i c') σ B (upd H p o) := by
  have hil : i < ρ.length := (List.getElem?_eq_some_iff.mp hi).1
  obtain ⟨p', q1, q2, q3⟩ := S.own i c hi hc
  rw [hp] at q1
  cases q1
  have ot : ∀ (j : Nat) (cj : Cell) (r : Addr), i ≠ j → ρ[j]? = some cj → VL.own cj = true → σ[j]? = some (some (V.ref r)) → r ≠ p := fun j cj r ne h h2 h3 z => ne (S.one i j c cj p hi h hc h2 hp (by rw [← z]; exact h3))
  refine ⟨by rw [List.length_set]; exact S.len, fun j e h => ?_, fun j cj h h2 => ?_, fun j k cj ck r hj hk oj ok ej ek => ?_, fun a w wz => ?_, fun a o' hz => ?_, fun j ds h => ?_, S.tab⟩
  · rcases env_set h with ⟨_, z, _⟩ | ⟨_, z⟩
    · rw [← z] at hc'
      cases hc'
    · exact S.dat j e z
  · rcases env_set h with ⟨y, z, _⟩ | ⟨ne, z⟩
    · subst y
      subst z
      exact ⟨p, hp, q2, hd⟩
    · obtain ⟨r, a1, a2, a3⟩ := S.own j cj z h2
      exact ⟨r, a1, a2, a3.ext (.refl B) (upd_ne (ot j cj r ne z h2 a1))⟩
  · rcases env_set hj with ⟨y1, z1, l1⟩ | ⟨n1, z1⟩
    · rcases env_set hk with ⟨y2, z2, l2⟩ | ⟨n2, z2⟩
      · exact y1.symm.trans y2
      · rw [← y1, hp] at ej
        cases ej
        exact (ot k ck p n2 z2 ok ek rfl).elim
    · rcases env_set hk with ⟨y2, z2, l2⟩ | ⟨n2, z2⟩
      · rw [← y2, hp] at ek
        cases ek
        exact (ot j cj p n1 z1 oj ej rfl).elim
      · exact S.one j k cj ck r z1 z2 oj ok ej ek
  · have na : a ≠ p := fun z => w ⟨i, c', by simp [hil], hc', by rw [z]; exact hp⟩
    rw [upd_ne na]
    refine S.off a (fun ⟨j, cj, y1, y2, y3⟩ => w ⟨j, cj, ?_, y2, y3⟩) wz
    have ne : i ≠ j := fun y => by
      rw [← y, hp] at y3
      cases y3
      exact na rfl
    rw [List.getElem?_set_ne ne]
    exact y1
  · obtain ⟨h3, h4, h5, h6⟩ := S.hid a o' hz
    have na : a ≠ p := fun z => h5 ⟨i, c, hi, hc, by rw [z]; exact hp⟩
    refine ⟨by rw [upd_ne na]; exact h3, h4, fun ⟨j, cj, y1, y2, y3⟩ => ?_, h6⟩
    rcases env_set y1 with ⟨y, z, _⟩ | ⟨ne, z⟩
    · rw [← y, hp] at y3
      cases y3
      exact na rfl
    · exact h5 ⟨j, cj, z, y2, y3⟩
  · rcases env_set h with ⟨y, z, _⟩ | ⟨_, z⟩
    · subst y
      obtain ⟨ds', e⟩ := hio ds z.symm
      rw [e] at hi
      exact S.io i ds' hi
    · exact S.io j ds z
end
end VL
end
section
set_option autoImplicit false
set_option maxRecDepth 100000
set_option maxHeartbeats 2000000
namespace VL
open PySem PySem.Spec PyProof.Rows L2
open Classical in
/-- what stands at W as in H, all else as in B -/
noncomputable def ovl (W : Addr → Prop) (H B : Hp) : Hp := fun a => if W a then H a else B a
theorem ovl_in {W : Addr → Prop} {H B : Hp} {a : Addr} (h : W a) : ovl W H B a = H a := if_pos h
theorem ovl_out {W : Addr → Prop} {H B : Hp} {a : Addr} (h : ¬ W a) : ovl W H B a = B a := if_neg h
/-- B is H without some lists and dicts -/
structure Part (W : Addr → Prop) (H B : Hp) : Prop where
  own : ∀ a, W a → B a = none ∧ ((∃ xs, H a = some (.lst xs)) ∨ (∃ kvs, H a = some (.dK kvs)) ∨ ∃ kvs, H a = some (.dT kvs))
  off : ∀ a, ¬ W a → H a = B a
section
variable {P : Program} {w : World} {W : Addr → Prop} {H B B' : Hp} {h h' : Heap} {fs : List Addr}
theorem Part.no (p : Part W H B) {a : Addr} {o : HO} (e : H a = some o) (n1 : ∀ xs, o ≠ .lst xs) (n2 : ∀ kvs, o ≠ .dK kvs) (n3 : ∀ kvs, o ≠ .dT kvs) : ¬ W a := fun z => by
  rcases (p.own a z).2 with ⟨xs, q⟩ | ⟨kvs, q⟩ | ⟨kvs, q⟩
  · rw [e] at q
    cases q
    exact n1 _ rfl
  · rw [e] at q
    cases q
    exact n2 _ rfl
  · rw [e] at q
    cases q
    exact n3 _ rfl
theorem Part.sub (p : Part W H B) {a : Addr} {o : HO} (e : B a = some o) : H a = some o := by
  rw [p.off a fun z => by rw [(p.own a z).1] at e; cases e]
  exact e
theorem Part.ok (p : Part W H B) (k : HOk P w H h) : HOk P w B h := fun a o e =>
  (k a o (p.sub e)).stay (fun _ _ _ q => q) (fun b q => by rw [← p.off b (p.no q (fun _ z => by cases z) (fun _ z => by cases z) fun _ z => by cases z)]; exact q) fun b xs q => by
    rw [← p.off b (p.no q (fun _ z => by cases z) (fun _ z => by cases z) fun _ z => by cases z)]
    exact q
/-- behind the call: what was not shown stands -/
theorem Part.un (p : Part W H B) (u : Un fs [] B B' h h') (k : HOk P w H h) (k' : HOk P w B' h') (hf : ∀ b ∈ fs, H b = none) : Un fs [] H (ovl W H B') h h' ∧ HOk P w (ovl W H B') h' ∧ ∀ a, W a → B' a = none := by
  have nB : ∀ b, H b = none → B b = none := fun b n => by
    cases e : B b with
    | none => rfl
    | some o =>
      rw [p.sub e] at n
      cases n
  have gone : ∀ a, W a → B' a = none := fun a z => by
    obtain ⟨n, q⟩ := p.own a z
    have lt : a < h.objs.size := by
      rcases q with ⟨xs, q⟩ | ⟨kvs, q⟩ | ⟨kvs, q⟩
      · exact (k a _ q).lt
      · exact (k a _ q).lt
      · exact (k a _ q).lt
    obtain ⟨o, ho⟩ : ∃ o, h.get? a = some o := by
      rcases q with ⟨xs, q⟩ | ⟨kvs, q⟩ | ⟨kvs, q⟩
      · obtain ⟨_, its, m, _, e⟩ := k a _ q
        exact ⟨_, e⟩
      · obtain ⟨_, _, vs, _, o, _, _, e, _⟩ := k a _ q
        exact ⟨_, e⟩
      · obtain ⟨_, _, vs, _, o, _, _, e, _⟩ := k a _ q
        exact ⟨_, e⟩
    exact u.free a o ho n (by simp)
  have nW : ∀ b, H b = none → ¬ W b := fun b n z => by
    rcases (p.own b z).2 with ⟨xs, q⟩ | ⟨kvs, q⟩ | ⟨kvs, q⟩ <;> (rw [n] at q; cases q)
  refine ⟨⟨fun b o e n hb hx => u.keep b o e (nB b n) hb hx, fun b o e n hb hx => u.slot b o e (nB b n) hb hx, fun b o e n hx => ?_, fun b o e hx => u.there b o e hx, fun b xs e => ?_, fun b o v e => ?_, fun b ps e => ?_⟩, fun b o e => ?_, gone⟩
  · rw [ovl_out (nW b n)]
    exact u.free b o e (nB b n) hx
  · have z := p.no e (fun _ z => by cases z) (fun _ z => by cases z) fun _ z => by cases z
    rw [ovl_out z]
    rw [p.off b z] at e
    exact u.tups b xs e
  · have z := p.no e (fun _ z => by cases z) (fun _ z => by cases z) fun _ z => by cases z
    rw [ovl_out z]
    rw [p.off b z] at e
    exact u.frzs b o v e
  · have z := p.no e (fun _ z => by cases z) (fun _ z => by cases z) fun _ z => by cases z
    rw [ovl_out z]
    rw [p.off b z] at e
    exact u.tbls b ps e
  · by_cases z : W b
    · rw [ovl_in z] at e
      obtain ⟨nb, q⟩ := p.own b z
      have nf : b ∉ fs := fun y => by
        rw [hf b y] at e
        cases e
      have kp : ∀ ob, h.get? b = some ob → h'.get? b = some ob := fun ob y => u.keep b ob y nb nf (by simp)
      rcases q with ⟨xs, q⟩ | ⟨kvs, q⟩ | ⟨kvs, q⟩
      · rw [q] at e
        cases e
        obtain ⟨z1, its, m, r, y⟩ := k b _ q
        exact ⟨z1, its, m, r, kp _ y⟩
      · rw [q] at e
        cases e
        obtain ⟨z1, z2, vs, r, ob, es, ep, y, c⟩ := k b _ q
        exact ⟨z1, z2, vs, r, ob, es, ep, kp _ y, c⟩
      · rw [q] at e
        cases e
        obtain ⟨z1, z2, vs, r, ob, es, ep, y, c⟩ := k b _ q
        refine ⟨z1, z2, vs, Paired.mapP r fun _ _ w2 => ⟨w2.1, ?_, w2.2.2⟩, ob, es, ep, kp _ y, c⟩
        have ec := w2.2.1
        have zc := p.no ec (fun _ z => by cases z) (fun _ z => by cases z) fun _ z => by cases z
        rw [ovl_out zc]
        rw [p.off _ zc] at ec
        exact u.tups _ _ ec
    · rw [ovl_out z] at e
      exact (k' b o e).stay (fun _ _ _ q => q) (fun c q => by rw [ovl_out fun y => by rw [gone c y] at q; cases q]; exact q) fun c xs q => by
        rw [ovl_out fun y => by rw [gone c y] at q; cases q]
        exact q
end
section
variable {X : Cx} {k : Nat} {f : Addr} {fd : FuncData} {ps : List Str} {sp : Sp}
/-- a def is run over a part of the heap; no error leaves it -/
theorem run_part {W : Addr → Prop} {H B : Hp} {pins : List (Addr × Obj)} {σ : L2.St} {s : Shared} {Q : VK} {us : List Value} {vs : List V} (F : FnOk X.prog X.w X.K X.mg X.base CX0 k f fd ps sp) (hr : Room k X.A) (hb : Binds X.K fd ps []) (I : Inv X pins σ H s) (p : Part W H B) (r : Vals vs us)
    (h : sp vs B (fun v B' => (∀ a, W a → B' a = none) → Q v (ovl W H B')) E0) : wpAny (model X.prog X.w) X.A (call (.ref f) us) (EP X pins σ Q) X.xe s := by
  have hl : (us ++ []).length = ps.length := by
    rw [List.append_nil, ← r.length]
    exact F.len _ _ _ _ h
  have e0 := I.env0
  have nB : ∀ b, H b = none → B b = none := fun b n => by
    cases e : B b with
    | none => rfl
    | some o =>
      rw [p.sub e] at n
      cases n
  have e1 : Env0 X.prog X.w X.K X.mg X.base X.A X.stack s B := ⟨e0.frames, e0.mod, fun b o e => ⟨(e0.bs b o e).1, nB b (e0.bs b o e).2⟩, e0.bsz, e0.funs, fun b hb => nB b (e0.frf b hb), p.ok e0.hok, e0.bare⟩
  have b1 := hb s us I.kIn hl
  rw [List.append_nil] at b1
  refine wpAny_call (codeAny_mono (F.run X.A X.stack s B ⟨us, []⟩ us vs _ E0 hr e1 b1 r h) fun r s' hq => ?_)
  cases r with
  | error e => exact False.elim hq
  | ok fl =>
    cases fl with
    | ret u =>
      obtain ⟨v, B', os, bare, un, hok, rv, q⟩ := hq
      obtain ⟨u1, u2, u3⟩ := p.un un I.hok hok e0.frf
      exact I.after ⟨v, _, os, bare, u1, u2, rv, q u3⟩
    | next => exact False.elim hq
    | brk => exact False.elim hq
    | cont => exact False.elim hq
/-- f(e, ..), shown a part -/
def tCallP (sp : Sp) (t : TA) : TE := fun σ H Q => t σ H fun vs H1 => ∃ (W : Addr → Prop) (B : Hp), Part W H1 B ∧ sp vs B (fun v B' => (∀ a, W a → B' a = none) → Q v (ovl W H1 B')) E0
theorem pe_callP {x : Str} {p pos : Pos} {e : Expr} {es : List Expr} {t : TA} (F : FnOk X.prog X.w X.K X.mg X.base CX0 k f fd ps sp) (hr : Room k X.A) (hg : Gl X x) (hm : X.mg x = some (.ref f)) (hk : PySem.W.keepIn X.K (.ref f) = true) (hb : Binds X.K fd ps [])
    (ha : PA X (e :: es) t) (hdb : (x == ("__debug__" : Str)) = false := by decide) (he : starEach (e :: es) X.env = (false, eval e X.env) :: starEach es X.env := by rfl) (hpl : (backTo pos (starEach es X.env)).any (·.1) = false := by rfl) :
    PE X (.Call (.Name x p) (e :: es) [] pos) (tCallP sp t) := by
  refine ⟨fun pins s σ H Q I h => ?_⟩
  refine wpAny_Call_Name_kw (ld_glob I hg hm ?_ hdb)
  refine PySem.W.callWith_K (h₀ := X.base) I.ok.mod.kin hk (thn (ha.run pos pins s σ H _ I h) fun us s1 ⟨vs, H1, I1, r, W, B, p, q⟩ => ⟨I1.kIn, ?_⟩) he hpl
  exact run_part F hr hb I1 p r q
end
end VL
end
section
set_option autoImplicit false
set_option maxRecDepth 100000
set_option maxHeartbeats 2000000
namespace VL
open PySem PySem.Spec PyProof.Rows L2
/-- what an expression hands on: data, or the object of the own cell i -/
inductive CV where
  | d (x : D) | loc (i : Nat)
abbrev WE := En → (CV → En → Prop) → Prop
abbrev WT := En → (Bool → En → Prop) → Prop
abbrev WA := En → (List CV → En → Prop) → Prop
abbrev WN := En → (List D → En → Prop) → Prop
def CvOk (K : Fg) (σ : L2.St) (B : Hp) (v : V) : CV → Prop
  | .d x => Dq K B v x
  | .loc i => σ[i]? = some (some v)
def CvsOk (K : Fg) (σ : L2.St) (B : Hp) : List V → List CV → Prop
  | [], [] => True
  | v :: vs, c :: cs => CvOk K σ B v c ∧ CvsOk K σ B vs cs
  | _, _ => False
theorem CvOk.ext {K : Fg} {σ : L2.St} {B B' : Hp} {v : V} (e : ExT B B') : ∀ {c : CV}, CvOk K σ B v c → CvOk K σ B' v c
  | .d _, h => Dq.ext e h
  | .loc _, h => h
theorem CvsOk.ext {K : Fg} {σ : L2.St} {B B' : Hp} (e : ExT B B') : ∀ {vs : List V} {cs : List CV}, CvsOk K σ B vs cs → CvsOk K σ B' vs cs
  | [], [], _ => True.intro
  | _ :: _, _ :: _, h => ⟨h.1.ext e, CvsOk.ext e h.2⟩
  | [], _ :: _, h => h.elim
  | _ :: _, [], h => h.elim
/-- what stands behind it now -/
def der (ρ : En) : CV → Option D
  | .d x => some x
  | .loc i => match ρ[i]? with
    | some (.lst _ ds) => some (.list ds)
    | some (.dat d) => some d
    | _ => none
/-- a value that can be read as the data d: its parts stay -/
inductive Rv (K : Fg) (B H : Hp) : V → D → Prop where
  | dp {v : V} {d : D} (h : Dq K B v d) : Rv K B H v d
  | ls {a : Addr} {xs : List V} {ds : List D} (h : H a = some (.lst xs)) (r : DqAll K B xs ds) : Rv K B H (.ref a) (.list ds)
section
variable {K : Fg} {as : As} {ρ ρ' : En} {σ : L2.St} {Z B B' H H' : Hp} {v : V} {c : CV} {d : D}
theorem rv_of (S : Sv K as Z ρ σ B H) (h : CvOk K σ B v c) (e : der ρ c = some d) : Rv K B H v d := by
  cases c with
  | d x =>
    cases e
    exact .dp h
  | loc i =>
    unfold der at e
    cases q : ρ[i]? with
    | none =>
      simp [q] at e
    | some c =>
      cases c with
      | un => simp [q] at e
      | dic kvs => simp [q] at e
      | dit kvs => simp [q] at e
      | dat x =>
        simp [q] at e
        subst e
        obtain ⟨u, h1, h2⟩ := S.dat i x q
        have e2 : some (some u) = some (some v) := h1.symm.trans h
        cases e2
        exact .dp h2
      | lst io ds =>
        simp [q] at e
        subst e
        obtain ⟨p, h1, _, xs, h3, h4⟩ := S.own i _ q rfl
        have e2 : some (some (V.ref p)) = some (some v) := h1.symm.trans h
        cases e2
        exact .ls h3 h4
theorem Rv.dpH (e : ∀ a o, B a = some o → H a = some o) (h : Rv K B H v d) : Dq K H v d := by
  cases h with
  | dp h => exact Dq.ext (.of e) h
  | ls h r => exact .lst (.inl (.inl h)) (DqAll.ext (.of e) r)
theorem Rv.int {i : Int} (h : Rv K B H v (.int i)) : v = .int i := by
  cases h with
  | dp h => cases h; rfl
theorem Rv.bool {b : Bool} (h : Rv K B H v (.bool b)) : v = .bl b := by
  cases h with
  | dp h => cases h; rfl
theorem Rv.str {x : Str} (h : Rv K B H v (.str x)) : v = .str x := by
  cases h with
  | dp h => cases h; rfl
theorem Rv.non (h : Rv K B H v .none) : v = .non := by
  cases h with
  | dp h => cases h; rfl
theorem Rv.list {ds : List D} (e : ∀ a o, B a = some o → H a = some o) (h : Rv K B H v (.list ds)) : ∃ a xs, v = .ref a ∧ SqL K H a xs ∧ DqAll K B xs ds := by
  cases h with
  | dp h =>
    cases h with
    | lst h r => exact ⟨_, _, rfl, sqL_ext (.of e) h, r⟩
  | ls h r => exact ⟨_, _, rfl, .inl (.inl h), r⟩
theorem Rv.tup {ds : List D} (e : ∀ a o, B a = some o → H a = some o) (h : Rv K B H v (.tuple ds)) : ∃ a xs, v = .ref a ∧ SqT K H a xs ∧ DqAll K B xs ds := by
  cases h with
  | dp h =>
    cases h with
    | tup h r => exact ⟨_, _, rfl, sqT_ext (.of e) h, r⟩
end
/-- at most one new object, that stays -/
inductive Al (B H : Hp) : Hp → Hp → Prop where
  | no : Al B H B H
  | new {p : Addr} {o : HO} (h : H p = none) : Al B H (upd B p o) (upd H p o)
section
variable {K : Fg} {as : As} {ρ ρ' : En} {σ : L2.St} {Z B B' H H' : Hp}
theorem Sv.alc (S : Sv K as Z ρ σ B H) (a : Al B H B' H') : Sv K as Z ρ σ B' H' ∧ ExT B B' := by
  cases a with
  | no => exact ⟨S, .refl B⟩
  | new h => exact ⟨S.al h, .new (S.free h)⟩
theorem Sv.subE (S : Sv K as Z ρ σ B H) : ∀ a o, B a = some o → H a = some o := fun _ _ h => S.sub h
end
section
variable (K : Fg) (as : As)
def up (t : WE) : TE := fun σ H Q => ∃ Z ρ B P, Sv K as Z ρ σ B H ∧ t ρ P ∧ ∀ c ρ' v B' H', P c ρ' → ExT B B' → Sv K as Z ρ' σ B' H' → CvOk K σ B' v c → Q v H'
def upT (t : WT) : TT := fun σ H Q => ∃ Z ρ B P, Sv K as Z ρ σ B H ∧ t ρ P ∧ ∀ b ρ' B' H', P b ρ' → ExT B B' → Sv K as Z ρ' σ B' H' → Q b H'
def upA (t : WA) : TA := fun σ H Q => ∃ Z ρ B P, Sv K as Z ρ σ B H ∧ t ρ P ∧ ∀ cs ρ' vs B' H', P cs ρ' → ExT B B' → Sv K as Z ρ' σ B' H' → CvsOk K σ B' vs cs → Q vs H'
/-- a new list, nobody's yet -/
def upN (t : WN) : TE := fun σ H Q => ∃ Z ρ B P, Sv K as Z ρ σ B H ∧ t ρ P ∧ ∀ ds ρ' p xs B' H', P ds ρ' → ExT B B' → Sv K as Z ρ' σ B' H' → H' p = none → DqAll K B' xs ds → Q (.ref p) (upd H' p (.lst xs))
structure WEn where
  nx : En → Prop
  rt : CV → En → Prop
  rn : List D → En → Prop := fun _ _ => False
  bk : En → Prop := fun _ => False
  ct : En → Prop := fun _ => False
  er : Str → D → En → Prop := fun _ _ _ => False
abbrev WS := WEn → En → Prop
structure Meets (Z B : Hp) (w : WEn) (E : Ends) : Prop where
  nx : ∀ ρ σ B' H', w.nx ρ → ExT B B' → Sv K as Z ρ σ B' H' → E.nx σ H'
  rt : ∀ c ρ σ v B' H', w.rt c ρ → ExT B B' → Sv K as Z ρ σ B' H' → CvOk K σ B' v c → E.rt v H'
  rn : ∀ ds ρ σ p xs B' H', w.rn ds ρ → ExT B B' → Sv K as Z ρ σ B' H' → H' p = none → DqAll K B' xs ds → E.rt (.ref p) (upd H' p (.lst xs))
  bk : ∀ ρ σ B' H', w.bk ρ → ExT B B' → Sv K as Z ρ σ B' H' → E.bk σ H'
  ct : ∀ ρ σ B' H', w.ct ρ → ExT B B' → Sv K as Z ρ σ B' H' → E.ct σ H'
  er : ∀ c x ρ σ v B' H', w.er c x ρ → ExT B B' → Sv K as Z ρ σ B' H' → Dq K B' v x → as.2.2 c v σ H'
def upS (t : WS) : TS := fun E σ H => ∃ Z ρ B w, Sv K as Z ρ σ B H ∧ t w ρ ∧ Meets K as Z B w E
end
theorem Meets.ext {K : Fg} {as : As} {Z B B' : Hp} {w : WEn} {E : Ends} (m : Meets K as Z B w E) (e : ExT B B') : Meets K as Z B' w E where
  nx := fun ρ σ B2 H h x => m.nx ρ σ B2 H h (e.trans x)
  rt := fun c ρ σ v B2 H h x => m.rt c ρ σ v B2 H h (e.trans x)
  rn := fun ds ρ σ p xs B2 H h x => m.rn ds ρ σ p xs B2 H h (e.trans x)
  bk := fun ρ σ B2 H h x => m.bk ρ σ B2 H h (e.trans x)
  ct := fun ρ σ B2 H h x => m.ct ρ σ B2 H h (e.trans x)
  er := fun c y ρ σ v B2 H h x => m.er c y ρ σ v B2 H h (e.trans x)
section
variable {X : Cx} {e : Expr} {st : Stmt} {sts : List Stmt}
theorem pe_imp {t u : TE} (h : PE X e t) (i : ∀ σ H Q, u σ H Q → t σ H Q) : PE X e u := ⟨fun pins s σ H Q I q => h.run pins s σ H Q I (i σ H Q q)⟩
theorem pt_imp {t u : TT} (h : PT X e t) (i : ∀ σ H Q, u σ H Q → t σ H Q) : PT X e u := ⟨fun pins s σ H Q I q => h.run pins s σ H Q I (i σ H Q q)⟩
theorem pw_imp {t u : TT} (h : L2.PW X e t) (i : ∀ σ H Q, u σ H Q → t σ H Q) : L2.PW X e u := ⟨fun wh pins s σ H Q I q => h.run wh pins s σ H Q I (i σ H Q q)⟩
theorem pa_imp {es : List Expr} {t u : TA} (h : PA X es t) (i : ∀ σ H Q, u σ H Q → t σ H Q) : PA X es u := ⟨fun pos pins s σ H Q I q => h.run pos pins s σ H Q I (i σ H Q q)⟩
theorem ps_imp {t u : TS} (h : PS X st t) (i : ∀ D σ H, u D σ H → t D σ H) : PS X st u := ⟨fun pins s σ H D I q => h.run pins s σ H D I (i D σ H q)⟩
theorem pss_imp {t u : TS} (h : PSs X sts t) (i : ∀ D σ H, u D σ H → t D σ H) : PSs X sts u := ⟨fun pins s σ H D I q => h.run pins s σ H D I (i D σ H q)⟩
end
end VL
end
section
set_option autoImplicit false
set_option maxRecDepth 100000
set_option maxHeartbeats 2000000
namespace VL
open PySem PySem.Spec PyProof.Rows L2
def ror (r q : R2) : R2 := fun x y H Q => r x y H Q ∨ q x y H Q
theorem op_or {X : Cx} {f : Value → Value → Sem Value} {r q : R2} (a : OpR X f r) (b : OpR X f q) : OpR X f (ror r q) := fun pins s σ H x y v u Q I rx ry h =>
  h.elim (a pins s σ H x y v u Q I rx ry) (b pins s σ H x y v u Q I rx ry)
abbrev DO := D → D → (D → Prop) → Prop
abbrev DC := List D → (D → Prop) → Prop
def OpV (K : Fg) (r : R2) (o : DO) : Prop := ∀ (B H : Hp) (x y : V) (dx dy : D) (P : D → Prop) (Q : VK), (∀ a u, B a = some u → H a = some u) → Rv K B H x dx → Rv K B H y dy → o dx dy P →
  (∀ d v B' H', P d → Al B H B' H' → Dq K B' v d → Q v H') → r x y H Q
section
variable {X : Cx}
open PySem.AutoSeq1 PySem.MeetsSeq in
theorem list_add_any (l : Addr) (items : Array Value) (n : Nat) (sl : Array (Option Value)) (b : Addr) (items2 : Array Value) (n2 : Nat) (sl2 : Array (Option Value)) (hc0 : items.size + items2.size ≤ sizeLine) :
    PySem.Meets (Builtin.«list.__add__» ⟨[.ref l, .ref b], []⟩) (fun _ R s => s.heap.get? l = some { cls := .type "list", dict := none, data := .seq items n, slots := sl } ∧ s.heap.get? b = some { cls := .type "list", dict := none, data := .seq items2 n2, slots := sl2 } ∧ R (.ok (.ret (Value.ref s.heap.objs.size))) { s with heap := s.heap.push { cls := Value.type "list", data := Data.seq (items ++ items2) }, toks := s.toks }) :=
  .of_wp fun prog w A R s h => by obtain ⟨hp, g, d, tk, os⟩ := s; obtain ⟨hl, hb, h⟩ := h; have f1 := idx_int; have f2 := PySem.AutoSeq1.sub_tuple_tuple; have f3 := PySem.AutoSeq1.sub_list_list; have f4 := PySem.AutoSeq1.sub_tuple_list; have f5 := PySem.AutoSeq1.sub_list_tuple; wp_walk using wpAny_loadPart' hl, wpAny_loadPart' hb; exact ⟨_, rfl, h⟩
theorem rd_obj {H : Hp} {pins : List (Addr × Obj)} {σ : L2.St} {s : Shared} {l : Addr} {xs : List V} (I : Inv X pins σ H s) (h : SqL X.K H l xs) : ∃ (its : List Value) (n : Nat) (sl : Array (Option Value)), Vals xs its ∧ xs.length = its.length ∧ s.heap.get? l = some { cls := .type "list", dict := none, data := .seq its.toArray n, slots := sl } ∧ xs.length ≤ sizeLine := by
  obtain ⟨its, r, ⟨⟨c, d, da, sl⟩, n, e, h1, h2, h3⟩, z⟩ := I.list h
  simp only at h1 h2 h3
  subst h1 h2 h3
  exact ⟨its, n, sl, r, r.length, e, z⟩
/-- list + list -/
def rCatR (K : Fg) : R2 := fun x y H Q => ∃ l b xs zs, x = .ref l ∧ y = .ref b ∧ SqL K H l xs ∧ SqL K H b zs ∧ xs.length + zs.length ≤ sizeLine ∧ ∀ p, H p = none → Q (.ref p) (upd H p (.lst (xs ++ zs)))
theorem op_catR : OpR X (binaryOp .Add) (rCatR X.K) := by
  intro pins s σ H x y v u Q I rx ry h
  obtain ⟨l, b, xs, zs, rfl, rfl, hH, hB, hz, q⟩ := h
  cases rx
  cases ry
  obtain ⟨its, n, sl, r, hl, e, _⟩ := rd_obj I hH
  obtain ⟨its2, n2, sl2, r2, hl2, e2, _⟩ := rd_obj I hB
  have z : its.toArray.size + its2.toArray.size ≤ sizeLine := by
    rw [List.size_toArray, List.size_toArray, ← hl, ← hl2]
    exact hz
  refine concat_meets ⟨_, e, rfl⟩ ⟨_, e2, rfl⟩ noFill_list_add seq_list_add PySem.F.slot_list_add PySem.F.entry_list_add (PySem.F.args_list_add_2 _ _) (list_add_any l its.toArray n sl b its2.toArray n2 sl2 z) ⟨e, e2, ?_⟩
  have ea : its.toArray ++ its2.toArray = (its ++ its2).toArray := by simp
  rw [ea]
  exact ⟨.ref _, _, I.lnew (t' := s.toks) (r.append r2) (by rw [List.length_append]; exact hz), rfl, q _ I.fresh⟩
end
def oAdd : DO := fun x y P => match x, y with
  | .int i, .int j => P (.int (i + j))
  | .str a, .str b => a.length + b.length ≤ sizeLine ∧ P (.str (a ++ b))
  | .list a, .list b => a.length + b.length ≤ sizeLine ∧ P (.list (a ++ b))
  | .tuple a, .tuple b => a.length + b.length ≤ sizeLine ∧ P (.tuple (a ++ b))
  | _, _ => False
def rStrA : R2 := fun x y H Q => ∃ i j, x = .str i ∧ y = .str j ∧ i.length + j.length ≤ sizeLine ∧ Q (.str (i ++ j)) H
def rAdd (K : Fg) : R2 := ror (rI0 fun i j => .int (i + j)) (ror rStrA (ror (rCatR K) (rCatA K)))
theorem op_add' {X : Cx} : OpR X (binaryOp .Add) (rAdd X.K) := op_or op_add (op_or op_add_str (op_or op_catR op_catA))
theorem opv_add {K : Fg} : OpV K (rAdd K) oAdd := by
  intro B H x y dx dy P Q e a b c k
  cases dx <;> cases dy <;> (try (exact (show False from c).elim))
  · rename_i i j
    cases a.int
    cases b.int
    exact .inl ⟨i, j, rfl, rfl, k _ _ _ _ c .no (.int _)⟩
  · rename_i i j
    cases a.str
    cases b.str
    exact .inr (.inl ⟨i, j, rfl, rfl, c.1, k _ _ _ _ c.2 .no (.str _)⟩)
  · rename_i ds es
    obtain ⟨l, xs, rfl, h1, r1⟩ := a.list e
    obtain ⟨m, ys, rfl, h2, r2⟩ := b.list e
    have l1 := r1.len
    have l2 := r2.len
    have z := c.1
    exact .inr (.inr (.inl ⟨l, m, xs, ys, rfl, rfl, h1, h2, by omega, fun p hp => k _ _ _ _ c.2 (.new hp) (.lst (.inl (.inl upd_same)) (DqAll.ext (.of fun u w q => by
      by_cases n : B p = none
      · rw [upd_ne (ne_of_none q n)]
        exact q
      · cases z : B p with
        | none => exact (n z).elim
        | some o =>
          have := e p o z
          rw [hp] at this
          cases this) (DqAll.app r1 r2)))⟩))
  · rename_i ds es
    obtain ⟨l, xs, rfl, h1, r1⟩ := a.tup e
    obtain ⟨m, ys, rfl, h2, r2⟩ := b.tup e
    have l1 := r1.len
    have l2 := r2.len
    have z := c.1
    have ext : ∀ p o, H p = none → ExT B (upd B p o) := fun p o hp => .new (by
      cases z : B p with
      | none => rfl
      | some o =>
        have := e p o z
        rw [hp] at this
        cases this)
    refine .inr (.inr (.inr ⟨l, m, xs, ys, rfl, rfl, h1, h2, by omega, fun z => ?_, fun _ z => ?_, fun _ _ p hp => ?_⟩))
    · subst z
      cases r1
      cases b with
      | dp h => exact k _ _ _ _ c.2 .no h
    · subst z
      cases r2
      cases a with
      | dp h => exact k _ _ _ _ (by rw [← List.append_nil ds]; exact c.2) .no h
    · exact k _ _ _ _ c.2 (.new hp) (.tup (.inl (.inl upd_same)) (DqAll.ext (ext p _ hp) (DqAll.app r1 r2)))
def oI (C : Int → Int → Prop) (g : Int → Int → D) : DO := fun x y P => match x, y with
  | .int i, .int j => C i j ∧ P (g i j)
  | _, _ => False
def oI0 (g : Int → Int → D) : DO := fun x y P => match x, y with
  | .int i, .int j => P (g i j)
  | _, _ => False
theorem opv_I0 {K : Fg} {g : Int → Int → V} {gd : Int → Int → D} (hg : ∀ B i j, Dq K B (g i j) (gd i j)) : OpV K (rI0 g) (oI0 gd) := by
  intro B H x y dx dy P Q e a b c k
  cases dx <;> cases dy <;> (try (exact (show False from c).elim))
  rename_i i j
  cases a.int
  cases b.int
  exact ⟨i, j, rfl, rfl, k _ _ _ _ c .no (hg B i j)⟩
theorem opv_I {K : Fg} {C : Int → Int → Prop} {g : Int → Int → V} {gd : Int → Int → D} (hg : ∀ B i j, Dq K B (g i j) (gd i j)) : OpV K (rI C g) (oI C gd) := by
  intro B H x y dx dy P Q e a b c k
  cases dx <;> cases dy <;> (try (exact (show False from c).elim))
  rename_i i j
  cases a.int
  cases b.int
  exact ⟨i, j, rfl, rfl, c.1, k _ _ _ _ c.2 .no (hg B i j)⟩
abbrev oSub : DO := oI0 fun i j => .int (i - j)
def COk (i j : Int) : Prop := CMul i j ∨ CMulW i j
abbrev oMul : DO := oI COk fun i j => .int (i * j)
def CDv (i j : Int) : Prop := CDivN i j ∨ CDivW i j
abbrev oFdiv : DO := oI CDv fun i j => .int (i.fdiv j)
abbrev oMod : DO := oI (fun _ j => j ≠ 0) fun i j => .int (i.fmod j)
abbrev oPow : DO := oI CPow fun i j => .int (i ^ j.toNat)
section
variable {X : Cx}
theorem op_mul' : OpR X (binaryOp .Mult) (rI COk fun i j => .int (i * j)) := fun pins s σ H x y v u Q I rx ry ⟨i, j, h1, h2, c, q⟩ =>
  c.elim (fun c => op_mul pins s σ H x y v u Q I rx ry ⟨i, j, h1, h2, c, q⟩) fun c => op_mulW pins s σ H x y v u Q I rx ry ⟨i, j, h1, h2, c, q⟩
theorem op_fdiv' : OpR X (binaryOp .FloorDiv) (rI CDv fun i j => .int (i.fdiv j)) := fun pins s σ H x y v u Q I rx ry ⟨i, j, h1, h2, c, q⟩ =>
  c.elim (fun c => op_fdivN pins s σ H x y v u Q I rx ry ⟨i, j, h1, h2, c, q⟩) fun c => op_fdivW pins s σ H x y v u Q I rx ry ⟨i, j, h1, h2, c, by
    show Q (.int (i / j)) H
    rw [← Int.fdiv_eq_ediv_of_nonneg i (Int.le_of_lt c.1)]
    exact q⟩
end
def shp (d : D) : Bool := SeqAt.shaped d
def oEq : DO := fun x y P => shp x = true ∧ shp y = true ∧ P (.bool (PyData.eqv x y))
def oNe : DO := fun x y P => shp x = true ∧ shp y = true ∧ P (.bool (!PyData.eqv x y))
theorem opv_eq {K : Fg} : OpV K (rEqD K) oEq := fun B H x y dx dy P Q e a b c k => ⟨dx, dy, (a.dpH e).dp (SeqAt.canLay_of_shaped c.1), (b.dpH e).dp (SeqAt.canLay_of_shaped c.2.1), c.1, c.2.1, k _ _ _ _ c.2.2 .no (.bl _)⟩
theorem opv_ne {K : Fg} : OpV K (rNeD K) oNe := fun B H x y dx dy P Q e a b c k => ⟨dx, dy, (a.dpH e).dp (SeqAt.canLay_of_shaped c.1), (b.dpH e).dp (SeqAt.canLay_of_shaped c.2.1), c.1, c.2.1, k _ _ _ _ c.2.2 .no (.bl _)⟩
abbrev oLt : DO := oI0 fun i j => .bool (decide (i < j))
abbrev oLe : DO := oI0 fun i j => .bool (decide (i ≤ j))
abbrev oGt : DO := oI0 fun i j => .bool (decide (j < i))
abbrev oGe : DO := oI0 fun i j => .bool (decide (j ≤ i))
/-- x is None -/
def isN : D → Bool
  | .none => true
  | _ => false
def oIsN (neg : Bool) : DO := fun x y P => match y with
  | .none => P (.bool (if neg then !isN x else isN x))
  | _ => False
theorem isN_dec {K : Fg} {B H : Hp} {v : V} {d : D} (h : Rv K B H v d) : decide (v = .non) = isN d := by
  cases h with
  | dp h => cases h <;> rfl
  | ls h r => rfl
theorem opv_isN {K : Fg} : OpV K (fun x y H Q => y = .non ∧ Q (.bl (decide (x = .non))) H) (oIsN false) := by
  intro B H x y dx dy P Q e a b c k
  cases dy <;> (try (exact (show False from c).elim))
  exact ⟨b.non, by rw [isN_dec a]; exact k _ _ _ _ c .no (.bl _)⟩
def itemD : DO := fun x y P => match x, y with
  | .list ds, .int i => ∃ d, atI ds i = some d ∧ P d
  | .tuple ds, .int i => ∃ d, atI ds i = some d ∧ P d
  | .str z, .int i => ∃ c, z.length ≤ sizeLine ∧ atI z.cps.toList i = some c ∧ P (.str ⟨#[c]⟩)
  | _, _ => False
theorem atI_all {K : Fg} {B : Hp} {xs : List V} {ds : List D} (r : DqAll K B xs ds) {i : Int} {d : D} (h : atI ds i = some d) : ∃ v, atI xs i = some v ∧ Dq K B v d := by
  unfold atI at h ⊢
  rw [r.len]
  cases e : ixN ds.length i with
  | none =>
    rw [e] at h
    cases h
  | some j =>
    rw [e] at h
    exact r.get (show ds[j]? = some d from h)
theorem opv_ix {K : Fg} : OpV K (rIx K) itemD := by
  intro B H x y dx dy P Q e a b c k
  cases dx <;> cases dy <;> (try (exact (show False from c).elim))
  · rename_i z i
    cases a.str
    cases b.int
    obtain ⟨q, h1, h2, h3⟩ := c
    exact .inr (.inr ⟨z, i, q, rfl, rfl, h1, h2, k _ _ _ _ h3 .no (.str _)⟩)
  · rename_i ds i
    cases b.int
    obtain ⟨l, xs, rfl, h1, r1⟩ := a.list e
    obtain ⟨d, h2, h3⟩ := c
    obtain ⟨v, h4, h5⟩ := atI_all r1 h2
    exact .inl ⟨l, xs, i, v, rfl, rfl, h1, h4, k _ _ _ _ h3 .no h5⟩
  · rename_i ds i
    cases b.int
    obtain ⟨l, xs, rfl, h1, r1⟩ := a.tup e
    obtain ⟨d, h2, h3⟩ := c
    obtain ⟨v, h4, h5⟩ := atI_all r1 h2
    exact .inr (.inl ⟨l, xs, i, v, rfl, rfl, h1, h4, k _ _ _ _ h3 .no h5⟩)
end VL
end
section
set_option autoImplicit false
set_option maxRecDepth 100000
set_option maxHeartbeats 2000000
namespace VL
open PySem PySem.Spec PyProof.Rows L2
section
variable {X : Cx} {as : As} {a b c e : Expr} {es : List Expr} {t u : WE} {pos : Pos}
theorem cvs_one {K : Fg} {σ : L2.St} {B : Hp} {vs : List V} {c : CV} (h : CvsOk K σ B vs [c]) : ∃ v, vs = [v] ∧ CvOk K σ B v c := by
  cases vs with
  | nil => exact h.elim
  | cons v r =>
    cases r with
    | nil => exact ⟨v, rfl, h.1⟩
    | cons v2 r2 => exact h.2.elim
def wVar (i : Nat) : WE := fun ρ P => match ρ[i]? with
  | some (.dat d) => P (.d d) ρ
  | some (.lst _ _) => P (.loc i) ρ
  | some (.dic _) => P (.loc i) ρ
  | some (.dit _) => P (.loc i) ρ
  | _ => False
theorem vv (i : Nat) {x : Str} (hN : X.N[i]? = some x := by rfl) (hv : Vis X.env.scope x := by first | exact Or.inl rfl | exact Or.inr (Or.inl rfl) | exact Or.inr (Or.inr rfl)) (hd : (x == ("__debug__" : Str)) = false := by decide)
    (hcd : (x == ("__classdict__" : Str)) = false := by decide) : PE X (.Name x pos) (up X.K as (wVar i)) := by
  refine pe_imp (pe_var hN hv hd hcd) fun σ H Q ⟨Z, ρ, B, P, S, h, k⟩ => ?_
  unfold wVar at h
  cases q : ρ[i]? with
  | none => simp [q] at h
  | some c =>
    cases c with
    | un => simp [q] at h
    | dat d =>
      simp [q] at h
      obtain ⟨v, h1, h2⟩ := S.dat i d q
      exact ⟨v, h1, k _ _ v B H h (.refl B) S h2⟩
    | lst io ds =>
      simp [q] at h
      obtain ⟨p, h1, _⟩ := S.own i _ q rfl
      exact ⟨_, h1, k _ _ _ B H h (.refl B) S h1⟩
    | dic kvs =>
      simp [q] at h
      obtain ⟨p, h1, _⟩ := S.own i _ q rfl
      exact ⟨_, h1, k _ _ _ B H h (.refl B) S h1⟩
    | dit kvs =>
      simp [q] at h
      obtain ⟨p, h1, _⟩ := S.own i _ q rfl
      exact ⟨_, h1, k _ _ _ B H h (.refl B) S h1⟩
def wC (d : D) : WE := fun ρ P => P (.d d) ρ
theorem vC {v : V} {d : D} (h : PE X e (tC v)) (hd : ∀ B, Dq X.K B v d) : PE X e (up X.K as (wC d)) :=
  pe_imp h fun σ H Q ⟨Z, ρ, B, P, S, h, k⟩ => k _ _ v B H h (.refl B) S (hd B)
theorem vint {i : Int} {j : Nat} : PE X (.Constant (.int i) j pos) (up X.K as (wC (.int i))) := vC pe_int fun _ => .int i
theorem vbl {i : Bool} {j : Nat} : PE X (.Constant (.bool i) j pos) (up X.K as (wC (.bool i))) := vC pe_bl fun _ => .bl i
theorem vnon {j : Nat} : PE X (.Constant .none j pos) (up X.K as (wC .none)) := vC pe_non fun _ => .non
def wOp (o : DO) (t u : WE) : WE := fun ρ P => t ρ fun c1 ρ1 => u ρ1 fun c2 ρ2 => ∃ x y, der ρ2 c1 = some x ∧ der ρ2 c2 = some y ∧ o x y fun d => P (.d d) ρ2
theorem up_op {K : Fg} {r : R2} {o : DO} (hv : OpV K r o) {σ : L2.St} {H : Hp} {Q : VK} (h : up K as (wOp o t u) σ H Q) : tOp r (up K as t) (up K as u) σ H Q := by
  obtain ⟨Z, ρ, B, P, S, h, k⟩ := h
  refine ⟨Z, ρ, B, _, S, h, fun c1 ρ1 v1 B1 H1 h1 x1 S1 o1 => ?_⟩
  refine ⟨Z, ρ1, B1, _, S1, h1, fun c2 ρ2 v2 B2 H2 h2 x2 S2 o2 => ?_⟩
  obtain ⟨x, y, e1, e2, h3⟩ := h2
  refine hv B2 H2 v1 v2 x y _ Q S2.subE (rv_of S2 (o1.ext x2) e1) (rv_of S2 o2 e2) h3 fun d v B' H' p al hd => ?_
  obtain ⟨S3, x3⟩ := S2.alc al
  exact k _ _ v B' H' p ((x1.trans x2).trans x3) S3 hd
theorem vop {op : Operator} {r : R2} {o : DO} (ho : OpR X (binaryOp op) r) (hv : OpV X.K r o) (ha : PE X a (up X.K as t)) (hb : PE X b (up X.K as u)) : PE X (.BinOp a op b pos) (up X.K as (wOp o t u)) :=
  pe_imp (pe_op ho ha hb) fun _ _ _ h => up_op hv h
theorem vcmp {op : CmpOp} {r : R2} {o : DO} (ho : OpR X (compareOp op) r) (hv : OpV X.K r o) (ha : PE X a (up X.K as t)) (hb : PE X b (up X.K as u)) (hm : behindInMarks op b = false := by first | exact nomark _ | with_unfolding_all rfl) : PE X (.Compare a [op] [b] pos) (up X.K as (wOp o t u)) :=
  pe_imp (pe_cmpR ho ha hb hm) fun _ _ _ h => up_op hv h
def wTest (t : WE) : WT := fun ρ P => t ρ fun c ρ' => match c with
  | .d (.bool k) => P k ρ'
  | _ => False
theorem tcmp {op : CmpOp} {r : R2} {o : DO} (ho : OpR X (compareOp op) r) (hv : OpV X.K r o) (ha : PE X a (up X.K as t)) (hb : PE X b (up X.K as u)) (hm : behindInMarks op b = false := by first | exact nomark _ | with_unfolding_all rfl) : PT X (.Compare a [op] [b] pos) (upT X.K as (wTest (wOp o t u))) := by
  refine pt_imp (pt_cmpR ho ha hb hm) fun σ H Q ⟨Z, ρ, B, P, S, h, k⟩ => up_op hv ⟨Z, ρ, B, _, S, h, fun c ρ' v B' H' h1 x S' o1 => ?_⟩
  cases c with
  | loc i => exact h1.elim
  | d y =>
    cases y <;> (try (exact (show False from h1).elim))
    rename_i k2
    cases o1
    exact ⟨k2, rfl, k _ _ B' H' h1 x S'⟩
theorem tval (h : PE X e (up X.K as t)) (he : ∀ whole, PySem.isTrue e X.env whole = (do
    let v ← whole
    standAt e.pos
    holding [v] (truthy v)) := by intro _; rfl) : PT X e (upT X.K as (wTest t)) := by
  refine pt_imp (pt_val h he) fun σ H Q ⟨Z, ρ, B, P, S, h, k⟩ => ⟨Z, ρ, B, _, S, h, fun c ρ' v B' H' h1 x S' o1 => ?_⟩
  cases c with
  | loc i => exact h1.elim
  | d y =>
    cases y <;> (try (exact (show False from h1).elim))
    rename_i k2
    cases o1
    exact ⟨k2, rfl, k _ _ B' H' h1 x S'⟩
def wNotT (t : WT) : WT := fun ρ P => t ρ fun b ρ' => P (!b) ρ'
def wAndT (t u : WT) : WT := fun ρ P => t ρ fun b ρ' => if b = true then u ρ' P else P false ρ'
def wOrT (t u : WT) : WT := fun ρ P => t ρ fun b ρ' => if b = true then P true ρ' else u ρ' P
theorem tnot {t : WT} (h : PT X e (upT X.K as t)) : PT X (.UnaryOp .Not e pos) (upT X.K as (wNotT t)) :=
  pt_imp (pt_not h) fun σ H Q ⟨Z, ρ, B, P, S, h, k⟩ => ⟨Z, ρ, B, _, S, h, fun b ρ' B' H' h1 x S' => k _ _ B' H' h1 x S'⟩
theorem up_or {K : Fg} {t u : WT} {σ : L2.St} {H : Hp} {Q : Bool → Hp → Prop} (h : upT K as (wOrT t u) σ H Q) : tOr (upT K as t) (upT K as u) σ H Q := by
  obtain ⟨Z, ρ, B, P, S, h, k⟩ := h
  refine ⟨Z, ρ, B, _, S, h, fun b ρ' B' H' h1 x S' => ?_⟩
  cases b with
  | false =>
    rw [if_neg Bool.false_ne_true] at h1 ⊢
    exact ⟨Z, ρ', B', P, S', h1, fun b ρ2 B2 H2 p x2 S2 => k b ρ2 B2 H2 p (x.trans x2) S2⟩
  | true =>
    rw [if_pos rfl] at h1 ⊢
    exact k _ _ B' H' h1 x S'
theorem wor1 {t : WT} (h : PT X e (upT X.K as t)) : L2.PW X (.BoolOp .Or [e] pos) (upT X.K as t) := pw_or1 h
theorem wor {t u : WT} (h : PT X e (upT X.K as t)) (h2 : L2.PW X (.BoolOp .Or (b :: es) pos) (upT X.K as u)) : L2.PW X (.BoolOp .Or (e :: b :: es) pos) (upT X.K as (wOrT t u)) := pw_imp (pw_or h h2) fun _ _ _ h => up_or h
def wAnd (t u : WE) : WE := fun ρ P => t ρ fun c ρ' => match c with
  | .d (.bool k) => if k = true then u ρ' P else P (.d (.bool false)) ρ'
  | _ => False
def wOr (t u : WE) : WE := fun ρ P => t ρ fun c ρ' => match c with
  | .d (.bool k) => if k = true then P (.d (.bool true)) ρ' else u ρ' P
  | _ => False
def wNot (t : WE) : WE := fun ρ P => t ρ fun c ρ' => match c with
  | .d (.bool k) => P (.d (.bool (!k))) ρ'
  | _ => False
theorem up_andV {K : Fg} {σ : L2.St} {H : Hp} {Q : VK} (h : up K as (wAnd t u) σ H Q) : tAndV (up K as t) (up K as u) σ H Q := by
  obtain ⟨Z, ρ, B, P, S, h, k⟩ := h
  refine ⟨Z, ρ, B, _, S, h, fun c ρ' v B' H' h1 x S' o1 => ?_⟩
  cases c with
  | loc i => exact h1.elim
  | d y =>
    cases y <;> (try (exact (show False from h1).elim))
    rename_i k2
    cases o1
    refine ⟨k2, rfl, ?_⟩
    cases k2 with
    | true =>
      rw [if_pos rfl]
      exact ⟨Z, ρ', B', P, S', h1, fun b ρ2 v2 B2 H2 p x2 S2 => k b ρ2 v2 B2 H2 p (x.trans x2) S2⟩
    | false =>
      rw [if_neg Bool.false_ne_true]
      exact k _ _ _ B' H' h1 x S' (.bl false)
theorem vnot (h : PE X e (up X.K as t)) : PE X (.UnaryOp .Not e pos) (up X.K as (wNot t)) := by
  refine pe_imp (pe_not h) fun σ H Q ⟨Z, ρ, B, P, S, h, k⟩ => ⟨Z, ρ, B, _, S, h, fun c ρ' v B' H' h1 x S' o1 => ?_⟩
  cases c with
  | loc i => exact h1.elim
  | d y =>
    cases y <;> (try (exact (show False from h1).elim))
    rename_i k2
    cases o1
    exact ⟨k2, rfl, k _ _ _ B' H' h1 x S' (.bl _)⟩
def wIf (c : WT) (t u : WE) : WE := fun ρ P => c ρ fun b ρ' => if b = true then t ρ' P else u ρ' P
theorem vif {c : WT} {ec : Expr} (hc : PT X ec (upT X.K as c)) (ha : PE X a (up X.K as t)) (hb : PE X b (up X.K as u)) : PE X (.IfExp ec a b pos) (up X.K as (wIf c t u)) := by
  refine pe_imp (pe_ifExp hc ha hb) fun σ H Q ⟨Z, ρ, B, P, S, h, k⟩ => ⟨Z, ρ, B, _, S, h, fun b ρ' B' H' h1 x S' => ?_⟩
  cases b with
  | true =>
    rw [if_pos rfl] at h1 ⊢
    exact ⟨Z, ρ', B', P, S', h1, fun b ρ2 v2 B2 H2 p x2 S2 => k b ρ2 v2 B2 H2 p (x.trans x2) S2⟩
  | false =>
    rw [if_neg Bool.false_ne_true] at h1 ⊢
    exact ⟨Z, ρ', B', P, S', h1, fun b ρ2 v2 B2 H2 p x2 S2 => k b ρ2 v2 B2 H2 p (x.trans x2) S2⟩
def wNil : WA := fun ρ P => P [] ρ
def wCons (t : WE) (r : WA) : WA := fun ρ P => t ρ fun c ρ1 => r ρ1 fun cs ρ2 => P (c :: cs) ρ2
theorem anil : PA X [] (upA X.K as wNil) := pa_imp pa_nil fun σ H Q ⟨Z, ρ, B, P, S, h, k⟩ => k _ _ [] B H h (.refl B) S True.intro
theorem acons {r : WA} (ha : PE X e (up X.K as t)) (hr : PA X es (upA X.K as r)) (he : starEach (e :: es) X.env = (false, eval e X.env) :: starEach es X.env := by rfl) : PA X (e :: es) (upA X.K as (wCons t r)) := by
  refine pa_imp (pa_cons ha hr he) fun σ H Q ⟨Z, ρ, B, P, S, h, k⟩ => ⟨Z, ρ, B, _, S, h, fun c ρ1 v B1 H1 h1 x1 S1 o1 => ⟨Z, ρ1, B1, _, S1, h1, fun cs ρ2 vs B2 H2 h2 x2 S2 o2 => ?_⟩⟩
  exact k _ _ (v :: vs) B2 H2 h2 (x1.trans x2) S2 ⟨o1.ext x2, o2⟩
/-- all are data -/
def dats : List CV → Option (List D)
  | [] => some []
  | .d x :: r => (dats r).map (x :: ·)
  | .loc _ :: _ => none
theorem dats_ok {K : Fg} {σ : L2.St} {B : Hp} : ∀ {vs : List V} {cs : List CV} {ds : List D}, CvsOk K σ B vs cs → dats cs = some ds → DqAll K B vs ds
  | [], [], _, _, e => by
    cases e
    exact .nil
  | v :: vs, .d x :: cs, ds, h, e => by
    unfold dats at e
    cases q : dats cs with
    | none =>
      rw [q] at e
      cases e
    | some es =>
      rw [q] at e
      cases e
      exact .cons h.1 (dats_ok h.2 q)
  | _ :: _, .loc _ :: _, _, _, e => by cases e
  | [], _ :: _, _, h, _ => h.elim
  | _ :: _, [], _, h, _ => h.elim
def wTup (r : WA) : WE := fun ρ P => r ρ fun cs ρ' => ∃ ds, dats cs = some ds ∧ ds.length ≤ sizeLine ∧ P (.d (.tuple ds)) ρ'
def wLst (r : WA) : WN := fun ρ P => r ρ fun cs ρ' => ∃ ds, dats cs = some ds ∧ ds.length ≤ sizeLine ∧ P ds ρ'
theorem vtup {r : WA} {x1 : _} (h : PA X es (upA X.K as r)) : PE X (.Tuple es x1 pos) (up X.K as (wTup r)) := by
  refine pe_imp (pe_tup h) fun σ H Q ⟨Z, ρ, B, P, S, h, k⟩ => ⟨Z, ρ, B, _, S, h, fun cs ρ' vs B' H' h1 x S' o1 => ?_⟩
  obtain ⟨ds, e, z, q⟩ := h1
  have r := dats_ok o1 e
  have rl := r.len
  refine ⟨by omega, fun p hp => ?_⟩
  exact k _ _ _ _ _ q (x.trans (.new (S'.free hp))) (S'.al hp) (.tup (.inl (.inl upd_same)) (DqAll.ext (.new (S'.free hp)) r))
theorem vlst {r : WA} (h : PA X es (upA X.K as r)) : PE X (.List es pos) (upN X.K as (wLst r)) := by
  refine pe_imp (pe_lst h) fun σ H Q ⟨Z, ρ, B, P, S, h, k⟩ => ⟨Z, ρ, B, _, S, h, fun cs ρ' vs B' H' h1 x S' o1 => ?_⟩
  obtain ⟨ds, e, z, q⟩ := h1
  have r := dats_ok o1 e
  have rl := r.len
  exact ⟨by omega, fun p hp => k _ _ p vs B' H' q x S' hp r⟩
/-- a new list that nobody will change -/
def wStay (t : WN) : WE := fun ρ P => t ρ fun ds ρ' => P (.d (.list ds)) ρ'
theorem vstay {t : WN} (h : PE X e (upN X.K as t)) : PE X e (up X.K as (wStay t)) :=
  pe_imp h fun σ H Q ⟨Z, ρ, B, P, S, h, k⟩ => ⟨Z, ρ, B, _, S, h, fun ds ρ' p xs B' H' h1 x S' hp r => k _ _ _ _ _ h1 (x.trans (.new (S'.free hp))) (S'.al hp) (.lst (.inl (.inl upd_same)) (DqAll.ext (.new (S'.free hp)) r))⟩
theorem vix {r : R2} {o : DO} (hi : IxR X r) (hv : OpV X.K r o) (ha : PE X a (up X.K as t)) (hb : PE X b (up X.K as u)) (hs : PlainIx b := by exact fun _ _ => rfl) : PE X (.Subscript a b pos) (up X.K as (wOp o t u)) :=
  pe_imp (pe_ix hi ha hb hs) fun _ _ _ h => up_op hv h
end
end VL
end
section
set_option autoImplicit false
set_option maxRecDepth 100000
set_option maxHeartbeats 2000000
namespace VL
open PySem PySem.Spec PyProof.Rows L2
section
variable {X : Cx} {as : As} {a b c e : Expr} {es : List Expr} {t u : WE} {pos : Pos} {st : Stmt} {sts : List Stmt}
theorem vone {op : BoolOp} (h : PE X e (up X.K as t)) : PE X (.BoolOp op [e] pos) (up X.K as t) := pe_one h
theorem vand (h : PE X e (up X.K as t)) (h2 : PE X (.BoolOp .And (b :: es) pos) (up X.K as u)) : PE X (.BoolOp .And (e :: b :: es) pos) (up X.K as (wAnd t u)) := pe_imp (pe_and h h2) fun _ _ _ h => up_andV h
/-- an own list is let stay from here on -/
def wFrz (i : Nat) : WE := fun ρ P => match ρ[i]? with
  | some (.dat d) => P (.d d) ρ
  | some (.lst _ ds) => P (.d (.list ds)) (ρ.set i (.dat (.list ds)))
  | _ => False
def wSeq (t u : WS) : WS := fun w ρ => t { w with nx := fun ρ' => u w ρ' } ρ
def wNext : WS := fun w ρ => w.nx ρ
theorem Meets.seq {K : Fg} {Z B : Hp} {w : WEn} {E : Ends} {u : WS} (m : Meets K as Z B w E) : Meets K as Z B { w with nx := fun ρ => u w ρ } { E with nx := upS K as u E } where
  nx := fun ρ σ B' H' h x S => ⟨Z, ρ, B', w, S, h, m.ext x⟩
  rt := m.rt
  rn := m.rn
  bk := m.bk
  ct := m.ct
  er := m.er
theorem snil : PSs X [] (upS X.K as wNext) := pss_imp pss_nil fun D σ H ⟨Z, ρ, B, w, S, h, m⟩ => m.nx ρ σ B H h (.refl B) S
theorem scons {t u : WS} (h1 : PS X st (upS X.K as t)) (h2 : PSs X sts (upS X.K as u)) : PSs X (st :: sts) (upS X.K as (wSeq t u)) :=
  pss_imp (pss_cons h1 h2) fun D σ H ⟨Z, ρ, B, w, S, h, m⟩ => ⟨Z, ρ, B, _, S, h, m.seq⟩
theorem sone {t : WS} (h1 : PS X st (upS X.K as t)) : PSs X [st] (upS X.K as t) := pss_one h1
def wNever : WS := fun _ _ => False
theorem snever : PS X st (upS X.K as wNever) := ps_imp ps_never fun D σ H ⟨Z, ρ, B, w, S, h, m⟩ => h
abbrev WG := D → En → (En → Prop) → Prop
/-- only the slots sl have changed -/
def Only (sl : List Nat) (σ σ' : L2.St) : Prop := σ'.length = σ.length ∧ ∀ j, j ∉ sl → σ'[j]? = σ[j]?
def GOk (K : Fg) (as : As) (t : TG) (g : WG) (sl : List Nat) : Prop := ∀ (Z : Hp) (ρ : En) (σ : L2.St) (B H : Hp) (v : V) (d : D) (P : En → Prop) (Q : L2.St → Hp → Prop), Sv K as Z ρ σ B H → Dq K B v d → g d ρ P → (∀ ρ' σ' B' H', P ρ' → ExT B B' → Sv K as Z ρ' σ' B' H' → Only sl σ σ' → Q σ' H') → t v σ H Q
structure GV (X : Cx) (as : As) (tg : Expr) (t : TG) (g : WG) (sl : List Nat) : Prop where
  pg : PG X tg t
  ok : GOk X.K as t g sl
def wSet (i : Nat) : WG := fun d ρ P => P (ρ.set i (.dat d))
theorem gset {i : Nat} {x : Str} (hN : X.N.Nodup) (hi : X.N[i]? = some x := by rfl) (hx : Loc X.env.scope x := by first | exact Or.inl rfl | exact Or.inr rfl) (hf : X.fn x = true ∨ X.env.scope.names.lookup x = some .local := by first | exact .inl rfl | exact .inr rfl | assumption) : GV X as (.Name x pos) (gName i) (wSet i) [i] :=
  ⟨pg_name hN hi hx hf, fun Z ρ σ B H v d P Q S hd h k => by
    obtain ⟨B', e, S', _⟩ := S.drop i
    exact k _ _ B' H h e (S'.put (Dq.ext e hd)) ⟨List.length_set, fun j hj => st_set fun z => hj (by rw [z]; exact List.mem_singleton.mpr rfl)⟩⟩
def wGs : List WG → List D → En → (En → Prop) → Prop
  | [], [], ρ, P => P ρ
  | g :: gs, d :: ds, ρ, P => g d ρ fun ρ' => wGs gs ds ρ' P
  | _, _, _, _ => False
def GsOk (K : Fg) (as : As) (t : TGs) (gs : List WG) (sl : List Nat) : Prop := ∀ (Z : Hp) (ρ : En) (σ : L2.St) (B H : Hp) (vs : List V) (ds : List D) (P : En → Prop) (Q : L2.St → Hp → Prop), Sv K as Z ρ σ B H → DqAll K B vs ds → wGs gs ds ρ P → (∀ ρ' σ' B' H', P ρ' → ExT B B' → Sv K as Z ρ' σ' B' H' → Only sl σ σ' → Q σ' H') → t vs σ H Q
structure GsV (X : Cx) (as : As) (tgs : List Expr) (t : TGs) (gs : List WG) (sl : List Nat) : Prop where
  pg : PGs X tgs t
  ok : GsOk X.K as t gs sl
theorem gnil : GsV X as [] gNil [] [] := ⟨pgs_nil, fun Z ρ σ B H vs ds P Q S hd h k => by
  cases hd with
  | nil => exact ⟨rfl, k _ _ B H h (.refl B) S ⟨rfl, fun _ _ => rfl⟩⟩
  | cons _ _ => exact h.elim⟩
theorem gcons {t : TG} {ts : TGs} {g : WG} {gs : List WG} {s1 s2 : List Nat} (h1 : GV X as e t g s1) (h2 : GsV X as es ts gs s2) (hs : (assignEach (e :: es) X.env).map (·.2) = assign e X.env :: (assignEach es X.env).map (·.2) := by rfl) : GsV X as (e :: es) (gCons t ts) (g :: gs) (s1 ++ s2) := by
  obtain ⟨p, f⟩ := h1
  obtain ⟨ps, fs⟩ := h2
  refine ⟨pgs_cons p ps hs, fun Z ρ σ B H vs ds P Q S hd h k => ?_⟩
  cases hd with
  | nil => exact h.elim
  | @cons v vr d dr hv hr =>
    refine ⟨v, vr, rfl, f Z ρ σ B H v d _ _ S hv h fun ρ' σ' B' H' h' x S' o1 => ?_⟩
    exact fs Z ρ' σ' B' H' vr dr P Q S' (DqAll.ext x hr) h' fun ρ2 σ2 B2 H2 p x2 S2 o2 => k ρ2 σ2 B2 H2 p (x.trans x2) S2 ⟨o2.1.trans o1.1, fun j hj => (o2.2 j fun z => hj (List.mem_append_right _ z)).trans (o1.2 j fun z => hj (List.mem_append_left _ z))⟩
def wGt (gs : List WG) : WG := fun d ρ P => match d with
  | .tuple ds => ds.length = gs.length ∧ wGs gs ds ρ P
  | _ => False
theorem gtup {ts : TGs} {gs : List WG} {sl : List Nat} {k : Nat} (hc : X.calm = true) (h : GsV X as es ts gs sl) (hn : (assignEach es X.env).length = gs.length := by rfl) (hst : (assignEach es X.env).findIdx? (·.1) = none := by rfl) : GV X as (.Tuple es k pos) (gTup X.K gs.length ts) (wGt gs) sl := by
  obtain ⟨ps, fs⟩ := h
  refine ⟨pg_tup hc ps hn hst, fun Z ρ σ B H v d P Q S hd h k => ?_⟩
  unfold wGt at h
  cases d <;> (try (exact (show False from h).elim))
  cases hd with
  | tup hq hr =>
    exact ⟨_, _, rfl, sqT_ext S.ext hq, hr.len.trans h.1, fs Z ρ σ B H _ _ P Q S hr h.2 k⟩
def wAsg (t : WE) (g : WG) : WS := fun w ρ => t ρ fun c ρ' => match c with
  | .d x => g x ρ' w.nx
  | _ => False
theorem sset {i : Nat} {x : Str} {pos' : Pos} (hN : X.N.Nodup) (he : PE X e (up X.K as t)) (hi : X.N[i]? = some x := by rfl) (hx : Loc X.env.scope x := by first | exact Or.inl rfl | exact Or.inr rfl) (hs : swapsWith e (some (.Name x pos')) pos.line X.env = pure false := by rfl) (hf : X.fn x = true ∨ X.env.scope.names.lookup x = some .local := by first | exact .inl rfl | exact .inr rfl | assumption) :
    PS X (.Assign [.Name x pos'] e pos) (upS X.K as (wAsg t (wSet i))) := by
  refine ps_imp (ps_set hN hi hx he hs hf) fun D σ H ⟨Z, ρ, B, w, S, h, m⟩ => ⟨Z, ρ, B, _, S, h, fun c ρ' v B' H' h1 x S' o1 => ?_⟩
  cases c with
  | loc j => exact h1.elim
  | d y =>
    obtain ⟨B2, e2, S2, _⟩ := S'.drop i
    exact m.nx _ _ B2 H' h1 (x.trans e2) (S2.put (Dq.ext e2 o1))
theorem sasg {tg : Expr} {gt : TG} {g : WG} {sl : List Nat} (he : PE X e (up X.K as t)) (hg : GV X as tg gt g sl) (hs : swapsWithSole [tg] e pos.line X.env = pure false := by rfl) (hw : swappedStores [tg] e X.env = pure none := by rfl)
    (h1 : (assignEach [tg] X.env).map (·.2) = [assign tg X.env] := by rfl) : PS X (.Assign [tg] e pos) (upS X.K as (wAsg t g)) := by
  obtain ⟨p, f⟩ := hg
  refine ps_imp (ps_asg he p hs hw h1) fun D σ H ⟨Z, ρ, B, w, S, h, m⟩ => ⟨Z, ρ, B, _, S, h, fun c ρ' v B' H' h1 x S' o1 => ?_⟩
  cases c with
  | loc j => exact h1.elim
  | d y => exact f Z ρ' σ B' H' v y w.nx D.nx S' o1 h1 fun ρ2 σ2 B2 H2 p x2 S2 _ => m.nx ρ2 σ2 B2 H2 p (x.trans x2) S2
/-- x = a new list of the frame's own -/
def wNew (t : WN) (i : Nat) : WS := fun w ρ => t ρ fun ds ρ' => i < ρ'.length ∧ w.nx (ρ'.set i (.lst false ds))
theorem snew {t : WN} {i : Nat} {x : Str} {pos' : Pos} (hN : X.N.Nodup) (he : PE X e (upN X.K as t)) (hi : X.N[i]? = some x := by rfl) (hx : Loc X.env.scope x := by first | exact Or.inl rfl | exact Or.inr rfl) (hs : swapsWith e (some (.Name x pos')) pos.line X.env = pure false := by rfl) (hf : X.fn x = true ∨ X.env.scope.names.lookup x = some .local := by first | exact .inl rfl | exact .inr rfl | assumption) :
    PS X (.Assign [.Name x pos'] e pos) (upS X.K as (wNew t i)) := by
  refine ps_imp (ps_set hN hi hx he hs hf) fun D σ H ⟨Z, ρ, B, w, S, h, m⟩ => ⟨Z, ρ, B, _, S, h, fun ds ρ' p xs B' H' h1 x S' hp r => ?_⟩
  obtain ⟨B2, e2, S2, _⟩ := S'.drop i
  exact m.nx _ _ B2 _ h1.2 (x.trans e2) (S2.putOwn hp rfl (fun ds z => by cases z) h1.1 ⟨xs, upd_same, DqAll.ext e2 r⟩)
/-- a, b = e1, e2: both sides written -/
def wPar (i j : Nat) (r : WA) : WS := fun w ρ => r ρ fun cs ρ' => match cs with
  | [.d x, .d y] => w.nx ((ρ'.set i (.dat x)).set j (.dat y))
  | _ => False
theorem spar {i j : Nat} {x y : Str} {r : WA} {px py pt : Pos} {kt k2 pt2} (hc : X.calm = true) (hN : X.N.Nodup) (ha : PA X [a, b] (upA X.K as r)) (hw : swappedStores [.Tuple [.Name x px, .Name y py] kt pt] (.Tuple [a, b] k2 pt2) X.env = pure (some [x, y]) := by rfl) (hi : X.N[i]? = some x := by rfl) (hj : X.N[j]? = some y := by rfl) (hij : i ≠ j := by decide)
    (hx : X.env.scope.names.lookup x = some .local := by rfl) (hy : X.env.scope.names.lookup y = some .local := by rfl)
    (hs : swapsWithSole [.Tuple [.Name x px, .Name y py] kt pt] (.Tuple [a, b] k2 pt2) pos.line X.env = pure false := by rfl) :
    PS X (.Assign [.Tuple [.Name x px, .Name y py] kt pt] (.Tuple [a, b] k2 pt2) pos) (upS X.K as (wPar i j r)) := by
  refine ps_imp (ps_par hc hN hi hj hij hx hy ha hw hs) fun D σ H ⟨Z, ρ, B, w, S, h, m⟩ => ⟨Z, ρ, B, _, S, h, fun cs ρ' vs B' H' h1 xx S' o1 => ?_⟩
  match cs, vs, h1, o1 with
  | [.d z1, .d z2], [v1, v2], h1, o1 =>
    obtain ⟨B2, e2, S2, _⟩ := S'.drop i
    have S3 := S2.put (Dq.ext e2 o1.1)
    obtain ⟨B3, e3, S4, _⟩ := S3.drop j
    have o2 : Dq X.K B' v2 z2 := o1.2.1
    exact ⟨v1, v2, rfl, m.nx _ _ B3 H' h1 ((xx.trans e2).trans e3) (S4.put (Dq.ext (e2.trans e3) o2))⟩
  | [.d z1, .d z2], [], h1, o1 => exact o1.elim
  | [.d z1, .d z2], [_], h1, o1 => exact o1.2.elim
  | [.d z1, .d z2], _ :: _ :: _ :: _, h1, o1 => exact o1.2.2.elim
  | [.d _, .loc _], _, h1, _ => exact h1.elim
  | [.loc _, .d _], _, h1, _ => exact h1.elim
  | [.loc _, .loc _], _, h1, _ => exact h1.elim
  | [], _, h1, _ => exact h1.elim
  | [.d _], _, h1, _ => exact h1.elim
  | [.loc _], _, h1, _ => exact h1.elim
  | _ :: _ :: _ :: _, _, h1, _ =>
    split at h1
    · rename_i e
      cases e
    · exact h1.elim
/-- x op= e -/
def wAug (i : Nat) (o : DO) (t : WE) : WS := fun w ρ => match ρ[i]? with
  | some (.dat x) => t ρ fun c ρ' => ∃ y, der ρ' c = some y ∧ o x y fun d => w.nx (ρ'.set i (.dat d))
  | _ => False
theorem saug {i : Nat} {x : Str} {op : Operator} {ti : TIp} {o : DO} {pos' : Pos} (hN : X.N.Nodup) (he : PE X e (up X.K as t)) (ho : PIp X op ti) (hv : OpV X.K ti o) (hi : X.N[i]? = some x := by rfl) (hx : Loc X.env.scope x := by first | exact Or.inl rfl | exact Or.inr rfl) (hf : X.fn x = true ∨ X.env.scope.names.lookup x = some .local := by first | exact .inl rfl | exact .inr rfl | assumption) :
    PS X (.AugAssign (.Name x pos') op e pos) (upS X.K as (wAug i o t)) := by
  refine ps_imp (ps_aug hN hi hx he ho hf) fun D σ H ⟨Z, ρ, B, w, S, h, m⟩ => ?_
  unfold wAug at h
  cases q : ρ[i]? with
  | none => simp [q] at h
  | some c =>
    cases c with
    | un => simp [q] at h
    | dic kvs => simp [q] at h
    | dit kvs => simp [q] at h
    | lst io ds => simp [q] at h
    | dat d =>
      simp [q] at h
      obtain ⟨v, h1, h2⟩ := S.dat i d q
      refine ⟨v, h1, Z, ρ, B, _, S, h, fun c ρ' v2 B' H' hh xx S' o1 => ?_⟩
      obtain ⟨y, e1, h3⟩ := hh
      refine hv B' H' v v2 d y _ _ S'.subE (.dp (Dq.ext xx h2)) (rv_of S' o1 e1) h3 fun d' v' B2 H2 p al hd => ?_
      obtain ⟨S3, x3⟩ := S'.alc al
      obtain ⟨B4, e4, S4, _⟩ := S3.drop i
      exact m.nx _ _ B4 H2 p ((xx.trans x3).trans e4) (S4.put (Dq.ext e4 hd))
def wDrop (t : WE) : WS := fun w ρ => t ρ fun _ ρ' => w.nx ρ'
theorem sdrop (he : PE X e (up X.K as t)) (hs : swapsWith e none pos.line X.env = pure false := by rfl) : PS X (.Expr e pos) (upS X.K as (wDrop t)) :=
  ps_imp (ps_expr he hs) fun D σ H ⟨Z, ρ, B, w, S, h, m⟩ => ⟨Z, ρ, B, _, S, h, fun c ρ' v B' H' h1 x S' o1 => m.nx ρ' σ B' H' h1 x S'⟩
def wRet (t : WE) : WS := fun w ρ => t ρ w.rt
theorem sret (he : PE X e (up X.K as t)) : PS X (.Return (some e) pos) (upS X.K as (wRet t)) :=
  ps_imp (ps_ret he) fun D σ H ⟨Z, ρ, B, w, S, h, m⟩ => ⟨Z, ρ, B, _, S, h, fun c ρ' v B' H' h1 x S' o1 => m.rt c ρ' σ v B' H' h1 x S' o1⟩
def wRetN (t : WN) : WS := fun w ρ => t ρ w.rn
theorem sretN {t : WN} (he : PE X e (upN X.K as t)) : PS X (.Return (some e) pos) (upS X.K as (wRetN t)) :=
  ps_imp (ps_ret he) fun D σ H ⟨Z, ρ, B, w, S, h, m⟩ => ⟨Z, ρ, B, _, S, h, fun ds ρ' p xs B' H' h1 x S' hp r => m.rn ds ρ' σ p xs B' H' h1 x S' hp r⟩
def wRet0 : WS := fun w ρ => w.rt (.d .none) ρ
def wIfS (c : WT) (t u : WS) : WS := fun w ρ => c ρ fun b ρ' => if b = true then t w ρ' else u w ρ'
theorem sif {c : WT} {t u : WS} {ec : Expr} {sa sb : List Stmt} (hc : PT X ec (upT X.K as c)) (ha : PSs X sa (upS X.K as t)) (hb : PSs X sb (upS X.K as u)) : PS X (.If ec sa sb pos) (upS X.K as (wIfS c t u)) := by
  refine ps_imp (ps_if hc ha hb) fun D σ H ⟨Z, ρ, B, w, S, h, m⟩ => ⟨Z, ρ, B, _, S, h, fun b ρ' B' H' h1 x S' => ?_⟩
  cases b with
  | true =>
    rw [if_pos rfl] at h1 ⊢
    exact ⟨Z, ρ', B', w, S', h1, m.ext x⟩
  | false =>
    rw [if_neg Bool.false_ne_true] at h1 ⊢
    exact ⟨Z, ρ', B', w, S', h1, m.ext x⟩
def wBrk : WS := fun w ρ => w.bk ρ
def wCnt : WS := fun w ρ => w.ct ρ
def wWhile (c : WT) (tb : WS) : WS := fun w ρ => ∃ W : Nat → En → Prop, (∃ m, W m ρ) ∧ ∀ m ρ, W m ρ → c ρ fun b ρ1 => if b = true then tb { w with nx := fun ρ' => ∃ m', m' < m ∧ W m' ρ', ct := fun ρ' => ∃ m', m' < m ∧ W m' ρ', bk := w.nx } ρ1 else w.nx ρ1
theorem swhile {c : WT} {tb : WS} {ec : Expr} {sa : List Stmt} (hp : PassesOwn (model X.prog X.w) X.A X.env X.xe) (hc : PT X ec (upT X.K as c)) (hb : PSs X sa (upS X.K as tb)) : PS X (.While ec sa [] pos) (upS X.K as (wWhile c tb)) := by
  refine ps_imp (ps_while hp hc hb) fun D σ H ⟨Z, ρ, B, w, S, h, m⟩ => ?_
  obtain ⟨W, ⟨m0, w0⟩, turn⟩ := h
  refine ⟨fun n σ H => ∃ ρ B', ExT B B' ∧ Sv X.K as Z ρ σ B' H ∧ W n ρ, ⟨m0, ρ, B, .refl B, S, w0⟩, fun n σ H ⟨ρ, B', x, S, hw⟩ => ?_⟩
  refine ⟨Z, ρ, B', _, S, turn n ρ hw, fun b ρ1 B1 H1 h1 x1 S1 => ?_⟩
  cases b with
  | true =>
    rw [if_pos rfl] at h1 ⊢
    refine ⟨fun σ H => ∃ m', m' < n ∧ ∃ ρ B', ExT B B' ∧ Sv X.K as Z ρ σ B' H ∧ W m' ρ, fun _ _ z => z, Z, ρ1, B1, _, S1, h1, ?_⟩
    have m1 := m.ext (x.trans x1)
    exact ⟨fun ρ2 σ2 B2 H2 ⟨m', l, hw'⟩ x2 S2 => ⟨m', l, ρ2, B2, (x.trans x1).trans x2, S2, hw'⟩, m1.rt, m1.rn, m1.nx, fun ρ2 σ2 B2 H2 ⟨m', l, hw'⟩ x2 S2 => ⟨m', l, ρ2, B2, (x.trans x1).trans x2, S2, hw'⟩, m1.er⟩
  | false =>
    rw [if_neg Bool.false_ne_true] at h1 ⊢
    exact (m.ext (x.trans x1)).nx ρ1 σ B1 H1 h1 (.refl B1) S1
end
end VL
end
section
set_option autoImplicit false
set_option maxRecDepth 100000
set_option maxHeartbeats 2000000
namespace VL
open PySem PySem.Spec PyProof.Rows L2
/-- what J hands out are the data ds -/
structure Wk (K : Fg) (J : It) (B : Hp) (ds : List D) : Prop where
  go : ∀ (i : Nat) (B1 H : Hp), ExT B B1 → (∀ a o, B1 a = some o → H a = some o) → i < ds.length → J.go i H
  stop : ∀ (i : Nat) (B1 H : Hp), ExT B B1 → (∀ a o, B1 a = some o → H a = some o) → ds.length ≤ i → J.stop i H
  yld : ∀ (i : Nat) (B1 H : Hp) (x : V) (H' : Hp), ExT B B1 → (∀ a o, B1 a = some o → H a = some o) → i < ds.length → J.yld i H x H' → ∃ (d : D) (B2 : Hp), ds[i]? = some d ∧ Al B1 H B2 H' ∧ Dq K B2 x d
theorem Wk.ext {K : Fg} {J : It} {B B' : Hp} {ds : List D} (w : Wk K J B ds) (e : ExT B B') : Wk K J B' ds :=
  ⟨fun i B1 H x s l => w.go i B1 H (e.trans x) s l, fun i B1 H x s l => w.stop i B1 H (e.trans x) s l, fun i B1 H v H' x s l => w.yld i B1 H v H' (e.trans x) s l⟩
def upI (K : Fg) (as : As) (t : WN) : TI := fun σ H R => ∃ Z ρ B P, Sv K as Z ρ σ B H ∧ t ρ P ∧ ∀ ds ρ' B' H' J, P ds ρ' → ExT B B' → Sv K as Z ρ' σ B' H' → Wk K J B' ds → R J H'
section
variable {X : Cx} {as : As} {a b c e tg : Expr} {es : List Expr} {t u : WE} {pos : Pos} {st : Stmt} {sts : List Stmt}
theorem pi_imp {t u : TI} (h : PI X tg e t) (i : ∀ σ H R, u σ H R → t σ H R) : PI X tg e u := ⟨fun pins s σ H R I q => h.run pins s σ H R I (i σ H R q)⟩
/-- a list or a tuple is walked -/
def iSeq (K : Fg) (tl : TE) : TI := fun σ H R => tl σ H fun x H1 => ∃ a, x = .ref a ∧ (((∃ xs, SqL K H1 a xs) ∧ R (Itl K a) H1) ∨ ((∃ xs, SqT K H1 a xs) ∧ R (Itt K a) H1))
theorem pi_seq {l : Expr} {tl : TE} (hl : PE X l tl) : PI X tg l (iSeq X.K tl) := by
  refine ⟨fun pins s σ H R I h => ?_⟩
  refine thn (hl.run pins s σ H _ I h) fun v s1 ⟨x, H1, I1, r1, a, e, q1⟩ => ?_
  subst e
  cases r1
  have ok := I1.fpOk (b := s1.heap.objs.size) (Nat.le_refl _) (I1.hok.fresh (Nat.le_refl _))
  rcases q1 with ⟨⟨xs, hq⟩, q⟩ | ⟨⟨xs, hq⟩, q⟩
  · obtain ⟨its, rv, p, hz⟩ := I1.list hq
    refine wpAny_pyIter_list p.isList ⟨s1.heap.objs.size, [s1.heap.objs.size], _, _, H1, rfl, ?_, turn_list a _, ⟨_, Heap.get?_push_size _ rfl, rfl, rfl⟩, fun b hb => by
      obtain rfl : b = s1.heap.objs.size := by simpa using hb
      exact ok, q⟩
    exact I1.kept (t' := s1.toks) fun b o e => Heap.get?_push_of_some _ e
  · obtain ⟨its, rv, p, hz⟩ := I1.tuple hq
    refine wpAny_pyIter_tuple (show s1.heap.IsTuple a its.toArray from p) ⟨s1.heap.objs.size, [s1.heap.objs.size], _, _, H1, rfl, ?_, turn_tuple a _, ⟨_, Heap.get?_push_size _ rfl, rfl, rfl⟩, fun b hb => by
      obtain rfl : b = s1.heap.objs.size := by simpa using hb
      exact ok, q⟩
    exact I1.kept (t' := s1.toks) fun b o e => Heap.get?_push_of_some _ e
def wSeqOf (t : WE) : WN := fun ρ P => t ρ fun c ρ' => match c with
  | .d (.list ds) => P ds ρ'
  | .d (.tuple ds) => P ds ρ'
  | _ => False
theorem wk_list {K : Fg} {B : Hp} {a : Addr} {xs : List V} {ds : List D} (h : SqL K B a xs) (r : DqAll K B xs ds) : Wk K (Itl K a) B ds where
  go := fun i B1 H x s l => by
    obtain ⟨v, h1, _⟩ := r.get (List.getElem?_eq_getElem l)
    exact ⟨xs, v, sqL_ext (.of s) (sqL_ext x h), h1⟩
  stop := fun i B1 H x s l => ⟨xs, sqL_ext (.of s) (sqL_ext x h), by rw [r.len]; exact l⟩
  yld := fun i B1 H v H' x s l y => by
    obtain ⟨rfl, f⟩ := y
    obtain ⟨d, h1, h2⟩ := r.getV (f xs (sqL_ext (.of s) (sqL_ext x h)))
    exact ⟨d, B1, h1, .no, Dq.ext x h2⟩
theorem wk_tup {K : Fg} {B : Hp} {a : Addr} {xs : List V} {ds : List D} (h : SqT K B a xs) (r : DqAll K B xs ds) : Wk K (Itt K a) B ds where
  go := fun i B1 H x s l => by
    obtain ⟨v, h1, _⟩ := r.get (List.getElem?_eq_getElem l)
    exact ⟨xs, v, sqT_ext (.of s) (sqT_ext x h), h1⟩
  stop := fun i B1 H x s l => ⟨xs, sqT_ext (.of s) (sqT_ext x h), by rw [r.len]; exact l⟩
  yld := fun i B1 H v H' x s l y => by
    obtain ⟨rfl, f⟩ := y
    obtain ⟨d, h1, h2⟩ := r.getV (f xs (sqT_ext (.of s) (sqT_ext x h)))
    exact ⟨d, B1, h1, .no, Dq.ext x h2⟩
theorem iseq (h : PE X e (up X.K as t)) : PI X tg e (upI X.K as (wSeqOf t)) := by
  refine pi_imp (pi_seq h) fun σ H R ⟨Z, ρ, B, P, S, h, k⟩ => ⟨Z, ρ, B, _, S, h, fun c ρ' v B' H' h1 x S' o1 => ?_⟩
  cases c with
  | loc i => exact h1.elim
  | d y =>
    cases y <;> (try (exact (show False from h1).elim))
    · rename_i ds
      cases o1 with
      | lst hq hr => exact ⟨_, rfl, .inl ⟨⟨_, sqL_ext S'.ext hq⟩, k _ _ B' H' _ h1 x S' (wk_list hq hr)⟩⟩
    · rename_i ds
      cases o1 with
      | tup hq hr => exact ⟨_, rfl, .inr ⟨⟨_, sqT_ext S'.ext hq⟩, k _ _ B' H' _ h1 x S' (wk_tup hq hr)⟩⟩
/-- lo, lo + 1, .. below hi -/
def rngD (lo hi : Int) : List D := (List.range (hi - lo).toNat).map fun (i : Nat) => PyData.int (lo + i)
theorem wk_rng {K : Fg} {B : Hp} {lo hi : Int} : Wk K (Itr lo (hi - lo).toNat) B (rngD lo hi) where
  go := fun i B1 H x s l => by
    show i < (hi - lo).toNat
    simpa [rngD] using l
  stop := fun i B1 H x s l => by
    show (hi - lo).toNat ≤ i
    simpa [rngD] using l
  yld := fun i B1 H v H' x s l y => by
    obtain ⟨rfl, rfl⟩ := y
    refine ⟨.int (lo + i), B1, ?_, .no, .int _⟩
    have l' : i < (hi - lo).toNat := by simpa [rngD] using l
    simp [rngD, l']
def Small (i : Int) : Prop := -(2 ^ 62) ≤ i ∧ i < 2 ^ 62
def wRng1 (r : WA) : WN := fun ρ P => r ρ fun cs ρ' => match cs with
  | [.d (.int j)] => Small j ∧ P (rngD 0 j) ρ'
  | _ => False
def wRng2 (r : WA) : WN := fun ρ P => r ρ fun cs ρ' => match cs with
  | [.d (.int i), .d (.int j)] => Small i ∧ Small j ∧ P (rngD i j) ρ'
  | _ => False
theorem irng1 {r : WA} {p : Pos} (hm : X.mg "range" = none) (ha : PA X [a] (upA X.K as r)) (hg : Gl X "range" := by rfl) (hs : starEach [a] X.env = [(false, eval a X.env)] := by rfl) : PI X tg (.Call (.Name "range" p) [a] [] pos) (upI X.K as (wRng1 r)) := by
  refine pi_imp (pi_range1 hg hm ha hs) fun σ H R ⟨Z, ρ, B, P, S, h, k⟩ => ⟨Z, ρ, B, _, S, h, fun cs ρ' vs B' H' h1 x S' o1 => ?_⟩
  split at h1
  · rename_i j
    obtain ⟨v, rfl, o2⟩ := cvs_one o1
    cases o2
    refine ⟨j, rfl, h1.1.1, h1.1.2, ?_⟩
    have w := wk_rng (K := X.K) (B := B') (lo := 0) (hi := j)
    rw [Int.sub_zero] at w
    exact k _ _ B' H' _ h1.2 x S' w
  · exact h1.elim
def wFor (wi : WN) (g : WG) (tb : WS) : WS := fun w ρ => wi ρ fun ds ρ1 => ∃ W : Nat → En → Prop, W 0 ρ1 ∧ (∀ i ρ d, W i ρ → ds[i]? = some d → g d ρ fun ρ2 => tb { w with nx := W (i + 1), ct := W (i + 1), bk := w.nx } ρ2) ∧ ∀ ρ, W ds.length ρ → w.nx ρ
theorem sfor {wi : WN} {gt : TG} {g : WG} {sl : List Nat} {tb : WS} {iter : Expr} (hc : X.calm = true) (hi : PI X tg iter (upI X.K as wi)) (hg : GV X as tg gt g sl) (hb : PSs X sts (upS X.K as tb)) (hp : PassesOwn (model X.prog X.w) X.A X.env X.xe) (hs : ∀ x, foldedSetIterable iter X.env x = pure x := by intro _; rfl) :
    PS X (.For tg iter sts [] pos) (upS X.K as (wFor wi g tb)) := by
  obtain ⟨pg, fg⟩ := hg
  refine ps_imp (ps_for hp hc hi pg hb hs) fun E σ H ⟨Z, ρ, B, w, S, h, m⟩ => ⟨Z, ρ, B, _, S, h, fun ds ρ1 B1 H1 J h1 x1 S1 wk => ?_⟩
  obtain ⟨W, w0, turn, fin⟩ := h1
  refine ⟨fun i n σ H => i + n = ds.length ∧ ∃ ρ B', ExT B1 B' ∧ Sv X.K as Z ρ σ B' H ∧ W i ρ, ⟨ds.length, by omega, ρ1, B1, .refl B1, S1, w0⟩, fun i n σ H ⟨hn, ρ, B', x, S, hw⟩ => ?_⟩
  by_cases l : i < ds.length
  · refine .inr ⟨wk.go i B' H x S.subE l, fun σ' H' => ∃ ρ B', ExT B1 B' ∧ Sv X.K as Z ρ σ' B' H' ∧ W (i + 1) ρ, fun σ' H' hN => ⟨n - 1, by omega, by omega, hN⟩, fun v H' y => ?_⟩
    obtain ⟨d, B2, hd, al, dq⟩ := wk.yld i B' H v H' x S.subE l y
    obtain ⟨S2, x2⟩ := S.alc al
    refine fg Z ρ σ B2 H' v d _ _ S2 dq (turn i ρ d hw hd) fun ρ3 σ3 B3 H3 h3 x3 S3 _ => ⟨Z, ρ3, B3, _, S3, h3, ?_⟩
    have xx : ExT B1 B3 := (x.trans x2).trans x3
    have m' := m.ext (x1.trans xx)
    exact ⟨fun ρ4 σ4 B4 H4 h4 x4 S4 => ⟨ρ4, B4, xx.trans x4, S4, h4⟩, m'.rt, m'.rn, m'.nx, fun ρ4 σ4 B4 H4 h4 x4 S4 => ⟨ρ4, B4, xx.trans x4, S4, h4⟩, m'.er⟩
  · have e : i = ds.length := by omega
    subst e
    exact .inl ⟨wk.stop _ B' H x S.subE (Nat.le_refl _), (m.ext (x1.trans x)).nx ρ σ B' H (fin ρ hw) (.refl B') S⟩
end
def wipeE (ρ : En) : List Nat → En
  | [] => ρ
  | v :: vs => (wipeE ρ vs).set v .un
section
variable {K : Fg} {as : As} {Z : Hp} {ρ : En} {σ σ' : L2.St} {B H : Hp}
/-- what stands in forgotten slots does not matter -/
theorem Sv.irr (S : Sv K as Z ρ σ B H) (hl : σ'.length = σ.length) (h : ∀ (i : Nat) (c : Cell), ρ[i]? = some c → c ≠ .un → σ'[i]? = σ[i]?) : Sv K as Z ρ σ' B H := by
  have on : ∀ {c : Cell}, VL.own c = true → c ≠ .un := fun h z => by rw [z] at h; cases h
  have ow : ∀ a, Ow ρ σ a ↔ Ow ρ σ' a := fun a => ⟨fun ⟨i, c, h1, h2, h3⟩ => ⟨i, c, h1, h2, by rw [h i c h1 (on h2)]; exact h3⟩, fun ⟨i, c, h1, h2, h3⟩ => ⟨i, c, h1, h2, by rw [← h i c h1 (on h2)]; exact h3⟩⟩
  refine ⟨S.len.trans hl.symm, fun i d e => ?_, fun i c e hc => ?_, fun i j ci cj p hi hj oi oj ei ej => ?_, fun a w wz => S.off a (fun z => w ((ow a).mp z)) wz, fun a o hz => ?_, fun i ds e => ?_, S.tab⟩
  · rw [h i _ e (fun z => by cases z)]
    exact S.dat i d e
  · rw [h i c e (on hc)]
    exact S.own i c e hc
  · rw [h i ci hi (on oi)] at ei
    rw [h j cj hj (on oj)] at ej
    exact S.one i j ci cj p hi hj oi oj ei ej
  · obtain ⟨h1, h2, h3, h4⟩ := S.hid a o hz
    exact ⟨h1, h2, fun z => h3 ((ow a).mpr z), h4⟩
  · rw [h i _ e (fun z => by cases z)]
    exact S.io i ds e
theorem wipeE_at : ∀ {vs : List Nat} {i : Nat} {c : Cell}, (wipeE ρ vs)[i]? = some c → c ≠ .un → i ∉ vs ∧ ρ[i]? = some c
  | [], i, c, h, _ => ⟨List.not_mem_nil, h⟩
  | v :: vs, i, c, h, n => by
    rcases env_set h with ⟨_, z, _⟩ | ⟨ne, z⟩
    · exact (n z).elim
    · obtain ⟨h1, h2⟩ := wipeE_at z n
      exact ⟨fun m => (List.mem_cons.mp m).elim (fun q => ne q.symm) h1, h2⟩
theorem wipe_at : ∀ {vs : List Nat} {i : Nat}, i ∉ vs → (wipe σ vs)[i]? = σ[i]?
  | [], _, _ => rfl
  | v :: vs, i, h => by
    show ((wipe σ vs).set v none)[i]? = σ[i]?
    rw [st_set fun z => h (by rw [z]; exact List.mem_cons_self), wipe_at fun z => h (List.mem_cons_of_mem _ z)]
theorem wipe_in : ∀ {vs : List Nat} {i : Nat}, i ∈ vs → i < σ.length → (wipe σ vs)[i]? = some none
  | v :: vs, i, h, l => by
    show ((wipe σ vs).set v none)[i]? = some none
    by_cases e : v = i
    · subst e
      exact st_set_same (by rw [wipe_length]; exact l)
    · rw [st_set e]
      exact wipe_in ((List.mem_cons.mp h).resolve_left fun z => e z.symm) l
theorem wipe_eq {vs : List Nat} (o : σ'.length = σ.length) (h : ∀ j, j ∉ vs → σ'[j]? = σ[j]?) : wipe σ' vs = wipe σ vs := by
  refine List.ext_getElem? fun j => ?_
  by_cases e : j ∈ vs
  · by_cases l : j < σ.length
    · rw [wipe_in e l, wipe_in e (o.symm ▸ l)]
    · rw [List.getElem?_eq_none (by rw [wipe_length]; omega), List.getElem?_eq_none (by rw [wipe_length]; omega)]
  · rw [wipe_at e, wipe_at e]
    exact h j e
theorem Sv.wipeB (S : Sv K as Z ρ σ B H) : ∀ (vs : List Nat), ∃ B', ExT B B' ∧ Sv K as Z (wipeE ρ vs) σ B' H
  | [] => ⟨B, .refl B, S⟩
  | v :: vs => by
    obtain ⟨B1, e1, S1⟩ := Sv.wipeB S vs
    obtain ⟨B2, e2, S2, _⟩ := S1.drop v
    exact ⟨B2, e1.trans e2, S2⟩
/-- the slots vs are forgotten; what stands in them does not matter -/
theorem Sv.wiped (S : Sv K as Z ρ σ B H) (vs : List Nat) (h : wipe σ vs = wipe σ' vs) : ∃ B', ExT B B' ∧ Sv K as Z (wipeE ρ vs) σ' B' H := by
  obtain ⟨B1, e1, S1⟩ := S.wipeB vs
  have hl : σ'.length = σ.length := by
    have := congrArg List.length h
    rw [wipe_length, wipe_length] at this
    exact this.symm
  refine ⟨B1, e1, S1.irr hl fun i c e n => ?_⟩
  have ni := (wipeE_at e n).1
  rw [← wipe_at (σ := σ') ni, ← h, wipe_at ni]
theorem wipe_wipe {σ : L2.St} {vs : List Nat} : wipe (wipe σ vs) vs = wipe σ vs := wipe_eq (wipe_length _ _) fun _ h => wipe_at h
/-- a list nobody sees -/
theorem Sv.hide (S : Sv K as Z ρ σ B H) {p : Addr} {xs : List V} (h : H p = none) : Sv K as (upd Z p (.lst xs)) ρ σ B (upd H p (.lst xs)) := by
  have np : ∀ a, Ow ρ σ a → a ≠ p := fun a w z => S.nOw h (z ▸ w)
  refine ⟨S.len, S.dat, fun i c e hc => ?_, S.one, fun a w wz => ?_, fun a o hz => ?_, S.io, S.tab⟩
  · obtain ⟨q, h1, h2, h3⟩ := S.own i c e hc
    exact ⟨q, h1, h2, h3.ext (.refl B) (upd_ne (np q ⟨i, c, e, hc, h1⟩))⟩
  · have na : a ≠ p := fun z => by rw [z, upd_same] at wz; cases wz
    rw [upd_ne na] at wz ⊢
    exact S.off a w wz
  · by_cases z : a = p
    · rw [z, upd_same] at hz
      cases hz
      rw [z]
      exact ⟨upd_same, S.free h, S.nOw h, .inl ⟨xs, rfl⟩⟩
    · rw [upd_ne z] at hz ⊢
      exact S.hid a o hz
theorem Sv.rehide {p : Addr} {xs ys : List V} (S : Sv K as (upd Z p (.lst xs)) ρ σ B H) : H p = some (.lst xs) ∧ Sv K as (upd Z p (.lst ys)) ρ σ B (upd H p (.lst ys)) := by
  obtain ⟨k1, k2, k3, _⟩ := S.hid p _ upd_same
  have np : ∀ a, Ow ρ σ a → a ≠ p := fun a w z => k3 (z ▸ w)
  refine ⟨k1, S.len, S.dat, fun i c e hc => ?_, S.one, fun a w wz => ?_, fun a o hz => ?_, S.io, S.tab⟩
  · obtain ⟨q, h1, h2, h3⟩ := S.own i c e hc
    exact ⟨q, h1, h2, h3.ext (.refl B) (upd_ne (np q ⟨i, c, e, hc, h1⟩))⟩
  · have na : a ≠ p := fun z => by rw [z, upd_same] at wz; cases wz
    rw [upd_ne na] at wz ⊢
    exact S.off a w (by rw [upd_ne na]; exact wz)
  · by_cases z : a = p
    · rw [z, upd_same] at hz
      cases hz
      rw [z]
      exact ⟨upd_same, k2, k3, .inl ⟨ys, rfl⟩⟩
    · rw [upd_ne z] at hz ⊢
      exact S.hid a o (by rw [upd_ne z]; exact hz)
theorem Sv.unhide {p : Addr} {o : HO} (S : Sv K as (upd Z p o) ρ σ B H) (hz : Z p = none) : ∃ H0, Sv K as Z ρ σ B H0 ∧ H0 p = none ∧ H = upd H0 p o := by
  obtain ⟨k1, k2, k3, _⟩ := S.hid p _ upd_same
  have np : ∀ a, Ow ρ σ a → a ≠ p := fun a w z => k3 (z ▸ w)
  refine ⟨fun a => if a = p then none else H a, ⟨S.len, S.dat, fun i c e hc => ?_, S.one, fun a w wz => ?_, fun a o hz2 => ?_, S.io, S.tab⟩, if_pos rfl, ?_⟩
  · obtain ⟨q, h1, h2, h3⟩ := S.own i c e hc
    exact ⟨q, h1, h2, h3.ext (.refl B) (if_neg (np q ⟨i, c, e, hc, h1⟩))⟩
  · show (if a = p then none else H a) = B a
    by_cases z : a = p
    · rw [if_pos z, z, k2]
    · rw [if_neg z]
      exact S.off a w (by rw [upd_ne z]; exact wz)
  · have na : a ≠ p := fun z => by rw [z, hz] at hz2; cases hz2
    obtain ⟨h1, h2, h3, h4⟩ := S.hid a o (by rw [upd_ne na]; exact hz2)
    exact ⟨(if_neg na).trans h1, h2, h3, h4⟩
  · funext a
    by_cases z : a = p
    · rw [z, upd_same, k1]
    · rw [upd_ne z]
      exact (if_neg z).symm
end
def wYes : WT := fun ρ P => P true ρ
def wLc (wi : WN) (g : WG) (tt : WT) (te : WE) (vs : List Nat) : WN := fun ρ P => wi ρ fun ds ρ1 => ∃ W : Nat → List D → En → Prop, W 0 [] (wipeE ρ1 vs) ∧
  (∀ i acc ρ d, W i acc ρ → ds[i]? = some d → g d ρ fun ρ2 => tt ρ2 fun b ρ3 => if b = true then te ρ3 fun c ρ4 => ∃ y, c = .d y ∧ acc.length < sizeLine ∧ W (i + 1) (acc ++ [y]) (wipeE ρ4 vs) else W (i + 1) acc (wipeE ρ3 vs)) ∧
  ∀ acc ρ, W ds.length acc ρ → P acc ρ
theorem up_lc {K : Fg} {as : As} {wi : WN} {g : WG} {gt : TG} {sl vs : List Nat} {tt : WT} {te : WE} {tt' : TT} (htt : ∀ σ H Q, upT K as tt σ H Q → tt' σ H Q)
    (fg : GOk K as gt g sl)
    (hsl : ∀ j ∈ sl, j ∈ vs) {σ : L2.St} {H : Hp} {Q : VK} (h : upN K as (wLc wi g tt te vs) σ H Q) : tLc (upI K as wi) gt tt' (up K as te) vs σ H Q := by
  obtain ⟨Z, ρ, B, P, S, h, k⟩ := h
  refine ⟨Z, ρ, B, _, S, h, fun ds ρ1 B1 H1 J h1 x1 S1 wk D hD => ?_⟩
  obtain ⟨W, w0, turn, fin⟩ := h1
  have hZ : Z D = none := S1.nZ hD
  obtain ⟨B2, x2, S2⟩ := (S1.hide (xs := []) hD).wiped vs (σ' := wipe σ vs) wipe_wipe.symm
  refine ⟨fun i n H => i + n = ds.length ∧ ∃ ρ B' acc xs, (∃ ρ0, ρ = wipeE ρ0 vs) ∧ ExT B1 B' ∧ Sv K as (upd Z D (.lst xs)) ρ (wipe σ vs) B' H ∧ DqAll K B' xs acc ∧ W i acc ρ, ⟨ds.length, by omega, _, B2, [], [], ⟨_, rfl⟩, x2, S2, .nil, w0⟩, fun i n H ⟨hn, ρ, B', acc, xs, ⟨ρ0, eρ⟩, x, S, r, hw⟩ => ?_⟩
  by_cases l : i < ds.length
  · refine .inr ⟨wk.go i B' H x S.subE l, fun H' => ∃ ρ B' acc xs, (∃ ρ0, ρ = wipeE ρ0 vs) ∧ ExT B1 B' ∧ Sv K as (upd Z D (.lst xs)) ρ (wipe σ vs) B' H' ∧ DqAll K B' xs acc ∧ W (i + 1) acc ρ, fun H' hN => ⟨n - 1, by omega, by omega, hN⟩, fun v H' y => ?_⟩
    obtain ⟨d, B3, hd, al, dq⟩ := wk.yld i B' H v H' x S.subE l y
    obtain ⟨S3, x3⟩ := S.alc al
    refine fg _ ρ _ B3 H' v d _ _ S3 dq (turn i acc ρ d hw hd) fun ρ4 σ4 B4 H4 h4 x4 S4 o4 => ?_
    have weq : wipe σ4 vs = wipe σ vs := (wipe_eq o4.1 fun j hj => o4.2 j fun z => hj (hsl j z)).trans wipe_wipe
    refine ⟨weq, htt _ _ _ ⟨_, ρ4, B4, _, S4, h4, fun b ρ5 B5 H5 h5 x5 S5 => ?_⟩⟩
    have xx : ExT B' B5 := (x3.trans x4).trans x5
    cases b with
    | true =>
      rw [if_pos rfl] at h5
      refine iteT ?_
      refine ⟨_, ρ5, B5, _, S5, h5, fun c ρ6 v6 B6 H6 h6 x6 S6 o6 => ?_⟩
      obtain ⟨y, rfl, hz, hW⟩ := h6
      have o6' : Dq K B6 v6 y := o6
      have r6 := DqAll.ext (xx.trans x6) r
      obtain ⟨e6, S7⟩ := S6.rehide (ys := xs ++ [v6])
      obtain ⟨B8, x8, S8⟩ := S7.wiped vs (σ' := wipe σ vs) (weq.trans wipe_wipe.symm)
      have rl := r.len
      exact ⟨xs, e6, by omega, _, B8, acc ++ [y], xs ++ [v6], ⟨_, rfl⟩, ((x.trans xx).trans x6).trans x8, S8, DqAll.ext x8 (DqAll.app r6 (.cons o6' .nil)), hW⟩
    | false =>
      rw [if_neg Bool.false_ne_true] at h5
      refine iteF ?_
      obtain ⟨B8, x8, S8⟩ := S5.wiped vs (σ' := wipe σ vs) (weq.trans wipe_wipe.symm)
      exact ⟨_, B8, acc, xs, ⟨_, rfl⟩, (x.trans xx).trans x8, S8, DqAll.ext (xx.trans x8) r, h5⟩
  · have e : i = ds.length := by omega
    subst e
    refine .inl ⟨wk.stop _ B' H x S.subE (Nat.le_refl _), ?_⟩
    have S8 : Sv K as (upd Z D (.lst xs)) ρ σ B' H := S.irr (by rw [wipe_length]) fun i c e n => by
      rw [eρ] at e
      rw [wipe_at (wipeE_at e n).1]
    obtain ⟨H0, S9, z9, e9⟩ := S8.unhide hZ
    rw [e9]
    exact k acc ρ D xs B' H0 (fin acc ρ hw) (x1.trans x) S9 z9 r
section
variable {X : Cx} {as : As} {elt iter tg : Expr} {pos : Pos}
/-- the tests of a comprehension -/
theorem tsnil : PTs X [] (upT X.K as wYes) := ⟨fun pins s σ H Q I ⟨Z, ρ, B, P, S, h, k⟩ => pts_nil.run pins s σ H Q I (k _ _ B H h (.refl B) S)⟩
theorem tsone {c : Expr} {t : WT} (h : PT X c (upT X.K as t)) : PTs X [c] (upT X.K as t) := pts_one h
/-- the target of a comprehension -/
def gU (K : Fg) (as : As) (g : WG) (sl : List Nat) : TG := fun v σ H Q => ∃ Z ρ B d P, Sv K as Z ρ σ B H ∧ Dq K B v d ∧ g d ρ P ∧ ∀ ρ' σ' B' H', P ρ' → ExT B B' → Sv K as Z ρ' σ' B' H' → Only sl σ σ' → Q σ' H'
theorem gup {t : TG} {g : WG} {sl : List Nat} (h : GV X as tg t g sl) : PG X tg (gU X.K as g sl) := ⟨fun pins s σ H v u Q I rv ⟨Z, ρ, B, d, P, S, hd, h1, k⟩ => h.pg.run pins s σ H v u Q I rv (h.ok Z ρ σ B H v d P Q S hd h1 k)⟩
theorem gU_ok {K : Fg} {g : WG} {sl : List Nat} : GOk K as (gU K as g sl) g sl := fun Z ρ σ B H v d P Q S hd h k => ⟨Z, ρ, B, d, P, S, hd, h, k⟩
/-- [elt for tg in iter if ..] -/
theorem vlc {ifs : List Expr} {scope : Scope} {wi : WN} {g : WG} {sl : List Nat} {tt : WT} {te : WE} (vs : List (Str × Nat)) (hc : X.calm = true) (hN : X.N.Nodup) (hi : PI X tg iter (upI X.K as wi))
    (hg : ∀ (s : Shared) (H : Hp) (C : Addr) (cl : List (Str × Addr)) (fp : List Addr), PG (X.blk s H scope (compEnvC scope cl C X.env) fp) tg (gU X.K as g sl)) (ht : ∀ (s : Shared) (H : Hp) (C : Addr) (cl : List (Str × Addr)) (fp : List Addr), PTs (X.blk s H scope (compEnvC scope cl C X.env) fp) ifs (upT X.K as tt))
    (he : ∀ (s : Shared) (H : Hp) (C : Addr) (cl : List (Str × Addr)) (fp : List Addr), PE (X.blk s H scope (compEnvC scope cl C X.env) fp) elt (up X.K as te)) (ok : BlkOk X.N X.env.scope scope vs) (hsl : ∀ j ∈ sl, j ∈ vs.map (·.2)) (hs : ∀ x, foldedSetIterable iter X.env x = pure x := by intro _; rfl) :
    PE X (.ListComp elt [⟨tg, iter, ifs, 0⟩] scope pos) (upN X.K as (wLc wi g tt te (vs.map (·.2)))) :=
  pe_imp (pe_lc hc hN hi ok hg ht he hs) fun σ H Q h => up_lc (fun _ _ _ h => h) gU_ok hsl h
end
end VL
end
section
set_option autoImplicit false
set_option maxRecDepth 100000
set_option maxHeartbeats 2000000
namespace VL
open PySem PySem.Spec PyProof.Rows L2
/-- what a def hands back: data, or a new list -/
inductive RV where
  | d (x : D) | new (ds : List D) | err (c : Str) (x : D)
abbrev Spec := En → (RV → En → Prop) → Prop
def noH : Hp := fun _ => none
/-- the promise: the arguments' cells, what is handed back and the cells behind it -/
def spV (K : Fg) (ts : List Addr) (n : Nat) (S : Spec) : Sp := fun vs H Q _ => vs.length = n ∧ ∃ ρ B P, Sv K (vs.map some, ts, nW) noH ρ (vs.map some) B H ∧ S ρ P ∧
  (∀ x ρ' v B' H', P (.d x) ρ' → ExT B B' → Sv K (vs.map some, ts, nW) noH ρ' (vs.map some) B' H' → Dq K B' v x → Q v H') ∧
  ∀ ds ρ' p xs B' H', P (.new ds) ρ' → ExT B B' → Sv K (vs.map some, ts, nW) noH ρ' (vs.map some) B' H' → H' p = none → DqAll K B' xs ds → Q (.ref p) (upd H' p (.lst xs))
section
variable {K : Fg} {as : As} {Z : Hp} {ρ : En} {σ σ' : L2.St} {B H : Hp}
/-- an own list is handed over -/
theorem Sv.pull (S : Sv K as Z ρ σ B H) {i : Nat} {io : Bool} {ds : List D} (h : ρ[i]? = some (.lst io ds)) :
    ∃ p xs H0, σ[i]? = some (some (V.ref p)) ∧ Sv K as Z (ρ.set i .un) σ B H0 ∧ H0 p = none ∧ H = upd H0 p (.lst xs) ∧ DqAll K B xs ds := by
  obtain ⟨p, h1, h2, xs, h3, h4⟩ := S.own i _ h rfl
  have key : ∀ (j : Nat) (c : Cell), (ρ.set i .un)[j]? = some c → VL.own c = true → i ≠ j ∧ ρ[j]? = some c := fun j c e hc => by
    rcases env_set e with ⟨_, z, _⟩ | z
    · rw [z] at hc
      cases hc
    · exact z
  have np : ∀ a, Ow (ρ.set i .un) σ a → a ≠ p := fun a ⟨j, c, y1, y2, y3⟩ z => by
    obtain ⟨n, y⟩ := key j c y1 y2
    exact n (S.one i j _ c p h y rfl y2 h1 (by rw [← z]; exact y3))
  refine ⟨p, xs, fun a => if a = p then none else H a, h1, ⟨by rw [List.length_set]; exact S.len, fun j d e => ?_, fun j c e hc => ?_, fun j k cj ck r hj hk oj ok ej ek => ?_, fun a w wz => ?_, fun a o hz => ?_, fun j ds e => ?_, S.tab⟩, if_pos rfl, ?_, h4⟩
  · rcases env_set e with ⟨_, z, _⟩ | ⟨_, z⟩
    · cases z
    · exact S.dat j d z
  · obtain ⟨n, z⟩ := key j c e hc
    obtain ⟨q, a1, a2, a3⟩ := S.own j c z hc
    exact ⟨q, a1, a2, a3.ext (.refl B) (if_neg (np q ⟨j, c, e, hc, a1⟩))⟩
  · exact S.one j k cj ck r (key j cj hj oj).2 (key k ck hk ok).2 oj ok ej ek
  · show (if a = p then none else H a) = B a
    by_cases z : a = p
    · rw [if_pos z, z, h2]
    · rw [if_neg z]
      refine S.off a (fun ⟨j, c, y1, y2, y3⟩ => w ⟨j, c, ?_, y2, y3⟩) wz
      have ne : i ≠ j := fun y => by
        rw [← y, h1] at y3
        cases y3
        exact z rfl
      rw [List.getElem?_set_ne ne]
      exact y1
  · obtain ⟨a1, a2, a3, a4⟩ := S.hid a o hz
    have na : a ≠ p := fun z => a3 ⟨i, _, h, rfl, by rw [z]; exact h1⟩
    exact ⟨(if_neg na).trans a1, a2, fun ⟨j, c, y1, y2, y3⟩ => a3 ⟨j, c, (key j c y1 y2).2, y2, y3⟩, a4⟩
  · rcases env_set e with ⟨_, z, _⟩ | ⟨_, z⟩
    · cases z
    · exact S.io j ds z
  · funext a
    by_cases z : a = p
    · rw [z, upd_same, h3]
    · rw [upd_ne z]
      exact (if_neg z).symm
/-- the cells of the first n slots behind a call: the caller's lists -/
def keepC : Option Cell → Cell
  | some (.lst true ds) => .lst true ds
  | _ => .un
def retE (n : Nat) (ρ : En) : En := (List.range n).map fun i => keepC ρ[i]?
def loseC (n i : Nat) : Option Cell → Bool
  | some (.lst true _) => decide (n ≤ i)
  | _ => true
def lose (n : Nat) (ρ : En) : List Nat := (List.range ρ.length).filter fun i => loseC n i ρ[i]?
theorem retE_at {n i : Nat} {c : Cell} (h : (retE n ρ)[i]? = some c) (hc : c ≠ .un) : i < n ∧ ∃ ds, c = .lst true ds ∧ ρ[i]? = some (.lst true ds) := by
  unfold retE at h
  rw [List.getElem?_map] at h
  cases e : (List.range n)[i]? with
  | none =>
    rw [e] at h
    cases h
  | some j =>
    rw [e] at h
    have l := (List.getElem?_eq_some_iff.mp e).1
    rw [List.length_range] at l
    have ej : j = i := by
      rw [List.getElem?_range l] at e
      exact (Option.some.inj e).symm
    subst ej
    have h' : keepC ρ[j]? = c := Option.some.inj h
    unfold keepC at h'
    split at h'
    · rename_i ds q
      exact ⟨l, ds, h'.symm, q⟩
    · exact (hc h'.symm).elim
theorem retE_of {n i : Nat} {ds : List D} (l : i < n) (h : ρ[i]? = some (.lst true ds)) : (retE n ρ)[i]? = some (.lst true ds) := by
  unfold retE
  rw [List.getElem?_map, List.getElem?_range l]
  show some (keepC ρ[i]?) = some _
  rw [h]
  rfl
theorem wipeE_out : ∀ {vs : List Nat} {i : Nat}, i ∉ vs → (wipeE ρ vs)[i]? = ρ[i]?
  | [], _, _ => rfl
  | v :: vs, i, h => by
    show ((wipeE ρ vs).set v .un)[i]? = ρ[i]?
    rw [List.getElem?_set_ne fun z => h (by rw [z]; exact List.mem_cons_self)]
    exact wipeE_out fun z => h (List.mem_cons_of_mem _ z)
theorem Sv.back (S : Sv K as Z ρ σ B H) (n : Nat) (hn : n ≤ as.1.length) : ∃ B', ExT B B' ∧ Sv K (as.1.take n, as.2) Z (retE n ρ) (as.1.take n) B' H := by
  obtain ⟨B1, e1, S1⟩ := S.wipeB (lose n ρ)
  have kept : ∀ (i : Nat) (ds : List D), i < n → ρ[i]? = some (.lst true ds) → (wipeE ρ (lose n ρ))[i]? = some (.lst true ds) := fun i ds l h => by
    rw [wipeE_out, h]
    intro m
    have := (List.mem_filter.mp m).2
    rw [h] at this
    have := of_decide_eq_true this
    omega
  have only : ∀ (i : Nat) (c : Cell), (wipeE ρ (lose n ρ))[i]? = some c → c ≠ .un → i < n ∧ ∃ ds, c = .lst true ds ∧ ρ[i]? = some (.lst true ds) := fun i c h hc => by
    obtain ⟨h1, h2⟩ := wipeE_at h hc
    have l : i < ρ.length := (List.getElem?_eq_some_iff.mp h2).1
    have nm : ¬ loseC n i ρ[i]? = true := fun z => h1 (List.mem_filter.mpr ⟨List.mem_range.mpr l, z⟩)
    rw [h2] at nm
    cases c with
    | lst io ds =>
      cases io with
      | true =>
        refine ⟨?_, ds, rfl, h2⟩
        have nm' : ¬ decide (n ≤ i) = true := nm
        rw [decide_eq_true_eq] at nm'
        omega
      | false => exact (nm rfl).elim
    | un => exact (hc rfl).elim
    | dat d => exact (nm rfl).elim
    | dic kvs => exact (nm rfl).elim
    | dit kvs => exact (nm rfl).elim
  have tk : ∀ {i : Nat}, i < n → (as.1.take n)[i]? = as.1[i]? := fun l => List.getElem?_take_of_lt l
  have on : ∀ {c : Cell}, VL.own c = true → c ≠ .un := fun h z => by rw [z] at h; cases h
  have ow : ∀ a, Ow (retE n ρ) (as.1.take n) a ↔ Ow (wipeE ρ (lose n ρ)) σ a := fun a => by
    constructor
    · intro ⟨i, c, h1, h2, h3⟩
      obtain ⟨l, ds, rfl, q⟩ := retE_at h1 (on h2)
      exact ⟨i, _, kept i ds l q, rfl, by rw [S.io i ds q, ← tk l]; exact h3⟩
    · intro ⟨i, c, h1, h2, h3⟩
      obtain ⟨l, ds, rfl, q⟩ := only i c h1 (on h2)
      exact ⟨i, _, retE_of l q, rfl, by rw [tk l, ← S.io i ds q]; exact h3⟩
  refine ⟨B1, e1, ⟨by simp [retE, hn], fun i d h => ?_, fun i c h hc => ?_, fun i j ci cj p hi hj oi oj ei ej => ?_, fun a w wz => S1.off a (fun z => w ((ow a).mpr z)) wz, fun a o hz => ?_, fun i ds h => rfl, S1.tab⟩⟩
  · obtain ⟨_, ds, z, _⟩ := retE_at h (fun z => by cases z)
    cases z
  · obtain ⟨l, ds, rfl, q⟩ := retE_at h (on hc)
    obtain ⟨p, a1, a2, a3⟩ := S1.own i _ (kept i ds l q) rfl
    exact ⟨p, by rw [tk l, ← S.io i ds q]; exact a1, a2, a3⟩
  · obtain ⟨l1, d1, rfl, q1⟩ := retE_at hi (on oi)
    obtain ⟨l2, d2, rfl, q2⟩ := retE_at hj (on oj)
    exact S.one i j _ _ p q1 q2 rfl rfl (by rw [S.io i d1 q1, ← tk l1]; exact ei) (by rw [S.io j d2 q2, ← tk l2]; exact ej)
  · obtain ⟨h1, h2, h3, h4⟩ := S1.hid a o hz
    exact ⟨h1, h2, fun z => h3 ((ow a).mp z), h4⟩
/-- a frame at its start: the parameters, then slots without a value -/
theorem Sv.begin {ts : List Addr} {vs : List V} (S : Sv K (vs.map some, ts, nW) Z ρ (vs.map some) B H) (m : Nat) : Sv K (vs.map some ++ List.replicate m none, ts, nW) Z (ρ ++ List.replicate m .un) (vs.map some ++ List.replicate m none) B H := by
  have hl := S.len
  have lo : ∀ (i : Nat) (c : Cell), (ρ ++ List.replicate m .un)[i]? = some c → c ≠ .un → i < ρ.length ∧ ρ[i]? = some c := fun i c h n => by
    by_cases l : i < ρ.length
    · rw [List.getElem?_append_left l] at h
      exact ⟨l, h⟩
    · rw [List.getElem?_append_right (by omega), List.getElem?_replicate] at h
      split at h
      · exact (n (Option.some.inj h).symm).elim
      · cases h
  have at_ : ∀ {i : Nat}, i < ρ.length → (vs.map some ++ List.replicate m none)[i]? = (vs.map some)[i]? := fun l => List.getElem?_append_left (by omega)
  have on : ∀ {c : Cell}, VL.own c = true → c ≠ .un := fun h z => by rw [z] at h; cases h
  have ow : ∀ a, Ow (ρ ++ List.replicate m .un) (vs.map some ++ List.replicate m none) a ↔ Ow ρ (vs.map some) a := fun a => by
    constructor
    · intro ⟨i, c, h1, h2, h3⟩
      obtain ⟨l, q⟩ := lo i c h1 (on h2)
      exact ⟨i, c, q, h2, by rw [← at_ l]; exact h3⟩
    · intro ⟨i, c, h1, h2, h3⟩
      have l : i < ρ.length := (List.getElem?_eq_some_iff.mp h1).1
      exact ⟨i, c, by rw [List.getElem?_append_left l]; exact h1, h2, by rw [at_ l]; exact h3⟩
  refine ⟨by simpa using hl, fun i d h => ?_, fun i c h hc => ?_, fun i j ci cj p hi hj oi oj ei ej => ?_, fun a w wz => S.off a (fun z => w ((ow a).mpr z)) wz, fun a o hz => ?_, fun i ds h => rfl, S.tab⟩
  · obtain ⟨l, q⟩ := lo i _ h (fun z => by cases z)
    rw [at_ l]
    exact S.dat i d q
  · obtain ⟨l, q⟩ := lo i _ h (on hc)
    rw [at_ l]
    exact S.own i c q hc
  · obtain ⟨l1, q1⟩ := lo i _ hi (on oi)
    obtain ⟨l2, q2⟩ := lo j _ hj (on oj)
    rw [at_ l1] at ei
    rw [at_ l2] at ej
    exact S.one i j ci cj p q1 q2 oi oj ei ej
  · obtain ⟨h1, h2, h3, h4⟩ := S.hid a o hz
    exact ⟨h1, h2, fun z => h3 ((ow a).mp z), h4⟩
end
/-- what a body's ends mean to its caller; n parameters -/
def endsV (n : Nat) (P : RV → En → Prop) : WEn where
  nx := fun ρ => P (.d .none) (retE n ρ)
  rt := fun c ρ => match c with
    | .d x => P (.d x) (retE n ρ)
    | .loc i => match ρ[i]? with
      | some (.lst false ds) => P (.new ds) (retE n (ρ.set i .un))
      | _ => False
  rn := fun ds ρ => P (.new ds) (retE n ρ)
section
variable {P : Program} {w : World} {K : Fg} {mg : Str → Option Value} {base : Heap}
theorem fnV {x qual : Str} {st : Stmt} {f : Addr} {fd : FuncData} {N ps : List Str} {k n : Nat} {t : WS} {S : Spec} {ts : List Addr} (F : Fun K x qual st f fd) (Sc : FnScope N ps (defScope st)) (hn : ps.length = n) (hN : n ≤ N.length)
    (hbody : ∀ (cdv : Value) (A : Around) (outer : List PySem.Env) (s : Shared) (H : Hp) (E : XK) (as : List (Option V)), Room k (A.deeper (envOfC qual (defScope st) s.heap.objs.size f cdv)) →
      PSs (cxOf CX0 P w K mg base N qual (defScope st) f cdv A outer s H E).nox (defBody st) (upS K (as, ts, nW) t))
    (hS : ∀ ρ Q, S ρ Q → t (endsV n Q) (ρ ++ List.replicate (N.length - n) .un)) : FnOk P w K mg base CX0 (k + 1) f fd ps (spV K ts n S) := by
  refine F.ok Sc (fun vs H Q E h => h.1.trans hn.symm) (fun cdv A outer s H vs Q E hr h => ?_)
  obtain ⟨hl, ρ, B, R, Sv0, hs, kd, kn⟩ := h
  have start_eq : start N vs = vs.map some ++ List.replicate (N.length - n) none := by rw [← hl]; rfl
  refine ⟨_, hbody cdv A outer s H E (start N vs) hr, ?_⟩
  have S1 : Sv K (start N vs, ts, nW) noH (ρ ++ List.replicate (N.length - n) .un) (start N vs) B H := by
    rw [start_eq]
    exact Sv0.begin _
  have asl : n ≤ (start N vs).length := by
    rw [start_eq, List.length_append, List.length_map]
    omega
  have ast : (start N vs).take n = vs.map some := by
    rw [start_eq, List.take_append_of_le_length (by rw [List.length_map]; omega), List.take_of_length_le (by rw [List.length_map]; omega)]
  refine ⟨noH, _, B, endsV n R, S1, hS ρ R hs, ⟨fun ρ' σ' B' H' h1 x1 S' => ?_, fun c ρ' σ' v B' H' h1 x1 S' o1 => ?_, fun ds ρ' σ' p xs B' H' h1 x1 S' hp r => ?_, fun _ _ _ _ h1 _ _ => h1.elim, fun _ _ _ _ h1 _ _ => h1.elim, fun _ _ _ _ _ _ _ h1 _ _ _ => h1.elim⟩⟩
  · obtain ⟨B2, e2, S2⟩ := S'.back n asl
    rw [show (start N vs, ts, nW).1.take n = vs.map some from ast] at S2
    exact kd .none _ .non B2 H' h1 (x1.trans e2) S2 .non
  · cases c with
    | d y =>
      obtain ⟨B2, e2, S2⟩ := S'.back n asl
      rw [show (start N vs, ts, nW).1.take n = vs.map some from ast] at S2
      exact kd y _ v B2 H' h1 (x1.trans e2) S2 (Dq.ext e2 o1)
    | loc i =>
      unfold endsV at h1
      dsimp only at h1
      split at h1
      · rename_i ds q
        obtain ⟨p, xs, H0, a1, S2, a2, a3, a4⟩ := S'.pull q
        have e := a1.symm.trans o1
        cases e
        obtain ⟨B2, e2, S3⟩ := S2.back n asl
        rw [show (start N vs, ts, nW).1.take n = vs.map some from ast] at S3
        rw [a3]
        exact kn ds _ p xs B2 H0 h1 (x1.trans e2) S3 a2 (DqAll.ext e2 a4)
      · exact h1.elim
  · obtain ⟨B2, e2, S2⟩ := S'.back n asl
    rw [show (start N vs, ts, nW).1.take n = vs.map some from ast] at S2
    exact kn ds _ p xs B2 H' h1 (x1.trans e2) S2 hp (DqAll.ext e2 r)
end
end VL
end
section
set_option autoImplicit false
set_option maxRecDepth 100000
set_option maxHeartbeats 2000000
namespace VL
open PySem PySem.Spec PyProof.Rows L2
section
variable {K : Fg} {as : As} {Z : Hp} {ρ : En} {σ : L2.St} {B H : Hp}
theorem dats_map {K : Fg} {ts : List Addr} {B : Hp} {vs : List V} {ds : List D} (r : DqAll K B vs ds) (tb : ∀ P ∈ ts, TabG B P) : Sv K (vs.map some, ts, nW) noH (ds.map .dat) (vs.map some) B B := by
  have no : ∀ (i : Nat) (c : Cell), (ds.map Cell.dat)[i]? = some c → own c = true → False := fun i c h hc => by
    rw [List.getElem?_map] at h
    cases e : ds[i]? with
    | none =>
      rw [e] at h
      cases h
    | some d =>
      rw [e] at h
      cases h
      cases hc
  refine ⟨by rw [List.length_map, List.length_map, r.len], fun i d h => ?_, fun i c h hc => (no i c h hc).elim, fun i j ci cj p hi hj oi oj ei ej => (no i ci hi oi).elim, fun a w wz => rfl, fun a o hz => (by cases hz), fun i ds h => rfl, tb⟩
  rw [List.getElem?_map] at h
  cases e : ds[i]? with
  | none =>
    rw [e] at h
    cases h
  | some d' =>
    rw [e] at h
    cases h
    obtain ⟨v, h1, h2⟩ := r.get e
    exact ⟨v, by rw [List.getElem?_map, h1]; rfl, h2⟩
theorem dats_map1 {K : Fg} {ts : List Addr} {B : Hp} {p : Addr} {vs xs : List V} {ds es : List D} (hp : B p = none) (r1 : DqAll K B xs es) (r : DqAll K B vs ds) (tb : ∀ P ∈ ts, TabG B P) : Sv K ((V.ref p :: vs).map some, ts, nW) noH (.lst true es :: ds.map .dat) ((V.ref p :: vs).map some) B (upd B p (.lst xs)) := by
  have S := dats_map (ts := ts) r tb
  have ow : ∀ a, Ow (.lst true es :: ds.map .dat) ((V.ref p :: vs).map some) a → a = p := fun a ⟨i, c, h1, h2, h3⟩ => by
    cases i with
    | zero =>
      have e : some (some (V.ref p)) = some (some (V.ref a)) := h3
      cases e
      rfl
    | succ i =>
      have h1' : (ds.map Cell.dat)[i]? = some c := h1
      rw [List.getElem?_map] at h1'
      cases e : ds[i]? with
      | none =>
        rw [e] at h1'
        cases h1'
      | some d =>
        rw [e] at h1'
        cases h1'
        cases h2
  have pow : Ow (.lst true es :: ds.map .dat) ((V.ref p :: vs).map some) p := ⟨0, _, rfl, rfl, rfl⟩
  have zero : ∀ (i : Nat) (c : Cell), (Cell.lst true es :: ds.map Cell.dat)[i]? = some c → own c = true → i = 0 := fun i c h hc => by
    cases i with
    | zero => rfl
    | succ i =>
      have h' : (ds.map Cell.dat)[i]? = some c := h
      rw [List.getElem?_map] at h'
      cases e : ds[i]? with
      | none =>
        rw [e] at h'
        cases h'
      | some d =>
        rw [e] at h'
        cases h'
        cases hc
  refine ⟨by simp [r.len], fun i d h => ?_, fun i c h hc => ?_, fun i j ci cj q hi hj oi oj ei ej => ?_, fun a w wz => upd_ne fun z => w (z ▸ pow), fun a o hz => (by cases hz), fun i ds h => rfl, tb⟩
  · cases i with
    | zero => cases h
    | succ i => exact S.dat i d h
  · obtain rfl := zero i c h hc
    cases h
    exact ⟨p, rfl, hp, xs, upd_same, r1⟩
  · rw [zero i ci hi oi, zero j cj hj oj]
theorem own_kind {p : Addr} : ∀ {c : Cell}, OwnAt K B H p c → (∃ xs, H p = some (.lst xs)) ∨ (∃ kvs, H p = some (.dK kvs)) ∨ ∃ kvs, H p = some (.dT kvs)
  | .lst _ _, ⟨xs, h, _⟩ => .inl ⟨xs, h⟩
  | .dic _, ⟨vs, h, _⟩ => .inr (.inl ⟨vs, h⟩)
  | .dit _, ⟨vs, h, _⟩ => .inr (.inr ⟨vs, h⟩)
theorem Sv.part (S : Sv K as Z ρ σ B H) : Part (fun a => Ow ρ σ a ∨ Z a ≠ none) H B where
  own := fun a w => by
    rcases w with w | w
    · refine ⟨(S.ow w).1, ?_⟩
      obtain ⟨i, c, h1, h2, h3⟩ := w
      obtain ⟨p, q1, q2, q3⟩ := S.own i c h1 h2
      rw [h3] at q1
      cases q1
      exact own_kind q3
    · cases e : Z a with
      | none => exact (w e).elim
      | some o =>
        obtain ⟨h1, h2, h3, h4⟩ := S.hid a o e
        rcases h4 with ⟨xs, rfl⟩ | ⟨kvs, rfl⟩ | ⟨kvs, rfl⟩
        · exact ⟨h2, .inl ⟨xs, h1⟩⟩
        · exact ⟨h2, .inr (.inl ⟨kvs, h1⟩)⟩
        · exact ⟨h2, .inr (.inr ⟨kvs, h1⟩)⟩
  off := fun a w => S.off a (fun z => w (.inl z)) (by
    cases e : Z a with
    | none => rfl
    | some o => exact (w (.inr (by rw [e]; exact fun z => by cases z))).elim)
/-- behind a call that was shown data alone -/
theorem Sv.called {H' : Hp} (S : Sv K as Z ρ σ B H) (e : ExT B H') (hW : ∀ a, (Ow ρ σ a ∨ Z a ≠ none) → H' a = none) : Sv K as Z ρ σ H' (ovl (fun a => Ow ρ σ a ∨ Z a ≠ none) H H') :=
  S.grow e (fun a w => ⟨hW a w, ovl_in w⟩) fun a w wz => ovl_out fun z => z.elim w fun z => z wz
/-- behind a call that was shown the own list of slot i besides -/
theorem Sv.called1 {H' : Hp} {i : Nat} {io : Bool} {p : Addr} {es es' : List D} {ys : List V} {B' : Hp} (S : Sv K as Z ρ σ B H) (hi : ρ[i]? = some (.lst io es)) (hp : σ[i]? = some (some (V.ref p))) (e : ExT B B') (s : ∀ a o, B' a = some o → H' a = some o) (hb : B' p = none) (h1 : H' p = some (.lst ys)) (h2 : DqAll K B' ys es')
    (hW : ∀ a, ((Ow ρ σ a ∧ a ≠ p) ∨ Z a ≠ none) → H' a = none) : ExT B' (fun a => if a = p then none else H' a) ∧ Sv K as Z (ρ.set i (.lst io es')) σ (fun a => if a = p then none else H' a) (ovl (fun a => (Ow ρ σ a ∧ a ≠ p) ∨ Z a ≠ none) H H') := by
  have x1 : ExT B' (fun a => if a = p then none else H' a) := .of fun a o h => by
    have na : a ≠ p := fun z => by rw [z, hb] at h; cases h
    exact (if_neg na).trans (s a o h)
  refine ⟨x1, ?_⟩
  have x := e.trans x1
  have hil : i < ρ.length := (List.getElem?_eq_some_iff.mp hi).1
  obtain ⟨p', q1, q2, q3⟩ := S.own i _ hi rfl
  rw [hp] at q1
  cases q1
  have powp : Ow ρ σ p := ⟨i, _, hi, rfl, hp⟩
  have Zp : Z p = none := by
    cases z : Z p with
    | none => rfl
    | some o => exact ((S.hid p o z).2.2.1 powp).elim
  have nWp : ¬ ((Ow ρ σ p ∧ p ≠ p) ∨ Z p ≠ none) := fun z => z.elim (fun z => z.2 rfl) fun z => z Zp
  have ot : ∀ (j : Nat) (cj : Cell) (r : Addr), i ≠ j → ρ[j]? = some cj → VL.own cj = true → σ[j]? = some (some (V.ref r)) → r ≠ p := fun j cj r ne h h2 h3 z => ne (S.one i j _ cj p hi h rfl h2 hp (by rw [← z]; exact h3))
  have sameOw : ∀ a, Ow (ρ.set i (.lst io es')) σ a ↔ Ow ρ σ a := fun a => by
    constructor
    · intro ⟨j, c, y1, y2, y3⟩
      rcases env_set y1 with ⟨y, z, _⟩ | ⟨ne, z⟩
      · exact ⟨i, _, hi, rfl, by rw [y]; exact y3⟩
      · exact ⟨j, c, z, y2, y3⟩
    · intro ⟨j, c, y1, y2, y3⟩
      by_cases ij : i = j
      · subst ij
        exact ⟨i, .lst io es', by simp [hil], rfl, y3⟩
      · exact ⟨j, c, by rw [List.getElem?_set_ne ij]; exact y1, y2, y3⟩
  refine ⟨by rw [List.length_set]; exact S.len, fun j d h => ?_, fun j c h hc => ?_, fun j k cj ck r hj hk oj ok ej ek => ?_, fun a w wz => ?_, fun a o hz => ?_, fun j ds h => ?_, fun P h => x.tabs P (S.tab P h)⟩
  · rcases env_set h with ⟨_, z, _⟩ | ⟨_, z⟩
    · cases z
    · obtain ⟨v, a1, a2⟩ := S.dat j d z
      exact ⟨v, a1, Dq.ext x a2⟩
  · rcases env_set h with ⟨y, z, _⟩ | ⟨ne, z⟩
    · subst y
      subst z
      exact ⟨p, hp, if_pos rfl, ys, (ovl_out nWp).trans h1, DqAll.ext x1 h2⟩
    · obtain ⟨r, a1, a2, a3⟩ := S.own j c z hc
      have np := ot j c r ne z hc a1
      have w : (Ow ρ σ r ∧ r ≠ p) ∨ Z r ≠ none := .inl ⟨⟨j, c, z, hc, a1⟩, np⟩
      exact ⟨r, a1, (if_neg np).trans (hW r w), a3.ext x (ovl_in w)⟩
  · rcases env_set hj with ⟨y1, z1, l1⟩ | ⟨n1, z1⟩
    · rcases env_set hk with ⟨y2, z2, l2⟩ | ⟨n2, z2⟩
      · exact y1.symm.trans y2
      · rw [← y1, hp] at ej
        cases ej
        exact (ot k ck p n2 z2 ok ek rfl).elim
    · rcases env_set hk with ⟨y2, z2, l2⟩ | ⟨n2, z2⟩
      · rw [← y2, hp] at ek
        cases ek
        exact (ot j cj p n1 z1 oj ej rfl).elim
      · exact S.one j k cj ck r z1 z2 oj ok ej ek
  · have w' : ¬ Ow ρ σ a := fun z => w ((sameOw a).mpr z)
    have na : a ≠ p := fun z => w' (z ▸ powp)
    rw [ovl_out fun z => z.elim (fun z => w' z.1) fun z => z wz]
    exact (if_neg na).symm
  · obtain ⟨a1, a2, a3, a4⟩ := S.hid a o hz
    have w : (Ow ρ σ a ∧ a ≠ p) ∨ Z a ≠ none := .inr (by rw [hz]; exact fun z => by cases z)
    have na : a ≠ p := fun z => a3 (z ▸ powp)
    exact ⟨(ovl_in w).trans a1, (if_neg na).trans (hW a w), fun z => a3 ((sameOw a).mp z), a4⟩
  · rcases env_set h with ⟨y, z, _⟩ | ⟨_, z⟩
    · subst y
      cases z
      exact S.io i es hi
    · exact S.io j ds z
end
def wCall (n : Nat) (S : Spec) (r : WA) : WE := fun ρ P => r ρ fun cs ρ1 => ∃ ds, dats cs = some ds ∧ ds.length = n ∧ S (ds.map .dat) fun rv _ => match rv with
  | .d x => P (.d x) ρ1
  | .new es => P (.d (.list es)) ρ1
  | .err _ _ => False
def wCallN (n : Nat) (S : Spec) (r : WA) : WN := fun ρ P => r ρ fun cs ρ1 => ∃ ds, dats cs = some ds ∧ ds.length = n ∧ S (ds.map .dat) fun rv _ => match rv with
  | .d _ => False
  | .new es => P es ρ1
  | .err _ _ => False
/-- the own list of slot i first, then data -/
def ioA : List CV → Option (Nat × List D)
  | .loc i :: r => (dats r).map (i, ·)
  | _ => none
def wCallIo (n : Nat) (S : Spec) (r : WA) : WE := fun ρ P => r ρ fun cs ρ1 => ∃ i ds io xs, ioA cs = some (i, ds) ∧ ds.length + 1 = n ∧ ρ1[i]? = some (.lst io xs) ∧ S (.lst true xs :: ds.map .dat) fun rv ρr => ∃ xs', ρr[0]? = some (.lst true xs') ∧ match rv with
  | .d x => P (.d x) (ρ1.set i (.lst io xs'))
  | .new es => P (.d (.list es)) (ρ1.set i (.lst io xs'))
  | .err _ _ => False
def wCallIoN (n : Nat) (S : Spec) (r : WA) : WN := fun ρ P => r ρ fun cs ρ1 => ∃ i ds io xs, ioA cs = some (i, ds) ∧ ds.length + 1 = n ∧ ρ1[i]? = some (.lst io xs) ∧ S (.lst true xs :: ds.map .dat) fun rv ρr => ∃ xs', ρr[0]? = some (.lst true xs') ∧ match rv with
  | .d _ => False
  | .new es => P es (ρ1.set i (.lst io xs'))
  | .err _ _ => False
section
variable {X : Cx} {as : As} {k n : Nat} {f : Addr} {fd : FuncData} {ps : List Str} {S : Spec} {x : Str} {p pos : Pos} {e : Expr} {es : List Expr} {r : WA}
theorem up_call {K : Fg} {σ : L2.St} {H : Hp} {Q : VK} (h : up K as (wCall n S r) σ H Q) : tCallP (spV K as.2.1 n S) (upA K as r) σ H Q := by
  obtain ⟨Z, ρ, B, P, S0, h, kk⟩ := h
  refine ⟨Z, ρ, B, _, S0, h, fun cs ρ1 vs B1 H1 h1 x1 S1 o1 => ?_⟩
  obtain ⟨ds, e1, e2, hs⟩ := h1
  have r := dats_ok o1 e1
  refine ⟨_, B1, S1.part, by rw [r.len]; exact e2, _, B1, _, dats_map r S1.tab, hs, fun y ρ' v B' H' q x2 S2 dq hW => ?_, fun fs ρ' pp xs B' H' q x2 S2 hp dq hW => ?_⟩
  · have x3 : ExT B1 H' := x2.trans S2.ext
    exact kk _ _ v H' _ q (x1.trans x3) (S1.called x3 hW) (Dq.ext S2.ext dq)
  · have x4 : ExT B' (upd H' pp (.lst xs)) := S2.ext.trans (.new hp)
    have x3 : ExT B1 (upd H' pp (.lst xs)) := x2.trans x4
    exact kk _ _ _ _ _ q (x1.trans x3) (S1.called x3 hW) (.lst (.inl (.inl upd_same)) (DqAll.ext x4 dq))
theorem ovl_upd {W : Addr → Prop} {H B : Hp} {p : Addr} {o : HO} (h : ¬ W p) : ovl W H (upd B p o) = upd (ovl W H B) p o := by
  funext a
  by_cases z : a = p
  · rw [z, upd_same, ovl_out h, upd_same]
  · rw [upd_ne z]
    by_cases w : W a
    · rw [ovl_in w, ovl_in w]
    · rw [ovl_out w, ovl_out w, upd_ne z]
theorem up_callN {K : Fg} {σ : L2.St} {H : Hp} {Q : VK} (h : upN K as (wCallN n S r) σ H Q) : tCallP (spV K as.2.1 n S) (upA K as r) σ H Q := by
  obtain ⟨Z, ρ, B, P, S0, h, kk⟩ := h
  refine ⟨Z, ρ, B, _, S0, h, fun cs ρ1 vs B1 H1 h1 x1 S1 o1 => ?_⟩
  obtain ⟨ds, e1, e2, hs⟩ := h1
  have r := dats_ok o1 e1
  refine ⟨_, B1, S1.part, by rw [r.len]; exact e2, _, B1, _, dats_map r S1.tab, hs, fun y ρ' v B' H' q x2 S2 dq hW => q.elim, fun fs ρ' pp xs B' H' q x2 S2 hp dq hW => ?_⟩
  have nW : ¬ (Ow ρ1 σ pp ∨ Z pp ≠ none) := fun z => by
    have := hW pp z
    rw [upd_same] at this
    cases this
  have hW' : ∀ a, (Ow ρ1 σ a ∨ Z a ≠ none) → H' a = none := fun a z => by
    have h9 := hW a z
    by_cases y : a = pp
    · rw [y] at z
      exact (nW z).elim
    · rwa [upd_ne y] at h9
  have x3 : ExT B1 H' := x2.trans S2.ext
  rw [ovl_upd nW]
  exact kk _ _ pp xs H' _ q (x1.trans x3) (S1.called x3 hW') ((ovl_out nW).trans hp) (DqAll.ext S2.ext dq)
theorem io_ok {K : Fg} {σ : L2.St} {B : Hp} {vs : List V} {cs : List CV} {i : Nat} {ds : List D} (h : CvsOk K σ B vs cs) (e : ioA cs = some (i, ds)) : ∃ v ws, vs = v :: ws ∧ σ[i]? = some (some v) ∧ DqAll K B ws ds := by
  match cs, vs, h with
  | .loc j :: r, v :: ws, h =>
    have e' : (dats r).map (j, ·) = some (i, ds) := e
    cases q : dats r with
    | none =>
      rw [q] at e'
      cases e'
    | some fs =>
      rw [q] at e'
      cases e'
      exact ⟨v, ws, rfl, h.1, dats_ok h.2 q⟩
  | .d _ :: _, _, _ => cases e
  | [], _, _ => cases e
  | .loc _ :: _, [], h => exact h.elim
theorem up_callIo {K : Fg} {σ : L2.St} {H : Hp} {Q : VK} (h : up K as (wCallIo n S r) σ H Q) : tCallP (spV K as.2.1 n S) (upA K as r) σ H Q := by
  obtain ⟨Z, ρ, B, P, S0, h, kk⟩ := h
  refine ⟨Z, ρ, B, _, S0, h, fun cs ρ1 vs B1 H1 h1 x1 S1 o1 => ?_⟩
  obtain ⟨i, ds, io, xs, e1, e2, e3, hs⟩ := h1
  obtain ⟨v, ws, rfl, a1, a2⟩ := io_ok o1 e1
  obtain ⟨pp, b1, b2, zs, b3, b4⟩ := S1.own i _ e3 rfl
  rw [a1] at b1
  cases b1
  have Zp : Z pp = none := by
    cases z : Z pp with
    | none => rfl
    | some o => exact ((S1.hid pp o z).2.2.1 ⟨i, _, e3, rfl, a1⟩).elim
  have part : Part (fun a => (Ow ρ1 σ a ∧ a ≠ pp) ∨ Z a ≠ none) H1 (upd B1 pp (.lst zs)) := by
    refine ⟨fun a w => ?_, fun a w => ?_⟩
    · have na : a ≠ pp := w.elim (fun z => z.2) fun z y => z (y ▸ Zp)
      rw [upd_ne na]
      exact S1.part.own a (w.imp (fun z => z.1) id)
    · by_cases na : a = pp
      · rw [na, upd_same, b3]
      · rw [upd_ne na]
        exact S1.part.off a fun z => w (z.imp (fun z => ⟨z, na⟩) id)
  refine ⟨_, _, part, by rw [List.length_cons, a2.len]; exact e2, _, B1, _, dats_map1 b2 b4 a2 S1.tab, hs, fun y ρ' v B' H' q x2 S2 dq hW => ?_, fun fs ρ' p2 ys B' H' q x2 S2 hp dq hW => ?_⟩
  · obtain ⟨xs', q0, q⟩ := q
    obtain ⟨p3, c1, c2, ys, c3, c4⟩ := S2.own 0 _ q0 rfl
    have ep : some (some (V.ref pp)) = some (some (V.ref p3)) := c1
    cases ep
    obtain ⟨x3, S3⟩ := S1.called1 e3 a1 x2 (fun a o z => S2.sub z) c2 c3 c4 hW
    exact kk _ _ v _ _ q ((x1.trans x2).trans x3) S3 (Dq.ext x3 dq)
  · obtain ⟨xs', q0, q⟩ := q
    obtain ⟨p3, c1, c2, us, c3, c4⟩ := S2.own 0 _ q0 rfl
    have ep : some (some (V.ref pp)) = some (some (V.ref p3)) := c1
    cases ep
    have n2 : p2 ≠ pp := fun z => by rw [z, c3] at hp; cases hp
    have nB : B' p2 = none := S2.free hp
    have x4 : ExT B' (upd B' p2 (.lst ys)) := .new nB
    obtain ⟨x3, S3⟩ := S1.called1 (H' := upd H' p2 (.lst ys)) e3 a1 (x2.trans x4) (fun a o z => by
      by_cases y : a = p2
      · rw [y, upd_same] at z ⊢
        exact z
      · rw [upd_ne y] at z ⊢
        exact S2.sub z) (by rw [upd_ne n2.symm]; exact c2) (by rw [upd_ne n2.symm]; exact c3) (DqAll.ext x4 c4) hW
    exact kk _ _ _ _ _ q ((x1.trans (x2.trans x4)).trans x3) S3 (.lst (.inl (.inl (by show (if p2 = pp then none else upd H' p2 (.lst ys) p2) = _; rw [if_neg n2, upd_same]))) (DqAll.ext (x4.trans x3) dq))
/-- f(e, ..) -/
structure CallOk (X : Cx) (ts : List Addr) (k n : Nat) (x : Str) (f : Addr) (fd : FuncData) (ps : List Str) (S : Spec) : Prop where
  fn : FnOk X.prog X.w X.K X.mg X.base CX0 k f fd ps (spV X.K ts n S)
  g : X.mg x = some (.ref f)
  kp : PySem.W.keepIn X.K (.ref f) = true
  b : Binds X.K fd ps []
theorem vcall (F : CallOk X as.2.1 k n x f fd ps S) (hr : Room k X.A) (ha : PA X (e :: es) (upA X.K as r)) (hg : Gl X x := by rfl) (hdb : (x == ("__debug__" : Str)) = false := by decide) (he : starEach (e :: es) X.env = (false, eval e X.env) :: starEach es X.env := by rfl) (hpl : (backTo pos (starEach es X.env)).any (·.1) = false := by rfl) :
    PE X (.Call (.Name x p) (e :: es) [] pos) (up X.K as (wCall n S r)) := pe_imp (pe_callP F.fn hr hg F.g F.kp F.b ha hdb he hpl) fun _ _ _ h => up_call h
theorem vcallN (F : CallOk X as.2.1 k n x f fd ps S) (hr : Room k X.A) (ha : PA X (e :: es) (upA X.K as r)) (hg : Gl X x := by rfl) (hdb : (x == ("__debug__" : Str)) = false := by decide) (he : starEach (e :: es) X.env = (false, eval e X.env) :: starEach es X.env := by rfl) (hpl : (backTo pos (starEach es X.env)).any (·.1) = false := by rfl) :
    PE X (.Call (.Name x p) (e :: es) [] pos) (upN X.K as (wCallN n S r)) := pe_imp (pe_callP F.fn hr hg F.g F.kp F.b ha hdb he hpl) fun _ _ _ h => up_callN h
theorem vcallIo (F : CallOk X as.2.1 k n x f fd ps S) (hr : Room k X.A) (ha : PA X (e :: es) (upA X.K as r)) (hg : Gl X x := by rfl) (hdb : (x == ("__debug__" : Str)) = false := by decide) (he : starEach (e :: es) X.env = (false, eval e X.env) :: starEach es X.env := by rfl) (hpl : (backTo pos (starEach es X.env)).any (·.1) = false := by rfl) :
    PE X (.Call (.Name x p) (e :: es) [] pos) (up X.K as (wCallIo n S r)) := pe_imp (pe_callP F.fn hr hg F.g F.kp F.b ha hdb he hpl) fun _ _ _ h => up_callIo h
end
end VL
end
section
set_option autoImplicit false
set_option maxRecDepth 100000
set_option maxHeartbeats 2000000
namespace VL
open PySem PySem.Spec PyProof.Rows L2
inductive RvAll (K : Fg) (B H : Hp) : List V → List D → Prop where
  | nil : RvAll K B H [] []
  | cons {v : V} {d : D} {vs : List V} {ds : List D} : Rv K B H v d → RvAll K B H vs ds → RvAll K B H (v :: vs) (d :: ds)
def ders (ρ : En) : List CV → Option (List D)
  | [] => some []
  | c :: r => match der ρ c, ders ρ r with
    | some d, some ds => some (d :: ds)
    | _, _ => none
theorem ders_ok {K : Fg} {as : As} {Z : Hp} {ρ : En} {σ : L2.St} {B H : Hp} (S : Sv K as Z ρ σ B H) : ∀ {vs : List V} {cs : List CV} {ds : List D}, CvsOk K σ B vs cs → ders ρ cs = some ds → RvAll K B H vs ds
  | [], [], _, _, e => by
    cases e
    exact .nil
  | v :: vs, c :: cs, ds, h, e => by
    unfold ders at e
    split at e
    · rename_i d es e1 e2
      cases e
      exact .cons (rv_of S h.1 e1) (ders_ok S h.2 e2)
    · cases e
  | [], _ :: _, _, h, _ => h.elim
  | _ :: _, [], _, h, _ => h.elim
def CallV (K : Fg) (r : List V → Hp → VK → Prop) (o : DC) : Prop := ∀ (B H : Hp) (vs : List V) (ds : List D) (P : D → Prop) (Q : VK), (∀ a u, B a = some u → H a = some u) → RvAll K B H vs ds → o ds P →
  (∀ d v B' H', P d → Al B H B' H' → Dq K B' v d → Q v H') → r vs H Q
def wCB (o : DC) (r : WA) : WE := fun ρ P => r ρ fun cs ρ1 => ∃ ds, ders ρ1 cs = some ds ∧ o ds fun d => P (.d d) ρ1
def wCBN (o : List D → (List D → Prop) → Prop) (r : WA) : WN := fun ρ P => r ρ fun cs ρ1 => ∃ ds, ders ρ1 cs = some ds ∧ o ds fun es => P es ρ1
section
variable {X : Cx} {as : As} {x : Str} {p pos : Pos} {a b e : Expr} {es : List Expr} {r : WA} {id T : String} {cr : List V → Hp → VK → Prop} {t : WE}
theorem up_cb {K : Fg} {o : DC} (hv : CallV K cr o) {σ : L2.St} {H : Hp} {Q : VK} (h : up K as (wCB o r) σ H Q) : tCB cr (upA K as r) σ H Q := by
  obtain ⟨Z, ρ, B, P, S, h, k⟩ := h
  refine ⟨Z, ρ, B, _, S, h, fun cs ρ1 vs B1 H1 h1 x1 S1 o1 => ?_⟩
  obtain ⟨ds, e1, h2⟩ := h1
  refine hv B1 H1 vs ds _ Q S1.subE (ders_ok S1 o1 e1) h2 fun d v B' H' q al dq => ?_
  obtain ⟨S2, x2⟩ := S1.alc al
  exact k _ _ v B' H' q (x1.trans x2) S2 dq
theorem vcb {o : DC} (hc : CallR X (.builtin id) cr) (hv : CallV X.K cr o) (hm : X.mg x = none) (hb : bootBuiltins x = some (.builtin id)) (ha : PA X (e :: es) (upA X.K as r)) (hg : Gl X x := by rfl) (hn : x ≠ "__name__" := by decide) (hdb : (x == ("__debug__" : Str)) = false := by decide)
    (he : starEach (e :: es) X.env = (false, eval e X.env) :: starEach es X.env := by rfl) (hpl : (backTo pos (starEach es X.env)).any (·.1) = false := by rfl) : PE X (.Call (.Name x p) (e :: es) [] pos) (up X.K as (wCB o r)) :=
  pe_imp (pe_callB hc hg hm hb ha hn hdb he hpl) fun _ _ _ h => up_cb hv h
theorem vct {o : DC} (hc : CallR X (.type T) cr) (hv : CallV X.K cr o) (hm : X.mg x = none) (hb : bootBuiltins x = some (.type T)) (ha : PA X (e :: es) (upA X.K as r)) (hg : Gl X x := by rfl) (hn : x ≠ "__name__" := by decide) (hdb : (x == ("__debug__" : Str)) = false := by decide)
    (he : starEach (e :: es) X.env = (false, eval e X.env) :: starEach es X.env := by rfl) (hpl : (backTo pos (starEach es X.env)).any (·.1) = false := by rfl) : PE X (.Call (.Name x p) (e :: es) [] pos) (up X.K as (wCB o r)) :=
  pe_imp (pe_callTy hc hg hm hb ha hn hdb he hpl) fun _ _ _ h => up_cb hv h
/-- a module's name for a built-in function (math.gcd ..) -/
theorem vcm {o : DC} (hc : CallR X (.builtin id) cr) (hv : CallV X.K cr o) (hm : X.mg x = some (.builtin id)) (ha : PA X (e :: es) (upA X.K as r)) (hg : Gl X x := by rfl) (hdb : (x == ("__debug__" : Str)) = false := by decide)
    (he : starEach (e :: es) X.env = (false, eval e X.env) :: starEach es X.env := by rfl) (hpl : (backTo pos (starEach es X.env)).any (·.1) = false := by rfl) : PE X (.Call (.Name x p) (e :: es) [] pos) (up X.K as (wCB o r)) :=
  pe_imp (pe_callBfun hc hg hm ha hdb he hpl) fun _ _ _ h => up_cb hv h
end
section
variable {K : Fg}
theorem RvAll.one {B H : Hp} {vs : List V} {d : D} (h : RvAll K B H vs [d]) : ∃ v, vs = [v] ∧ Rv K B H v d := by
  cases h with
  | cons a r =>
    cases r
    exact ⟨_, rfl, a⟩
theorem RvAll.two {B H : Hp} {vs : List V} {d e : D} (h : RvAll K B H vs [d, e]) : ∃ v u, vs = [v, u] ∧ Rv K B H v d ∧ Rv K B H u e := by
  cases h with
  | cons a r =>
    obtain ⟨u, rfl, b⟩ := r.one
    exact ⟨_, u, rfl, a, b⟩
def oLen : DC := fun ds P => match ds with
  | [.list xs] => P (.int xs.length)
  | [.tuple xs] => P (.int xs.length)
  | [.str z] => z.length ≤ sizeLine ∧ P (.int z.length)
  | _ => False
theorem cv_len : CallV K (fun xs H Q => ∃ x n, xs = [x] ∧ LenV K x H n ∧ Q (.int n) H) oLen := by
  intro B H vs ds P Q e a c k
  unfold oLen at c
  split at c
  · obtain ⟨v, rfl, b⟩ := a.one
    obtain ⟨l, xs, rfl, h1, r1⟩ := b.list e
    exact ⟨_, xs.length, rfl, .inl ⟨xs, h1, rfl⟩, by rw [r1.len]; exact k _ _ _ _ c .no (.int _)⟩
  · obtain ⟨v, rfl, b⟩ := a.one
    obtain ⟨l, xs, rfl, h1, r1⟩ := b.tup e
    exact ⟨_, xs.length, rfl, .inr ⟨xs, h1, rfl⟩, by rw [r1.len]; exact k _ _ _ _ c .no (.int _)⟩
  · obtain ⟨v, rfl, b⟩ := a.one
    cases b.str
    exact ⟨_, _, rfl, ⟨c.1, rfl⟩, k _ _ _ _ c.2 .no (.int _)⟩
  · exact c.elim
def oInt1 (g : Int → D) : DC := fun ds P => match ds with
  | [.int i] => P (g i)
  | _ => False
def oInt2 (g : Int → Int → D) : DC := fun ds P => match ds with
  | [.int i, .int j] => P (g i j)
  | _ => False
abbrev oAbs : DC := oInt1 fun i => .int (if i < 0 then -i else i)
abbrev oMax2 : DC := oInt2 fun i j => .int (if j > i then j else i)
abbrev oMin2 : DC := oInt2 fun i j => .int (if j < i then j else i)
abbrev oGcd : DC := oInt2 fun i j => .int (Int.gcd i j)
theorem cv_i1 {g : Int → V} {gd : Int → D} (hg : ∀ B i, Dq K B (g i) (gd i)) : CallV K (fun xs H Q => ∃ i, xs = [.int i] ∧ Q (g i) H) (oInt1 gd) := by
  intro B H vs ds P Q e a c k
  unfold oInt1 at c
  split at c
  · obtain ⟨v, rfl, b⟩ := a.one
    cases b.int
    exact ⟨_, rfl, k _ _ _ _ c .no (hg B _)⟩
  · exact c.elim
theorem cv_i2 {g : Int → Int → V} {gd : Int → Int → D} (hg : ∀ B i j, Dq K B (g i j) (gd i j)) : CallV K (fun xs H Q => ∃ i j, xs = [.int i, .int j] ∧ Q (g i j) H) (oInt2 gd) := by
  intro B H vs ds P Q e a c k
  unfold oInt2 at c
  split at c
  · obtain ⟨v, u, rfl, b1, b2⟩ := a.two
    cases b1.int
    cases b2.int
    exact ⟨_, _, rfl, k _ _ _ _ c .no (hg B _ _)⟩
  · exact c.elim
def oToInt : DC := fun ds P => match ds with
  | [.int i] => P (.int i)
  | [.bool b] => P (.int (if b then 1 else 0))
  | _ => False
theorem cv_int : CallV K (fun xs H Q => (∃ i, xs = [.int i] ∧ Q (.int i) H) ∨ ∃ k, xs = [.bl k] ∧ Q (.int (if k then 1 else 0)) H) oToInt := by
  intro B H vs ds P Q e a c k
  unfold oToInt at c
  split at c
  · obtain ⟨v, rfl, b⟩ := a.one
    cases b.int
    exact .inl ⟨_, rfl, k _ _ _ _ c .no (.int _)⟩
  · obtain ⟨v, rfl, b⟩ := a.one
    cases b.bool
    exact .inr ⟨_, rfl, k _ _ _ _ c .no (.int _)⟩
  · exact c.elim
/-- ints alone -/
def intsOf : List D → Option (List Int)
  | [] => some []
  | .int i :: r => (intsOf r).map (i :: ·)
  | _ :: _ => none
theorem intsOf_map : ∀ {ds : List D} {ns : List Int}, intsOf ds = some ns → ds = ns.map PyData.int
  | [], _, e => by
    cases e
    rfl
  | .int i :: r, ns, e => by
    unfold intsOf at e
    cases q : intsOf r with
    | none =>
      rw [q] at e
      cases e
    | some ms =>
      rw [q] at e
      cases e
      rw [intsOf_map q]
      rfl
  | .none :: _, _, e => by cases e
  | .bool _ :: _, _, e => by cases e
  | .str _ :: _, _, e => by cases e
  | .list _ :: _, _, e => by cases e
  | .tuple _ :: _, _, e => by cases e
  | .dict _ :: _, _, e => by cases e
theorem intsOf_of : ∀ ns : List Int, intsOf (ns.map PyData.int) = some ns
  | [] => rfl
  | n :: r => by
    show (intsOf (r.map PyData.int)).map (n :: ·) = some (n :: r)
    rw [intsOf_of r]
    rfl
theorem free_of {B H : Hp} (e : ∀ a u, B a = some u → H a = some u) {p : Addr} (h : H p = none) : B p = none := by
  cases z : B p with
  | none => rfl
  | some o =>
    rw [e p o z] at h
    cases h
end
def realD : List (D × D) → Bool
  | (.list _, _) :: _ => false
  | _ => true
def tyD : D → String
  | .none => "NoneType"
  | .bool _ => "bool"
  | .int _ => "int"
  | .str _ => "str"
  | .list _ => "list"
  | .tuple _ => "tuple"
  | .dict kvs => if realD kvs = true then "dict" else "set"
theorem tyD_dict {K : Fg} {B : Hp} {vs : List (Key × V)} {ds : List (D × D)} (r : DqPs K B vs ds) : tyD (.dict ds) = "dict" := by
  cases r with
  | nil => rfl
  | @cons k v d r s h t => cases k <;> rfl
theorem tyX_of {K : Fg} {B H : Hp} (e : ∀ a u, B a = some u → H a = some u) {v : V} {d : D} (h : Rv K B H v d) : TyX K H v (.type (tyD d)) := by
  cases h with
  | ls h r => exact .base (.lst h)
  | dp h =>
    cases h with
    | non => exact .base .non
    | bl b => exact .base (.bl b)
    | int i => exact .base (.int i)
    | str x => exact .base (.str x)
    | lst h r =>
      rcases h with (h | ⟨o, h⟩) | ⟨o, its, n, h1, h2, _⟩
      · exact .base (.lst (e _ _ h))
      · exact .base (.frz (e _ _ h))
      · exact .kList h1 h2
    | tup h r =>
      rcases h with (h | ⟨o, h⟩) | ⟨o, its, n, h1, h2, _⟩
      · exact .base (.tup (e _ _ h))
      · exact .fTuple (e _ _ h)
      · exact .kTuple h1 h2
    | dct h r =>
      rw [tyD_dict r]
      rcases h with h | ⟨o, h⟩
      · exact .base (.dK (e _ _ h))
      · exact .fDict (e _ _ h)
    | st h r => exact .set (e _ _ h)
/-- isinstance of data, T one of int, bool, str, list, tuple, dict -/
def isiD (T : String) (d : D) : Bool := match d with
  | .bool _ => T == "bool" || T == "int"
  | .dict kvs => realD kvs && (T == "dict")
  | d => tyD d == T
def goodTy (T : String) : Bool := ["int", "bool", "str", "list", "tuple", "dict"].contains T
theorem isi_kit {T : String} (h : goodTy T = true) (d : D) : kitB (tyD d) T = some (isiD T d) := by
  have h' : T ∈ ["int", "bool", "str", "list", "tuple", "dict"] := by simpa [goodTy] using h
  simp only [List.mem_cons, List.not_mem_nil, or_false] at h'
  rcases h' with rfl | rfl | rfl | rfl | rfl | rfl <;> cases d <;> first | decide +kernel | rfl | (rename_i ds; simp only [isiD, tyD]; cases realD ds <;> first | decide +kernel | rfl)
def wIsi (T : String) (t : WE) : WE := fun ρ P => t ρ fun c ρ1 => ∃ d, der ρ1 c = some d ∧ P (.d (.bool (isiD T d))) ρ1
def wIsi2 (T U : String) (t : WE) : WE := fun ρ P => t ρ fun c ρ1 => ∃ d, der ρ1 c = some d ∧ P (.d (.bool (isiD T d || isiD U d))) ρ1
section
variable {X : Cx} {as : As} {x : Str} {p pos q1 q2 q3 : Pos} {a b e : Expr} {es : List Expr} {t : WE}
theorem visi {T : String} {n : Str} (hm : X.mg "isinstance" = none) (hT : X.mg n = none) (bT : bootBuiltins n = some (.type T)) (ha : PE X a (up X.K as t)) (gT : goodTy T = true := by decide) (hg : Gl X "isinstance" := by rfl) (hgT : Gl X n := by rfl) (hn : n ≠ "__name__" := by decide) (hd : (n == ("__debug__" : Str)) = false := by decide)
    (he : starEach [a, .Name n q1] X.env = (false, eval a X.env) :: starEach [.Name n q1] X.env := by rfl) (he1 : starEach [.Name n q1] X.env = (false, eval (.Name n q1) X.env) :: starEach [] X.env := by rfl) (hpl : (backTo pos (starEach [.Name n q1] X.env)).any (·.1) = false := by rfl) :
    PE X (.Call (.Name "isinstance" p) [a, .Name n q1] [] pos) (up X.K as (wIsi T t)) := by
  refine pe_imp (pe_callB call_isi hg hm (by decide +kernel) (pa_cons ha (pa_cons (pe_bltn (v := .ty T) hgT hT bT rfl hn hd) pa_nil he1) he) (by decide) (by decide) he hpl) fun σ H Q ⟨Z, ρ, B, P, S, h, k⟩ => ⟨Z, ρ, B, _, S, h, fun c ρ1 v B1 H1 h1 x1 S1 o1 => ?_⟩
  obtain ⟨d, e1, h2⟩ := h1
  exact ⟨v, .ty T, _, _, _, rfl, .ty T, tyX_of S1.subE (rv_of S1 o1 e1), kit_ty (isi_kit gT d), k _ _ _ B1 H1 h2 x1 S1 (.bl _)⟩
end
end VL
end
section
set_option autoImplicit false
set_option maxRecDepth 100000
set_option maxHeartbeats 2000000
namespace VL
open PySem PySem.Spec PyProof.Rows L2
section
variable {X : Cx} {as : As} {a b e : Expr} {es : List Expr} {t u : WE} {pos : Pos} {x : Str}
/-- the object of the own list in slot i -/
theorem own_at {K : Fg} {Z : Hp} {ρ : En} {σ : L2.St} {B H : Hp} (S : Sv K as Z ρ σ B H) {i : Nat} {io : Bool} {ds : List D} (h : ρ[i]? = some (.lst io ds)) : ∃ p xs, σ[i]? = some (some (V.ref p)) ∧ H p = some (.lst xs) ∧ DqAll K B xs ds := by
  obtain ⟨p, h1, _, xs, h3, h4⟩ := S.own i _ h rfl
  exact ⟨p, xs, h1, h3, h4⟩
theorem Sv.store {K : Fg} {Z : Hp} {ρ : En} {σ : L2.St} {B H : Hp} (S : Sv K as Z ρ σ B H) {i : Nat} {io : Bool} {ds es : List D} {p : Addr} {ys : List V} (h : ρ[i]? = some (.lst io ds)) (hp : σ[i]? = some (some (V.ref p))) (r : DqAll K B ys es) : Sv K as Z (ρ.set i (.lst io es)) σ B (upd H p (.lst ys)) :=
  S.mut h rfl hp rfl (fun fs z => by
    cases z
    exact ⟨ds, rfl⟩) ⟨ys, upd_same, r⟩
/-- x.append(e), x an own list -/
def wApp (i : Nat) (t : WE) : WS := fun w ρ => (∃ io ds, ρ[i]? = some (.lst io ds)) ∧ t ρ fun c ρ1 => ∃ y io ds, c = .d y ∧ ρ1[i]? = some (.lst io ds) ∧ ds.length < sizeLine ∧ w.nx (ρ1.set i (.lst io (ds ++ [y])))
/-- x.extend(e), e a new list -/
def wExt (i : Nat) (t : WN) : WS := fun w ρ => (∃ io ds, ρ[i]? = some (.lst io ds)) ∧ t ρ fun fs ρ1 => ∃ io ds, ρ1[i]? = some (.lst io ds) ∧ ds.length + fs.length ≤ sizeLine ∧ w.nx (ρ1.set i (.lst io (ds ++ fs)))
/-- x.insert(i, e) -/
def wIns (i : Nat) (r : WA) : WS := fun w ρ => (∃ io ds, ρ[i]? = some (.lst io ds)) ∧ r ρ fun cs ρ1 => ∃ k y io ds, cs = [.d (.int k), .d y] ∧ ρ1[i]? = some (.lst io ds) ∧ ds.length < sizeLine ∧ 0 ≤ k ∧ k < 2 ^ 63 ∧ w.nx (ρ1.set i (.lst io (ds.take k.toNat ++ [y] ++ ds.drop k.toNat)))
/-- x[k] = e -/
def wSetIt (i : Nat) (u t : WE) : WS := fun w ρ => t ρ fun c ρ1 => ∃ y, c = .d y ∧ (∃ io ds, ρ1[i]? = some (.lst io ds)) ∧ u ρ1 fun c2 ρ2 => ∃ k j io ds, c2 = .d (.int k) ∧ ρ2[i]? = some (.lst io ds) ∧ ixN ds.length k = some j ∧ w.nx (ρ2.set i (.lst io (ds.set j y)))
theorem ssetit (i : Nat) {p1 p2 : Pos} (he : PE X e (up X.K as t)) (hk : PE X b (up X.K as u)) (hN : X.N[i]? = some x := by rfl) (hv : Vis X.env.scope x := by first | exact Or.inl rfl | exact Or.inr (Or.inl rfl) | exact Or.inr (Or.inr rfl)) (hd : (x == ("__debug__" : Str)) = false := by decide) (hcd : (x == ("__classdict__" : Str)) = false := by decide)
    (ha : ∀ v, assign (.Subscript (.Name x p1) b p2) X.env v = (do
      let ov ← holding [v] (eval (.Name x p1) X.env)
      let iv ← holding [v, ov] (eval b X.env)
      standAt p2
      holding [v, ov, iv] (setItem ov iv v)
      release [v, ov, iv] []) := by intro _; rfl)
    (hs : swapsWithSole [.Subscript (.Name x p1) b p2] e pos.line X.env = pure false := by rfl) (hw : swappedStores [.Subscript (.Name x p1) b p2] e X.env = pure none := by rfl)
    (h1 : (assignEach [.Subscript (.Name x p1) b p2] X.env).map (·.2) = [assign (.Subscript (.Name x p1) b p2) X.env] := by rfl) : PS X (.Assign [.Subscript (.Name x p1) b p2] e pos) (upS X.K as (wSetIt i u t)) := by
  refine ps_imp (ps_asg he (pg_sub (pe_var hN hv hd hcd) hk set_list ha) hs hw h1) fun E σ H ⟨Z, ρ, B, w, S, h, m⟩ => ⟨Z, ρ, B, _, S, h, fun c ρ1 v B1 H1 h1 x1 S1 o1 => ?_⟩
  obtain ⟨y, rfl, ⟨io, ds, h0⟩, h⟩ := h1
  obtain ⟨p, xs, q1, q2, q3⟩ := own_at S1 h0
  refine ⟨.ref p, q1, Z, ρ1, B1, _, S1, h, fun c2 ρ2 v2 B2 H2 h2 x2 S2 o2 => ?_⟩
  obtain ⟨k, j, io2, ds2, rfl, h3, h4, h5⟩ := h2
  cases o2
  obtain ⟨p1, ys, r1, r2, r3⟩ := own_at S2 h3
  rw [q1] at r1
  cases r1
  exact ⟨p, ys, k, j, rfl, rfl, r2, by rw [r3.len]; exact h4, m.nx _ _ B2 _ h5 (x1.trans x2) (S2.store h3 q1 (DqAll.set _ r3 (Dq.ext x2 o1)))⟩
abbrev WO := En → (Option Int → En → Prop) → Prop
def wNoPart : WO := fun ρ P => P none ρ
def wPart (t : WE) : WO := fun ρ P => t ρ fun c ρ1 => match c with
  | .d (.int i) => P (some i) ρ1
  | _ => False
def cutD (ds : List D) (lo hi : Option Int) : List D := (ds.drop (HT.sIx ds.length 0 lo)).take (HT.sIx ds.length ds.length hi - HT.sIx ds.length 0 lo)
def wSl (t : WE) (lo hi : WO) : WE := fun ρ P => t ρ fun c ρ1 => lo ρ1 fun l ρ2 => hi ρ2 fun u ρ3 => match der ρ3 c with
  | some (.tuple ds) => P (.d (.tuple (cutD ds l u))) ρ3
  | some (.list ds) => P (.d (.list (cutD ds l u))) ρ3
  | _ => False
def wSlN (t : WE) (lo hi : WO) : WN := fun ρ P => t ρ fun c ρ1 => lo ρ1 fun l ρ2 => hi ρ2 fun u ρ3 => match der ρ3 c with
  | some (.list ds) => P (cutD ds l u) ρ3
  | _ => False
def flatD : D → Bool
  | .list _ => false
  | .tuple _ => false
  | .dict _ => false
  | _ => true
def inD (x : D) (ds : List D) : Bool := ds.any fun z => PyData.eqv z x
/-- x in a list or a tuple: of flat things, or data of any depth in a list -/
def oIn (neg : Bool) : DO := fun x y P => match y with
  | .list ds => ((flatD x = true ∧ ds.all flatD = true) ∨ (SeqAt.shaped x = true ∧ SeqAt.shaped (.list ds) = true)) ∧ P (.bool (if neg then !inD x ds else inD x ds))
  | .tuple ds => (flatD x = true ∧ ds.all flatD = true) ∧ P (.bool (if neg then !inD x ds else inD x ds))
  | _ => False
end
end VL
end
section
set_option autoImplicit false
set_option maxRecDepth 100000
set_option maxHeartbeats 2000000
namespace VL
open PySem PySem.Spec PyProof.Rows L2
section
variable {X : Cx} {as : As} {a b c e : Expr} {es : List Expr} {t u v : WE} {pos : Pos} {st : Stmt} {sts : List Stmt}
def wChain (o1 o2 : DO) (t u v : WE) : WE := fun ρ P => t ρ fun c1 ρ1 => u ρ1 fun c2 ρ2 => ∃ x y, der ρ2 c1 = some x ∧ der ρ2 c2 = some y ∧ o1 x y fun d =>
  (d = .bool true ∧ v ρ2 fun c3 ρ3 => ∃ y' z, der ρ3 c2 = some y' ∧ der ρ3 c3 = some z ∧ o2 y' z fun d' => P (.d d') ρ3) ∨ (d = .bool false ∧ P (.d (.bool false)) ρ2)
theorem up_chain {K : Fg} {r r' : R2} {o o' : DO} (hv : OpV K r o) (hv' : OpV K r' o') {σ : L2.St} {H : Hp} {Q : VK} (h : up K as (wChain o o' t u v) σ H Q) : tChain r r' (up K as t) (up K as u) (up K as v) σ H Q := by
  obtain ⟨Z, ρ, B, P, S, h, k⟩ := h
  refine ⟨Z, ρ, B, _, S, h, fun c1 ρ1 v1 B1 H1 h1 x1 S1 o1 => ?_⟩
  refine ⟨Z, ρ1, B1, _, S1, h1, fun c2 ρ2 v2 B2 H2 h2 x2 S2 o2 => ?_⟩
  obtain ⟨x, y, e1, e2, h3⟩ := h2
  refine hv B2 H2 v1 v2 x y _ _ S2.subE (rv_of S2 (o1.ext x2) e1) (rv_of S2 o2 e2) h3 fun d w B3 H3 p al hd => ?_
  obtain ⟨S3, x3⟩ := S2.alc al
  rcases p with ⟨rfl, p⟩ | ⟨rfl, p⟩
  · cases hd
    refine ⟨true, rfl, ?_⟩
    rw [if_pos rfl]
    refine ⟨Z, ρ2, B3, _, S3, p, fun c3 ρ3 v3 B4 H4 h4 x4 S4 o4 => ?_⟩
    obtain ⟨y', z, e3, e4, h5⟩ := h4
    refine hv' B4 H4 v2 v3 y' z _ _ S4.subE (rv_of S4 (o2.ext (x3.trans x4)) e3) (rv_of S4 o4 e4) h5 fun d' w' B5 H5 p5 al5 hd5 => ?_
    obtain ⟨S5, x5⟩ := S4.alc al5
    exact k _ _ w' B5 H5 p5 ((((x1.trans x2).trans x3).trans x4).trans x5) S5 hd5
  · cases hd
    refine ⟨false, rfl, ?_⟩
    rw [if_neg Bool.false_ne_true]
    exact k _ _ _ B3 H3 p ((x1.trans x2).trans x3) S3 (.bl false)
theorem tchain {op op' : CmpOp} {r r' : R2} {o o' : DO} (ho : OpR X (compareOp op) r) (hv : OpV X.K r o) (ho' : OpR X (compareOp op') r') (hv' : OpV X.K r' o') (ha : PE X a (up X.K as t)) (hb : PE X b (up X.K as u)) (hc : PE X c (up X.K as v))
    (hm : lastMarks [op, op'] [b, c] = false := by with_unfolding_all rfl) : PT X (.Compare a [op, op'] [b, c] pos) (upT X.K as (wTest (wChain o o' t u v))) := by
  refine pt_imp (pt_chain ho ho' ha hb hc hm) fun σ H Q ⟨Z, ρ, B, P, S, h, k⟩ => up_chain hv hv' ⟨Z, ρ, B, _, S, h, fun c ρ' v B' H' h1 x S' o1 => ?_⟩
  cases c with
  | loc i => exact h1.elim
  | d y =>
    cases y <;> (try (exact (show False from h1).elim))
    rename_i k2
    cases o1
    exact ⟨k2, rfl, k _ _ B' H' h1 x S'⟩
def wNeg (t : WE) : WE := fun ρ P => t ρ fun c ρ' => match c with
  | .d (.int i) => P (.d (.int (-i))) ρ'
  | _ => False
def valD {κ : Type} [DecidableEq κ] (kvs : List (κ × D)) (k : κ) : Option D := (kvs.find? fun kv => decide (kv.1 = k)).map (·.2)
def putD {κ : Type} [DecidableEq κ] (kvs : List (κ × D)) (k : κ) (v : D) : List (κ × D) :=
  if (kvs.any fun kv => decide (kv.1 = k)) = true then kvs.map (fun kv => if kv.1 = k then (kv.1, v) else kv) else kvs ++ [(k, v)]
theorem DqKV.any {κ : Type} [DecidableEq κ] {K : Fg} {B : Hp} (k : κ) : ∀ {vs : List (κ × V)} {ds : List (κ × D)}, DqKV K B vs ds → (vs.any fun kv => decide (kv.1 = k)) = ds.any fun kv => decide (kv.1 = k)
  | _, _, .nil => rfl
  | _, _, .cons h r => by rw [List.any_cons, List.any_cons, DqKV.any k r]
theorem DqKV.app {κ : Type} [DecidableEq κ] {K : Fg} {B : Hp} {ws : List (κ × V)} {es : List (κ × D)} (s : DqKV K B ws es) : ∀ {vs : List (κ × V)} {ds : List (κ × D)}, DqKV K B vs ds → DqKV K B (vs ++ ws) (ds ++ es)
  | _, _, .nil => s
  | _, _, .cons h r => .cons h (DqKV.app s r)
theorem DqKV.repl {κ : Type} [DecidableEq κ] {K : Fg} {B : Hp} {k : κ} {y : V} {d : D} (h : Dq K B y d) : ∀ {vs : List (κ × V)} {ds : List (κ × D)}, DqKV K B vs ds → DqKV K B (vs.map fun kv => if kv.1 = k then (kv.1, y) else kv) (ds.map fun kv => if kv.1 = k then (kv.1, d) else kv)
  | _, _, .nil => .nil
  | (k', v) :: vs, (_, d') :: ds, .cons h1 r => by
    rw [List.map_cons, List.map_cons]
    by_cases e : k' = k
    · simp only [e, if_true]
      exact .cons h (DqKV.repl h r)
    · simp only [e, if_false]
      exact .cons h1 (DqKV.repl h r)
theorem DqKV.put {κ : Type} [DecidableEq κ] {K : Fg} {B : Hp} {k : κ} {y : V} {d : D} {vs : List (κ × V)} {ds : List (κ × D)} (r : DqKV K B vs ds) (h : Dq K B y d) : DqKV K B (putK vs k y) (putD ds k d) := by
  unfold putK putD
  rw [DqKV.any k r]
  split
  · exact DqKV.repl h r
  · exact DqKV.app (.cons h .nil) r
theorem DqKV.val {κ : Type} [DecidableEq κ] {K : Fg} {B : Hp} (k : κ) : ∀ {vs : List (κ × V)} {ds : List (κ × D)}, DqKV K B vs ds → (valD ds k = none ∧ valV vs k = none) ∨ ∃ d v, valD ds k = some d ∧ valV vs k = some v ∧ Dq K B v d
  | _, _, .nil => .inl ⟨rfl, rfl⟩
  | (k', v) :: vs, (_, d') :: ds, .cons h1 r => by
    by_cases e : k' = k
    · refine .inr ⟨d', v, ?_, ?_, h1⟩
      · simp [valD, List.find?_cons, e]
      · exact valV_pos (p := (k', v)) e
    · have ih := DqKV.val k r
      rw [valV_neg (p := (k', v)) e, show valD ((k', d') :: ds) k = valD ds k by simp [valD, List.find?_cons, e]]
      exact ih
theorem DqKV.len {κ : Type} [DecidableEq κ] {K : Fg} {B : Hp} : ∀ {vs : List (κ × V)} {ds : List (κ × D)}, DqKV K B vs ds → vs.length = ds.length
  | _, _, .nil => rfl
  | _, _, .cons _ r => congrArg (· + 1) (DqKV.len r)
def wDnew (i : Nat) : WS := fun w ρ => i < ρ.length ∧ w.nx (ρ.set i (.dic []))
def wDput (i : Nat) (u t : WE) : WS := fun w ρ => t ρ fun c ρ1 => ∃ y, c = .d y ∧ (∃ kvs, ρ1[i]? = some (.dic kvs)) ∧ u ρ1 fun c2 ρ2 => ∃ k kvs, c2 = .d (keyD k) ∧ ρ2[i]? = some (.dic kvs) ∧ kvs.length < sizeLine ∧ w.nx (ρ2.set i (.dic (putD kvs k y)))
def wDget (i : Nat) (u : WE) : WE := fun ρ P => (∃ kvs, ρ[i]? = some (.dic kvs)) ∧ u ρ fun c ρ1 => ∃ k kvs y, c = .d (keyD k) ∧ ρ1[i]? = some (.dic kvs) ∧ valD kvs k = some y ∧ P (.d y) ρ1
def wDin (i : Nat) (u : WE) : WT := fun ρ P => u ρ fun c ρ1 => ∃ k kvs, c = .d (keyD k) ∧ ρ1[i]? = some (.dic kvs) ∧ P (valD kvs k).isSome ρ1
def wDnin (i : Nat) (u : WE) : WT := fun ρ P => u ρ fun c ρ1 => ∃ k kvs, c = .d (keyD k) ∧ ρ1[i]? = some (.dic kvs) ∧ P (!(valD kvs k).isSome) ρ1
theorem DqKV.isSome {K : Fg} {B : Hp} (k : Key) {vs : List (Key × V)} {ds : List (Key × D)} (r : DqKV K B vs ds) : (valV vs k).isSome = (valD ds k).isSome := by
  rcases r.val k with ⟨z, z2⟩ | ⟨d, vv, z1, z2, z3⟩
  · rw [z, z2]
    rfl
  · rw [z1, z2]
    rfl
def firstAt (ds : List D) (y : D) (j : Nat) : Prop := (∃ z, ds[j]? = some z ∧ PyData.eqv z y = true) ∧ ∀ (m : Nat) (z' : D), m < j → ds[m]? = some z' → PyData.eqv z' y = false
def wIndex (t0 t : WE) : WE := fun ρ P => t0 ρ fun c0 ρ0 => (∃ ds0, der ρ0 c0 = some (.list ds0)) ∧ t ρ0 fun c ρ1 => ∃ y ds j, c = .d y ∧ der ρ1 c0 = some (.list ds) ∧ flatD y = true ∧ ds.all flatD = true ∧ firstAt ds y j ∧ P (.d (.int j)) ρ1
def wRev (t : WE) : WE := fun ρ P => t ρ fun c ρ1 => match der ρ1 c with
  | some (.list ds) => P (.d (.list ds.reverse)) ρ1
  | _ => False
/-- a, b = a new list of the frame's own, data -/
def wParNE (i j : Nat) (n : WN) (t : WE) : WS := fun w ρ => n ρ fun ds ρ1 => t ρ1 fun c ρ2 => ∃ y, c = .d y ∧ i < ρ2.length ∧ w.nx ((ρ2.set i (.lst false ds)).set j (.dat y))
theorem sparNE {i j : Nat} {x y : Str} {n : WN} {px py pt : Pos} {kt k2 pt2} (hc : X.calm = true) (hN : X.N.Nodup) (ha : PE X a (upN X.K as n)) (hb : PE X b (up X.K as t)) (hw : swappedStores [.Tuple [.Name x px, .Name y py] kt pt] (.Tuple [a, b] k2 pt2) X.env = pure (some [x, y]) := by rfl) (hi : X.N[i]? = some x := by rfl) (hj : X.N[j]? = some y := by rfl) (hij : i ≠ j := by decide)
    (hx : X.env.scope.names.lookup x = some .local := by rfl) (hy : X.env.scope.names.lookup y = some .local := by rfl)
    (he : starEach [a, b] X.env = (false, eval a X.env) :: starEach [b] X.env := by rfl) (he2 : starEach [b] X.env = (false, eval b X.env) :: starEach [] X.env := by rfl)
    (hs : swapsWithSole [.Tuple [.Name x px, .Name y py] kt pt] (.Tuple [a, b] k2 pt2) pos.line X.env = pure false := by rfl) :
    PS X (.Assign [.Tuple [.Name x px, .Name y py] kt pt] (.Tuple [a, b] k2 pt2) pos) (upS X.K as (wParNE i j n t)) := by
  refine ps_imp (ps_par hc hN hi hj hij hx hy (pa_cons ha (pa_cons hb pa_nil he2) he) hw hs) fun D σ H ⟨Z, ρ, B, w, S, h, m⟩ => ⟨Z, ρ, B, _, S, h, fun ds ρ1 p xs B1 H1 h1 x1 S1 hp r => ?_⟩
  have Zp := S1.nZ hp
  refine ⟨_, ρ1, B1, _, S1.hide (xs := xs) hp, h1, fun c ρ2 v2 B2 H2 h2 x2 S2 o2 => ?_⟩
  obtain ⟨y, rfl, hl, h3⟩ := h2
  obtain ⟨H0, S3, hp0, rfl⟩ := S2.unhide Zp
  obtain ⟨B4, e4, S4, _⟩ := S3.drop i
  have S5 := S4.putOwn (c := .lst false ds) hp0 rfl (fun ds z => by cases z) hl ⟨xs, upd_same, DqAll.ext (x2.trans e4) r⟩
  obtain ⟨B6, e6, S6, _⟩ := S5.drop j
  have o2' : Dq X.K B2 v2 y := o2
  exact ⟨.ref p, v2, rfl, m.nx _ _ B6 _ h3 (((x1.trans x2).trans e4).trans e6) (S6.put (Dq.ext (e4.trans e6) o2'))⟩
/-- a, b = data, a new list of the frame's own -/
def wParEN (i j : Nat) (t : WE) (n : WN) : WS := fun w ρ => t ρ fun c ρ1 => ∃ y, c = .d y ∧ n ρ1 fun ds ρ2 => j < ρ2.length ∧ w.nx ((ρ2.set i (.dat y)).set j (.lst false ds))
/-- a, b, c = data -/
def wPar3 (i j l : Nat) (r : WA) : WS := fun w ρ => r ρ fun cs ρ' => ∃ x y z, cs = [.d x, .d y, .d z] ∧ w.nx (((ρ'.set i (.dat x)).set j (.dat y)).set l (.dat z))
end
end VL
end
section
set_option autoImplicit false
set_option maxRecDepth 100000
set_option maxHeartbeats 2000000
namespace VL
open PySem PySem.Spec PyProof.Rows L2
/-- the places pm of xs -/
def gP {α : Type} (pm : List Nat) (xs : List α) : List α := pm.filterMap fun i => xs[i]?
theorem vals_at {vs : List V} {us : List Value} (r : Vals vs us) (i : Nat) : (vs[i]? = none ∧ us[i]? = none) ∨ ∃ v u, vs[i]? = some v ∧ us[i]? = some u ∧ RelV v u := by
  by_cases h : i < vs.length
  · obtain ⟨u, hu, ru⟩ := r.get (List.getElem?_eq_getElem h)
    exact .inr ⟨_, u, List.getElem?_eq_getElem h, hu, ru⟩
  · have l := r.length
    exact .inl ⟨List.getElem?_eq_none (by omega), List.getElem?_eq_none (by omega)⟩
theorem vals_gP {vs : List V} {us : List Value} (r : Vals vs us) : ∀ pm : List Nat, Vals (gP pm vs) (gP pm us)
  | [] => .nil
  | i :: pm => by
    rcases vals_at r i with ⟨h1, h2⟩ | ⟨v, u, h1, h2, h3⟩
    · have e1 : gP (i :: pm) vs = gP pm vs := by simp [gP, h1]
      have e2 : gP (i :: pm) us = gP pm us := by simp [gP, h2]
      rw [e1, e2]
      exact vals_gP r pm
    · have e1 : gP (i :: pm) vs = v :: gP pm vs := by simp [gP, h1]
      have e2 : gP (i :: pm) us = u :: gP pm us := by simp [gP, h2]
      rw [e1, e2]
      exact .cons h3 (vals_gP r pm)
theorem dqs_gP {K : Fg} {B : Hp} {vs : List V} {ds : List D} (r : DqAll K B vs ds) : ∀ pm : List Nat, DqAll K B (gP pm vs) (gP pm ds)
  | [] => .nil
  | i :: pm => by
    cases h : vs[i]? with
    | none =>
      have h2 : ds[i]? = none := by
        have l := r.len
        rw [List.getElem?_eq_none_iff] at h ⊢
        omega
      have e1 : gP (i :: pm) vs = gP pm vs := by simp [gP, h]
      have e2 : gP (i :: pm) ds = gP pm ds := by simp [gP, h2]
      rw [e1, e2]
      exact dqs_gP r pm
    | some v =>
      obtain ⟨d, h2, h3⟩ := r.getV h
      have e1 : gP (i :: pm) vs = v :: gP pm vs := by simp [gP, h]
      have e2 : gP (i :: pm) ds = d :: gP pm ds := by simp [gP, h2]
      rw [e1, e2]
      exact .cons h3 (dqs_gP r pm)
theorem CvsOk.len {K : Fg} {σ : L2.St} {B : Hp} : ∀ {vs : List V} {cs : List CV}, CvsOk K σ B vs cs → vs.length = cs.length
  | [], [], _ => rfl
  | _ :: _, _ :: _, h => congrArg (· + 1) (CvsOk.len h.2)
  | [], _ :: _, h => h.elim
  | _ :: _, [], h => h.elim
theorem CvsOk.app {K : Fg} {σ : L2.St} {B : Hp} {ws : List V} {es : List CV} (s : CvsOk K σ B ws es) : ∀ {vs : List V} {cs : List CV}, CvsOk K σ B vs cs → CvsOk K σ B (vs ++ ws) (cs ++ es)
  | [], [], _ => s
  | _ :: _, _ :: _, h => ⟨h.1, CvsOk.app s h.2⟩
  | [], _ :: _, h => h.elim
  | _ :: _, [], h => h.elim
/-- how a call with keywords binds -/
structure KwB (K : Fg) (fd : FuncData) (ps : List Str) (n : Nat) (ks : List Str) (pm : List Nat) : Prop where
  to : ∀ (s : Shared) (us ws : List Value), K.In s.heap → us.length = n → ws.length = ks.length → BindsTo s fd ⟨us, ks.zip ws⟩ (ps.zip (gP pm (us ++ ws)))
theorem kw_of {K : Fg} {x qual : Str} {st : Stmt} {f : Addr} {fd : FuncData} {ps ks : List Str} {n : Nat} {pm : List Nat} (F : Fun K x qual st f fd)
    (h : ∀ (kV doc pmv : Value) (an : Option Addr) (cdv ct : Value) (us ws : List Value), us.length = n → ws.length = ks.length → bindArgs (PySem.W.fnOf x qual (defArgs st) (defBody st) (defScope st) .none kV doc pmv an cdv ct) ⟨us, ks.zip ws⟩ = pure (ps.zip (gP pm (us ++ ws)))) : KwB K fd ps n ks pm := by
  obtain ⟨oc, od, kV, doc, pmv, an, cdv, ct, osl, rfl, lk, hcd⟩ := F.ex
  exact ⟨fun s us ws _ h1 h2 => BindsTo.of_eq (h kV doc pmv an cdv ct us ws h1 h2)⟩
section
variable {X : Cx} {k n m : Nat} {f : Addr} {fd : FuncData} {ps ks : List Str} {sp : Sp} {pm : List Nat}
theorem run_partK {W : Addr → Prop} {H B : Hp} {pins : List (Addr × Obj)} {σ : L2.St} {s : Shared} {Q : VK} {us ws : List Value} {vs zs : List V} (F : FnOk X.prog X.w X.K X.mg X.base CX0 k f fd ps sp) (hr : Room k X.A) (hb : KwB X.K fd ps n ks pm) (I : Inv X pins σ H s) (p : Part W H B) (r : Vals vs us) (rz : Vals zs ws)
    (l1 : vs.length = n) (l2 : zs.length = ks.length) (h : sp (gP pm (vs ++ zs)) B (fun v B' => (∀ a, W a → B' a = none) → Q v (ovl W H B')) E0) : wpAny (model X.prog X.w) X.A (call (.ref f) us (ks.zip ws)) (EP X pins σ Q) X.xe s := by
  have rr := vals_gP (r.append rz) pm
  have e0 := I.env0
  have nB : ∀ b, H b = none → B b = none := fun b n => by
    cases e : B b with
    | none => rfl
    | some o =>
      rw [p.sub e] at n
      cases n
  have e1 : Env0 X.prog X.w X.K X.mg X.base X.A X.stack s B := ⟨e0.frames, e0.mod, fun b o e => ⟨(e0.bs b o e).1, nB b (e0.bs b o e).2⟩, e0.bsz, e0.funs, fun b hb => nB b (e0.frf b hb), p.ok e0.hok, e0.bare⟩
  refine wpAny_call (codeAny_mono (F.run X.A X.stack s B ⟨us, ks.zip ws⟩ (gP pm (us ++ ws)) (gP pm (vs ++ zs)) _ E0 hr e1 (hb.to s us ws I.kIn (r.length.symm.trans l1) (rz.length.symm.trans l2)) rr h) fun r s' hq => ?_)
  cases r with
  | error e => exact False.elim hq
  | ok fl =>
    cases fl with
    | ret u =>
      obtain ⟨v, B', os, bare, un, hok, rv, q⟩ := hq
      obtain ⟨u1, u2, u3⟩ := p.un un I.hok hok e0.frf
      exact I.after ⟨v, _, os, bare, u1, u2, rv, q u3⟩
    | next => exact False.elim hq
    | brk => exact False.elim hq
    | cont => exact False.elim hq
def tCallKP (sp : Sp) (pm : List Nat) (n m : Nat) (t tk : TA) : TE := fun σ H Q => t σ H fun vs H1 => tk σ H1 fun zs H2 => ∃ (W : Addr → Prop) (B : Hp), Part W H2 B ∧ vs.length = n ∧ zs.length = m ∧ sp (gP pm (vs ++ zs)) B (fun v B' => (∀ a, W a → B' a = none) → Q v (ovl W H2 B')) E0
theorem pe_callKP0 {x : Str} {p pos : Pos} {kws : List Keyword} {tk : TA} (F : FnOk X.prog X.w X.K X.mg X.base CX0 k f fd ps sp) (hr : Room k X.A) (hg : Gl X x) (hm : X.mg x = some (.ref f)) (hk : PySem.W.keepIn X.K (.ref f) = true) (hb : KwB X.K fd ps 0 ks pm)
    (hkw : PK X kws tk) (hl : ks.length = m) (hall : (backToKw pos (keywordEach kws X.env)).all (·.1.isSome) = true := by rfl) (hks : (backToKw pos (keywordEach kws X.env)).filterMap (·.1) = ks := by rfl)
    (hdb : (x == ("__debug__" : Str)) = false := by decide)
    (hpl : ((backTo pos (starEach [] X.env)).any (·.1) || (backToKw pos (keywordEach kws X.env)).any (·.1.isNone)) = false := by rfl) :
    PE X (.Call (.Name x p) [] kws pos) (tCallKP sp pm 0 m tNil tk) := by
  refine ⟨fun pins s σ H Q I h => ?_⟩
  refine wpAny_Call_Name_kw (ld_glob I hg hm ?_ hdb)
  refine PySem.W.callWith_KW0 (h₀ := X.base) I.ok.mod.kin hk hall ?_ hpl
  refine thn (hkw.run pos pins s σ H _ I h) fun ws s2 ⟨zs, H2, I2, rz, W, B, p, l1, l2, q2⟩ => ⟨I2.kIn, ?_⟩
  rw [hks]
  exact run_partK (us := []) (vs := []) F hr hb I2 p .nil rz l1 (l2.trans hl.symm) q2
end
def wCallK (n m : Nat) (pm : List Nat) (S : Spec) (r rk : WA) : WE := fun ρ P => r ρ fun cs ρ0 => rk ρ0 fun zs ρ1 => ∃ ds, dats (cs ++ zs) = some ds ∧ cs.length = n ∧ zs.length = m ∧ (gP pm ds).length = pm.length ∧ S ((gP pm ds).map .dat) fun rv _ => match rv with
  | .d x => P (.d x) ρ1
  | .new es => P (.d (.list es)) ρ1
  | .err _ _ => False
section
variable {X : Cx} {as : As} {k n m : Nat} {f : Addr} {fd : FuncData} {ps ks : List Str} {S : Spec} {x : Str} {p pos kpos : Pos} {e : Expr} {es : List Expr} {kws : List Keyword} {r rk : WA} {pm : List Nat} {t : WE} {nm : Option Str}
theorem aknil : PK X [] (upA X.K as wNil) := ⟨fun pos pins s σ H Q I ⟨Z, ρ, B, P, S, h, kk⟩ => pk_nil.run pos pins s σ H Q I (kk _ _ [] B H h (.refl B) S True.intro)⟩
theorem akcons (ha : PE X e (up X.K as t)) (hr : PK X kws (upA X.K as r)) : PK X (⟨nm, e, kpos⟩ :: kws) (upA X.K as (wCons t r)) :=
  ⟨fun pos pins s σ H Q I ⟨Z, ρ, B, P, S, h, kk⟩ => (pk_cons ha hr).run pos pins s σ H Q I ⟨Z, ρ, B, _, S, h, fun c ρ1 v B1 H1 h1 x1 S1 o1 => ⟨Z, ρ1, B1, _, S1, h1, fun cs ρ2 vs B2 H2 h2 x2 S2 o2 => kk _ _ (v :: vs) B2 H2 h2 (x1.trans x2) S2 ⟨o1.ext x2, o2⟩⟩⟩⟩
theorem up_callK {K : Fg} {σ : L2.St} {H : Hp} {Q : VK} (h : up K as (wCallK n m pm S r rk) σ H Q) : tCallKP (spV K as.2.1 pm.length S) pm n m (upA K as r) (upA K as rk) σ H Q := by
  obtain ⟨Z, ρ, B, P, S0, h, kk⟩ := h
  refine ⟨Z, ρ, B, _, S0, h, fun cs ρ0 vs B0 H0 h0 x0 S00 o0 => ⟨Z, ρ0, B0, _, S00, h0, fun zs ρ1 ws B1 H1 h1 x1' S1 o1 => ?_⟩⟩
  obtain ⟨ds, e1, e2, e3, e4, hs⟩ := h1
  have x1 := x0.trans x1'
  have o := CvsOk.app o1 (CvsOk.ext x1' o0)
  have r0 := dats_ok o e1
  have r := dqs_gP r0 pm
  refine ⟨_, B1, S1.part, by rw [o0.len]; exact e2, by rw [o1.len]; exact e3, by rw [r.len]; exact e4, _, B1, _, dats_map r S1.tab, hs, fun y ρ' v B' H' q x2 S2 dq hW => ?_, fun fs ρ' pp xs B' H' q x2 S2 hp dq hW => ?_⟩
  · have x3 : ExT B1 H' := x2.trans S2.ext
    exact kk _ _ v H' _ q (x1.trans x3) (S1.called x3 hW) (Dq.ext S2.ext dq)
  · have x4 : ExT B' (upd H' pp (.lst xs)) := S2.ext.trans (.new hp)
    have x3 : ExT B1 (upd H' pp (.lst xs)) := x2.trans x4
    exact kk _ _ _ _ _ q (x1.trans x3) (S1.called x3 hW) (.lst (.inl (.inl upd_same)) (DqAll.ext x4 dq))
theorem up_nil0 {K : Fg} {σ : L2.St} {H : Hp} {Q : VK} {sp : Sp} {tk : TA} (h : tCallKP sp pm 0 m (upA K as wNil) tk σ H Q) : tCallKP sp pm 0 m tNil tk σ H Q := by
  obtain ⟨Z, ρ, B, P, S, h, k⟩ := h
  exact k _ _ [] B H h (.refl B) S True.intro
theorem vcallK0 (F : CallOk X as.2.1 k pm.length x f fd ps S) (hr : Room k X.A) (hb : KwB X.K fd ps 0 ks pm) (hkw : PK X kws (upA X.K as rk)) (hl : ks.length = m := by rfl) (hg : Gl X x := by rfl) (hall : (backToKw pos (keywordEach kws X.env)).all (·.1.isSome) = true := by rfl) (hks : (backToKw pos (keywordEach kws X.env)).filterMap (·.1) = ks := by rfl)
    (hdb : (x == ("__debug__" : Str)) = false := by decide)
    (hpl : ((backTo pos (starEach [] X.env)).any (·.1) || (backToKw pos (keywordEach kws X.env)).any (·.1.isNone)) = false := by rfl) :
    PE X (.Call (.Name x p) [] kws pos) (up X.K as (wCallK 0 m pm S wNil rk)) := pe_imp (pe_callKP0 F.fn hr hg F.g F.kp hb hkw hl hall hks hdb hpl) fun _ _ _ h => up_nil0 (up_callK h)
end
end VL
end
section
set_option autoImplicit false
set_option maxRecDepth 100000
set_option maxHeartbeats 2000000
namespace VL
open PySem PySem.Spec PyProof.Rows L2
def CSh (i j : Int) : Prop := 0 ≤ j ∧ (i.natAbs.log2 : Int) + j ≤ 1000000
abbrev oShl' : DO := oI CSh fun i j => .int (i * 2 ^ j.toNat)
theorem op_shl' {X : Cx} : OpR X (binaryOp .LShift) (rI CSh fun i j => .int (i * 2 ^ j.toNat)) := fun pins s σ H x y v u Q I rx ry ⟨i, j, h1, h2, c, q⟩ =>
  op_shlW pins s σ H x y v u Q I rx ry ⟨i, j, h1, h2, ⟨c.1, by
    have b : Builtin.Int.intBits i ≤ i.natAbs.log2 + 1 := by
      unfold Builtin.Int.intBits
      split <;> omega
    have := c.2
    omega⟩, q⟩
structure FOk (P : Program) (w : World) (K : Fg) (ts : List Addr) (mg : Str → Option Value) (base : Heap) (k n : Nat) (x : Str) (f : Addr) (fd : FuncData) (ps : List Str) (S : Spec) : Prop where
  fn : FnOk P w K mg base CX0 k f fd ps (spV K ts n S)
  g : mg x = some (.ref f)
  kp : PySem.W.keepIn K (.ref f) = true
  b : Binds K fd ps []
end VL
end
section
set_option autoImplicit false
set_option maxRecDepth 100000
set_option maxHeartbeats 2000000
namespace VL
open PySem PySem.Spec PyProof.Rows L2
theorem no_spec {P : Program} {w : World} {K : Fg} {mg : Str → Option Value} {base : Heap} {x qual : Str} {st : Stmt} {f : Addr} {fd : FuncData} {N ps : List Str} {k n : Nat} {ts : List Addr} {S : VL.Spec} (F : Fun K x qual st f fd) (Sc : FnScope N ps (defScope st)) (hn : ps.length = n) (hN : n ≤ N.length)
    (hS : ∀ ρ Q, S ρ Q → False) : FnOk P w K mg base CX0 (k + 1) f fd ps (spV K ts n S) := by
  refine F.ok Sc (fun vs H Q E h => h.1.trans hn.symm) (fun cdv A outer s H vs Q E hr h => ?_)
  obtain ⟨hl, ρ, B, R, Sv0, hs, _⟩ := h
  exact (hS ρ R hs).elim
theorem atI_0 {α : Type} {x : α} {r : List α} : atI (x :: r) 0 = some x := by
  unfold atI
  rw [show ixN (x :: r).length 0 = some 0 by simp [ixN]]
  rfl
theorem atI_1 {α : Type} {x y : α} {r : List α} : atI (x :: y :: r) 1 = some y := by
  unfold atI
  rw [show ixN (x :: y :: r).length 1 = some 1 by simp [ixN]; omega]
  rfl
theorem atI_2 {α : Type} {x y z : α} {r : List α} : atI (x :: y :: z :: r) 2 = some z := by
  unfold atI
  rw [show ixN (x :: y :: z :: r).length 2 = some 2 by simp [ixN]; omega]
  rfl
theorem shp_int {i : Int} : shp (.int i) = true := rfl
theorem shp_bool {i : Bool} : shp (.bool i) = true := rfl
theorem shp_none : shp .none = true := rfl
theorem eqv_int {i j : Int} : PyData.eqv (.int i) (.int j) = decide (i = j) := by
  simp only [PyData.eqv]
  by_cases h : i = j <;> simp [h]
theorem eqv_bool {i j : Bool} : PyData.eqv (.bool i) (.bool j) = decide (i = j) := by cases i <;> cases j <;> rfl
theorem ixN_20 : ixN 2 0 = some 0 := rfl
theorem ixN_21 : ixN 2 1 = some 1 := rfl
end VL
namespace VL
open PySem PySem.Spec PyProof.Rows L2
/-- the law's own call: a list of ints that stays -/
theorem law_sp {K : Fg} {H : Hp} {a : Addr} {ns : List Int} {ts : List Addr} {S : VL.Spec} (hT : ∀ p ∈ ts, H p = some (.tbl #[])) (hS : SqL K H a (ns.map V.int)) (h : S [.dat (.list (ns.map .int))] fun rv _ => rv = .d (.bool true)) : spV K ts 1 S [.ref a] H (fun v _ => v = V.bl true) fun _ _ _ => False := by
  refine ⟨rfl, _, H, _, dats_map (.cons (.lst hS (dqAll_ints ns)) .nil) (fun P hP => .of0 (hT P hP)), h, fun x ρ' v B' H' q x2 S2 dq => ?_, fun ds ρ' p xs B' H' q x2 S2 hp dq => ?_⟩
  · cases q
    cases dq
    rfl
  · cases q
end VL
end
section
set_option autoImplicit false
set_option maxRecDepth 100000
set_option maxHeartbeats 2000000
namespace VL
open PySem PySem.Spec PyProof.Rows L2
def mergeD (kvs more : List (Key × D)) : List (Key × D) := more.foldl (fun acc kv => putD acc kv.1 kv.2) kvs
/-- the pairs, from the left; the keys are written out -/
def wPairs : List (Key × WE) → En → (List (Key × D) → En → Prop) → Prop
  | [], ρ, P => P [] ρ
  | (k, t) :: r, ρ, P => t ρ fun c ρ1 => ∃ y, c = .d y ∧ wPairs r ρ1 fun kvs ρ2 => P ((k, y) :: kvs) ρ2
section
variable {X : Cx} {as : As} {e : Expr} {t : WE} {pos kp : Pos} {ks : List (Option Expr)} {vs : List Expr} {trs : List (TE × TE)} {ws : List (Key × WE)}
/-- {}, {k: e, ..} as data -/
def wDisp0 : WE := fun ρ P => P (.d (.dict [])) ρ
def wDisp (ws : List (Key × WE)) : WE := fun ρ P => wPairs ws ρ fun kvs ρ' => kvs.length ≤ 15 ∧ P (.d (.dict ((mergeD [] kvs).map fun kv => (keyD kv.1, kv.2)))) ρ'
end
end VL
end
section
set_option autoImplicit false
set_option maxRecDepth 100000
set_option maxHeartbeats 2000000
namespace VL
open PySem PySem.Spec PyProof.Rows L2
def oLcm : DC := fun ds P => match ds with
  | [.int i, .int j] => i.natAbs < 2 ^ 64 ∧ j.natAbs < 2 ^ 64 ∧ P (.int ((Int.lcm i j : Nat) : Int))
  | _ => False
section
variable {X : Cx} {as : As} {x : Str}
theorem DqAll.dropLast {K : Fg} {B : Hp} {xs : List V} {ds : List D} (r : DqAll K B xs ds) : DqAll K B xs.dropLast ds.dropLast := by
  rw [List.dropLast_eq_take, List.dropLast_eq_take, r.len]
  exact DqAll.take _ r
def wPop (i : Nat) : WE := fun ρ P => ∃ io ds y, ρ[i]? = some (.lst io ds) ∧ ds[ds.length - 1]? = some y ∧ P (.d y) (ρ.set i (.lst io ds.dropLast))
def wRevM (i : Nat) : WE := fun ρ P => ∃ io ds, ρ[i]? = some (.lst io ds) ∧ P (.d .none) (ρ.set i (.lst io ds.reverse))
def wClearM (i : Nat) : WE := fun ρ P => ∃ io ds, ρ[i]? = some (.lst io ds) ∧ P (.d .none) (ρ.set i (.lst io []))
end
end VL
end
section
set_option autoImplicit false
set_option maxRecDepth 100000
set_option maxHeartbeats 2000000
namespace VL
open PySem PySem.Spec PyProof.Rows L2
abbrev WR := En → (Int → Int → En → Prop) → Prop
def upR (K : Fg) (as : As) (t : WR) : L2.St → Hp → (Int → Int → Hp → Prop) → Prop := fun σ H Q => ∃ Z ρ B P, Sv K as Z ρ σ B H ∧ t ρ P ∧ ∀ a b ρ' B' H', P a b ρ' → ExT B B' → Sv K as Z ρ' σ B' H' → Q a b H'
def wR1 (t : WE) : WR := fun ρ P => t ρ fun c ρ' => ∃ i, c = .d (.int i) ∧ P 0 i ρ'
def wR2 (t u : WE) : WR := fun ρ P => t ρ fun c ρ' => ∃ i, c = .d (.int i) ∧ u ρ' fun c' ρ2 => ∃ j, c' = .d (.int j) ∧ P i j ρ2
section
variable {X : Cx} {as : As} {a b e : Expr} {t u : WE} {r : WR} {p pos : Pos}
theorem rg1 (hm : X.mg "range" = none) (ha : PE X a (up X.K as t)) (hg : Gl X "range" := by rfl) (na : starEach [a] X.env = (false, eval a X.env) :: starEach [] X.env := by rfl) : PRg X (.Call (.Name "range" p) [a] [] pos) (upR X.K as (wR1 t)) :=
  fun pins s σ H Q I ⟨Z, ρ, B, P, S, h, k⟩ => prg_1 hg hm ha na pins s σ H Q I ⟨Z, ρ, B, _, S, h, fun c ρ' v B' H' h1 x S' o1 => by
    obtain ⟨i, rfl, h1⟩ := h1
    have o : Dq X.K B' v (.int i) := o1
    cases o
    exact ⟨i, rfl, k 0 i ρ' B' H' h1 x S'⟩⟩
def wTupRg (r : WR) : WE := fun ρ P => r ρ fun i j ρ' => RgOk i j ∧ P (.d (.tuple (rngD i j))) ρ'
def wListRg (r : WR) : WN := fun ρ P => r ρ fun i j ρ' => RgOk i j ∧ P (rngD i j) ρ'
end
end VL
end
section
set_option autoImplicit false
set_option maxRecDepth 100000
set_option maxHeartbeats 2000000
namespace VL
open PySem PySem.Spec PyProof.Rows L2
section
variable {X : Cx} {as : As} {elt iter tg : Expr} {pos : Pos}
def wRevN (t : WE) : WN := fun ρ P => t ρ fun c ρ1 => match der ρ1 c with
  | some (.list ds) => P ds.reverse ρ1
  | _ => False
end
end VL
end
section
set_option autoImplicit false
set_option maxRecDepth 100000
set_option maxHeartbeats 2000000
namespace VL
open PySem PySem.Spec PyProof.Rows L2
/-- a tuple (not empty) times 1 .. 1000 -/
def oRepT : DO := fun x y P => match x, y with
  | .tuple ds, .int k => ds ≠ [] ∧ ds.length ≤ 1000 ∧ 1 ≤ k ∧ k ≤ 1000 ∧ P (.tuple (List.replicate k.toNat ds).flatten)
  | _, _ => False
theorem DqAll.rep {K : Fg} {B : Hp} {xs : List V} {ds : List D} (r : DqAll K B xs ds) : ∀ m : Nat, DqAll K B (List.replicate m xs).flatten (List.replicate m ds).flatten
  | 0 => .nil
  | m + 1 => by
    rw [List.replicate_succ, List.replicate_succ, List.flatten_cons, List.flatten_cons]
    exact DqAll.app r (DqAll.rep r m)
open PySem.AutoSeq1 PySem.MeetsSeq in
theorem list_mul_any (l : Addr) (items : Array Value) (n : Nat) (sl : Array (Option Value)) (x : Int) (u : Tok) (hc0 : ¬(!Builtin.List.listFitsIndex x) = true) (hc1 : ¬items.size * x.toNat > (2 ^ 63 - 1) / 8) (hc2 : ¬Builtin.List.listTooLong (items.size * x.toNat) = true)
    (hsz : (List.foldl (fun x1 x2 => x1 ++ x2) #[] (List.replicate (if items.isEmpty = true then 0 else x.toNat) items)).size ≤ sizeLine) :
    PySem.Meets (Builtin.«list.__mul__» ⟨[.ref l, .int x u], []⟩) (fun _ R s => s.heap.get? l = some { cls := .type "list", dict := none, data := .seq items n, slots := sl } ∧
      R (.ok (.ret (Value.ref s.heap.objs.size))) { s with heap := s.heap.push { cls := Value.type "list", data := Data.seq (List.foldl (fun x1 x2 => x1 ++ x2) #[] (List.replicate (if items.isEmpty = true then 0 else x.toNat) items)) }, toks := s.toks }) :=
  .of_wp fun prog w A R s h => by
    obtain ⟨hp, g, d, tk, os⟩ := s
    obtain ⟨hl, h⟩ := h
    wp_walk using wpAny_loadPart' hl
    refine wpAny_ite_false (decide_eq_false (Nat.not_lt.mpr hsz)) ?_
    wp_walk using wpAny_loadPart' hl
    exact ⟨_, rfl, h⟩
open PySem.AutoSeq1 PySem.MeetsSeq in
theorem int_rmul_any (a : Int) (t : Tok) (l : Addr) (items : Array Value) (n : Nat) (sl : Array (Option Value)) :
    PySem.Meets (Builtin.«int.__rmul__» ⟨[.int a t, .ref l], []⟩) (fun _ R s => s.heap.get? l = some { cls := .type "list", dict := none, data := .seq items n, slots := sl } ∧ R (.ok (.ret Value.notImplemented)) s) :=
  .of_wp fun prog w A R s h => by
    obtain ⟨hp, g, d, tk, os⟩ := s
    obtain ⟨hl, h⟩ := h
    wp_walk using wpAny_loadPart' hl
    exact ⟨_, rfl, h⟩
def rRepL (K : Fg) : R2 := fun x y H Q => ∃ l k xs, x = .ref l ∧ y = .int k ∧ SqL K H l xs ∧ 0 ≤ k ∧ k < 2 ^ 62 ∧ xs.length * k.toNat ≤ sizeLine ∧ ∀ p, H p = none → Q (.ref p) (upd H p (.lst (List.replicate k.toNat xs).flatten))
theorem flat_arr (its : List Value) (m : Nat) : List.foldl (fun x1 x2 => x1 ++ x2) #[] (List.replicate (if its.toArray.isEmpty = true then 0 else m) its.toArray) = (List.replicate m its).flatten.toArray := by
  have g := foldl_rep its m []
  rw [List.nil_append] at g
  by_cases e : its = []
  · subst e
    rw [if_pos (show (#[] : Array Value).isEmpty = true from rfl)]
    simp
  · rw [if_neg (by simpa using e)]
    exact g
theorem op_repL {X : Cx} : OpR X (binaryOp .Mult) (rRepL X.K) := by
  intro pins s σ H x y v u Q I rx ry h
  obtain ⟨l, k, xs, rfl, rfl, hH, h1, h2, hz, q⟩ := h
  cases rx
  obtain ⟨t, rfl⟩ := ry
  obtain ⟨its, n, sl, r, hl, e, _⟩ := rd_obj I hH
  have z1 : its.toArray.size * k.toNat ≤ sizeLine := by
    rw [List.size_toArray, ← hl]
    exact hz
  have fl : (List.replicate k.toNat its).flatten.length ≤ sizeLine := by
    rw [PyProof.Rows.lm_len_rep_flat, Nat.mul_comm, ← hl]
    exact hz
  have c0 : ¬(!Builtin.List.listFitsIndex k) = true := by
    rw [fitsIndex_both (by omega) (by omega)]
    exact Bool.false_ne_true
  have c1 : ¬its.toArray.size * k.toNat > (2 ^ 63 - 1) / 8 := Nat.not_lt.mpr (Nat.le_trans z1 (by decide))
  have c2 : ¬Builtin.List.listTooLong (its.toArray.size * k.toNat) = true := by
    rw [notLongL z1]
    exact Bool.false_ne_true
  have c3 : (List.foldl (fun x1 x2 => x1 ++ x2) #[] (List.replicate (if its.toArray.isEmpty = true then 0 else k.toNat) its.toArray)).size ≤ sizeLine := by
    rw [flat_arr, List.size_toArray]
    exact fl
  refine wpAny_binaryOp_repeat_ref (T := "list") (U := "int") (by decide) ⟨_, e, rfl⟩ (fun s' => typeIs_int s' k t) noFill_list_mul PySem.F.fills_int_mul PySem.F.slot_int_rmul repeat_list PySem.F.slot_int_index.lookup
    (call_meets PySem.F.slot_int_rmul (typeIs_int s k t) PySem.F.entry_int_rmul (PySem.F.args_int_rmul_2 _ _) (int_rmul_any k t l its.toArray n sl) ⟨e, rfl, ⟨_, e, rfl⟩, ?_⟩)
  refine call_meets PySem.F.slot_list_mul ⟨_, e, rfl⟩ PySem.F.entry_list_mul (PySem.F.args_list_mul_2 _ _) (list_mul_any l its.toArray n sl k t c0 c1 c2 c3) ⟨e, ?_⟩
  rw [flat_arr]
  have rl : (List.replicate k.toNat xs).flatten.length ≤ sizeLine := by
    rw [PyProof.Rows.lm_len_rep_flat, Nat.mul_comm]
    exact hz
  exact ⟨.ref _, _, I.lnew (t' := s.toks) (r.rep k.toNat) rl, rfl, q _ I.fresh⟩
def oRepL : DO := fun x y P => match x, y with
  | .list ds, .int k => 0 ≤ k ∧ k < 2 ^ 62 ∧ ds.length * k.toNat ≤ sizeLine ∧ P (.list (List.replicate k.toNat ds).flatten)
  | _, _ => False
theorem opv_repL {K : Fg} : OpV K (rRepL K) oRepL := by
  intro B H x y dx dy P Q e a b c k
  cases dx <;> cases dy <;> (try (exact (show False from c).elim))
  rename_i ds i
  cases b.int
  obtain ⟨h1, h2, h3, h4⟩ := c
  obtain ⟨l, xs, rfl, q1, r1⟩ := a.list e
  exact ⟨l, i, xs, rfl, rfl, q1, h1, h2, by rw [r1.len]; exact h3, fun p hp => k _ _ _ _ h4 (.new hp) (.lst (.inl (.inl upd_same)) (DqAll.ext (.new (free_of e hp)) (r1.rep _)))⟩
end VL
end
section
set_option autoImplicit false
namespace VL
open PySem PySem.Spec PyProof.Rows L2
end VL
end
section
set_option autoImplicit false
set_option maxRecDepth 100000
set_option maxHeartbeats 2000000
namespace VL
open PySem PySem.Spec PyProof.Rows L2 GenW GxR
/-- while the generator sleeps its consumer changes its own objects; all else is kept -/
structure Woke (P P' : List (Addr × Obj)) (s s' : Shared) : Prop where
  os : s'.os = s.os
  bare : AllBare s'.gens
  keep : ∀ b o, b ∉ P.map (·.1) → s.heap.get? b = some o → s'.heap.get? b = some o
  adr : P'.map (·.1) = P.map (·.1)
  own : ∀ p ∈ P', s'.heap.get? p.1 = some p.2 ∧ ∀ v, p.2.data ≠ .cell v
theorem inv_woken {X : Cx} {P P' pins : List (Addr × Obj)} {σ : L2.St} {H : Hp} {s s' : Shared} (hA : ∀ p ∈ P, X.s_0.heap.objs.size ≤ p.1 ∧ ∀ q ∈ X.pn ++ pins, q.1 ≠ p.1) (I : Inv X (P ++ pins) σ H s) (z : Woke P P' s s') : Inv X (P' ++ pins) σ H s' := by
  have pP : ∀ b ∈ P.map (·.1), H b = none ∧ b ≠ X.env.locals ∧ b ∉ X.fs ∧ (∀ x c, X.env.cells.lookup x = some c → c ≠ b) ∧ X.s_0.heap.objs.size ≤ b ∧ ∀ q ∈ X.pn ++ pins, q.1 ≠ b := fun b hb => by
    obtain ⟨p, hp, rfl⟩ := List.mem_map.mp hb
    obtain ⟨h1, h2, h3, h4, h5⟩ := I.pin p (List.mem_append_right _ (List.mem_append_left _ hp))
    refine ⟨h2, h3, h4, fun x c e q => ?_, (hA p hp).1, (hA p hp).2⟩
    obtain ⟨v, ob, ho, hd⟩ := I.cell x c e
    rw [q, h1] at ho
    cases ho
    exact h5 _ hd
  have I0 : Inv X pins σ H s := I.pins_of fun p hp => I.pin p (List.mem_append_right _ (List.mem_append_right _ hp))
  have nt : ∀ b u, H b = some u → b ∉ P.map (·.1) := fun b u q hb => by
    rw [(pP b hb).1] at q
    cases q
  have nL : X.env.locals ∉ P.map (·.1) := fun hb => (pP _ hb).2.1 rfl
  obtain ⟨z1, z2, z3, z4, z5⟩ := z
  obtain ⟨hh, g, d, t, o⟩ := s'
  have ho : o = s.os := z1
  subst ho
  have J : Inv X pins σ H { s with heap := hh, gens := g, drawn := d, toks := t } := by
    refine I0.step (g' := g) (t' := t) (d' := d) (ch := P.map (·.1)) (fun b hb => ?_)
      (fun b ob _ _ hc q _ => z3 b ob hc q) (fun b ob _ _ hc q _ => ⟨ob.slots, z3 b ob hc q⟩) (fun _ _ _ _ n => n) (fun b ob hc q => ⟨ob, z3 b ob hc q⟩)
      (fun _ _ q => q) (fun _ _ _ q => q) (fun b ps q => ⟨#[], by rw [q]; simp⟩) (fun m hm => ?_) (fun b u q => ?_) z2
    · obtain ⟨_, p2, _, p4, p5, p6⟩ := pP b hb
      exact ⟨.inr p5, p2, p4, p6⟩
    · obtain ⟨ob, es, ep, ho, r⟩ := hm
      exact ⟨ob, es, ep, z3 _ ob nL ho, r⟩
    · refine (I0.hok b u q).stay (fun c v hc y => z3 c v ?_ y) (fun _ y => y) fun _ _ y => y
      rcases hc with y | y
      · rw [y]; exact nt b u q
      · exact nt c _ y
  refine J.pins_of fun p hp => ?_
  rcases List.mem_append.mp hp with hp | hp
  · have hb : p.1 ∈ P.map (·.1) := by rw [← z4]; exact List.mem_map_of_mem hp
    obtain ⟨p1, p2, p3, _⟩ := pP _ hb
    exact ⟨(z5 p hp).1, p1, p2, p3, (z5 p hp).2⟩
  · exact J.pin p (List.mem_append_right _ hp)
/-- the context of a generator expression's body: it starts at s (ahead of its frame), its iterator's objects at fp, its own object in pn -/
abbrev _root_.L2.Cx.gx (X : Cx) (s : Shared) (H : Hp) (cenv : Env) (A : Around) (fp : List Addr) (pn : List (Addr × Obj)) : Cx :=
  { X with A := A, s_0 := s, H_0 := H, env := cenv, outer := X.stack, stack := cenv :: X.stack, ex := fp, fn := fun _ => false, pn := pn, xe := fun _ _ => False }
theorem gx_start {X : Cx} {pins P : List (Addr × Obj)} {σ : L2.St} {H : Hp} {s4 s6 : Shared} {scope : Scope} {own : List (Str × Nat)} {fp : List Addr} {A : Around} {code : Value} {cenv : Env} {m0 : Str → Option Value} {a : Addr} {go : Obj}
    (I : Inv X pins σ H s4) (ok : BlkOk X.N X.env.scope scope own) (hcell : ∀ y ∈ scope.names, y.2 ≠ .cell) (hN : X.N.Nodup) (hfp : ∀ b ∈ fp, FpOk X pins H b ∧ b < s4.heap.objs.size)
    (hC : cenv = genEnv scope (cloFrom X.env.cells scope.names []) s4.heap.objs.size code builtinsNs X.env) (hA : A.handled = none) (hAf : A.frames = some (cenv :: X.stack))
    (hn : s6.heap.Ns s4.heap.objs.size m0) (kp : ∀ b o, s4.heap.get? b = some o → s6.heap.get? b = some o) (os6 : s6.os = s4.os) (ba : AllBare s6.gens)
    (hP : ∀ p ∈ (a, go) :: P, s6.heap.get? p.1 = some p.2 ∧ s4.heap.objs.size < p.1 ∧ ∀ v, p.2.data ≠ .cell v) :
    Inv (X.gx s4 H cenv A fp [(a, go)]) P (wipe σ (own.map (·.2))) H s6 := by
  have hfree : ∀ y ∈ scope.names, y.2 = .free → ∃ c, X.env.cells.lookup y.1 = some c := fun y hy e => by
    rcases ok.free y hy e with k | k
    · exact I.ok.has _ (.inl k)
    · exact I.ok.has _ (.inr k)
  have hL : cenv.locals = s4.heap.objs.size := by rw [hC]; rfl
  have hcl : cenv.cells = cloFrom X.env.cells scope.names [] := by rw [hC]; rfl
  have hsc : cenv.scope = scope := by rw [hC]; rfl
  have cm : ∀ {y c}, cenv.cells.lookup y = some c → X.env.cells.lookup y = some c ∧ c < s4.heap.objs.size := fun {y c} e => by
    rw [hcl] at e
    rcases cloFrom_mem (PySem.mem_of_lookup e) with hm | ⟨h1, rfl⟩
    · cases hm
    · obtain ⟨c, hc⟩ := hfree _ h1 rfl
      rw [hc]
      obtain ⟨w, z⟩ := I.cell _ _ hc
      exact ⟨rfl, z.lt⟩
  have look : ∀ {y}, scope.names.lookup y = some .free → ∃ c, cenv.cells.lookup y = some c ∧ X.env.cells.lookup y = some c := fun {y} hl => by
    have hy : (y, NameKind.free) ∈ scope.names := PySem.mem_of_lookup hl
    obtain ⟨c', e'⟩ := mem_lookup (cloFrom_has (cells := X.env.cells) (acc := []) hy)
    rw [← hcl] at e'
    exact ⟨c', e', (cm e').1⟩
  have kind : ∀ {y k}, cenv.scope.names.lookup y = some k → scope.names.lookup y = some k := fun {y k} e => by rw [hsc] at e; exact e
  have nocell : ∀ {y}, cenv.scope.names.lookup y ≠ some .cell := fun {y} e => hcell _ (PySem.mem_of_lookup (kind e)) rfl
  have okB : (X.gx s4 H cenv A fp [(a, go)]).Ok := by
    refine ⟨I.ok.mod, by show cenv.scope.kind = _; rw [hsc]; exact ok.kind, by show cenv.globals = _; rw [hC]; exact I.ok.glob, by show cenv.builtins = _; rw [hC]; rfl, by show s4.heap.objs.size ≤ cenv.locals; rw [hL]; exact Nat.le_refl _,
      fun y z c e1 e2 => I.ok.inj y z c (cm e1).1 (cm e2).1, fun y hy => ?_, fun y c z e => absurd (show false = true from z) Bool.false_ne_true, fun _ => hA, hAf, .inr ⟨rfl, by show cenv.frame = some cenv.locals; rw [hC]; rfl⟩, fun b hb => ⟨?_, fun y c e z => ?_⟩, I.bs, Nat.le_trans I.ok.bsz I.sz, fun b o e hb => ?_, fun b hb z => ?_, I.stack, I.stkFree⟩
    · rcases hy with hy | hy
      · exact absurd (show cenv.scope.names.lookup y = some .cell from hy) nocell
      · obtain ⟨c, h1, _⟩ := look (kind (show cenv.scope.names.lookup y = some .free from hy))
        exact ⟨c, h1⟩
    · show b ≠ cenv.locals
      rw [hL]; exact Nat.ne_of_lt (hfp b hb).2
    · exact (hfp b hb).1.2.2.2.2.1 y c (cm e).1 z
    · rcases (hfp b hb).1.2.2.2.1 with z | z
      · exact I.ok.noex b o e z
      · exact absurd (Nat.lt_of_lt_of_le (Heap.lt_size e) (Nat.le_trans I.ok.bsz z)) (Nat.lt_irrefl _)
    · rcases List.mem_cons.mp (I.stkSub b z) with z | z
      · exact (hfp b hb).1.2.1 z
      · exact (hfp b hb).1.2.2.1 z
  refine ⟨okB, os6, ba, Un.kept kp, ⟨m0, by show Heap.Ns _ cenv.locals _; rw [hL]; exact hn, fun i y av e1 e2 e3 => ?_⟩, fun y c e => ?_, ?_, fun y c e => ?_, fun p hp => ?_, I.hok.kept kp, by rw [wipe_length]; exact I.len⟩
  · obtain ⟨e2, hne⟩ := wipe_some e2
    have e3 : Vis cenv.scope y := e3
    have no : ¬ (scope.names.lookup y = some .local ∨ scope.names.lookup y = some .cell) := fun hh => by
      have w : y ∈ own.map (·.1) ∨ y ∉ X.N := by
        rcases hh with q | q
        · exact ok.own _ (PySem.mem_of_lookup q) (.inl rfl)
        · exact ok.own _ (PySem.mem_of_lookup q) (.inr rfl)
      rcases w with e' | e'
      · obtain ⟨p, hp, hpy⟩ := List.mem_map.mp e'
        have e3 := ok.ix p hp
        have : p.1 = y := hpy
        rw [this] at e3
        exact hne (List.mem_map.mpr ⟨p, hp, nodup_ix hN e3 e1⟩)
      · exact e' (List.mem_of_getElem? e1)
    have hfr : scope.names.lookup y = some .free := by
      rcases e3 with e3 | e3 | e3
      · exact absurd (.inl (kind e3)) no
      · exact absurd (.inr (kind e3)) no
      · exact kind e3
    obtain ⟨m, hn, hl⟩ := I.loc
    have hvis : Vis X.env.scope y := (ok.free _ (PySem.mem_of_lookup hfr) rfl).elim (fun k => .inr (.inl k)) (fun k => .inr (.inr k))
    obtain ⟨w, r, q⟩ := hl i y av e1 e2 hvis
    refine ⟨w, r, .inr ⟨.inr (by show cenv.scope.names.lookup y = _; rw [hsc]; exact hfr), ?_⟩⟩
    obtain ⟨c, h1, h2⟩ := look hfr
    rcases q with ⟨k, _⟩ | ⟨_, c', e', z⟩
    · have k : X.env.scope.names.lookup y = some .local := k
      rcases ok.free _ (PySem.mem_of_lookup hfr) rfl with k' | k' <;> rw [show X.env.scope.names.lookup y = _ from k'] at k <;> cases k
    · rw [h2] at e'; cases e'
      exact ⟨c, h1, z.keeps kp⟩
  · obtain ⟨w, z⟩ := I.cell y c (cm e).1
    exact ⟨w, z.keeps kp⟩
  · show H cenv.locals = none
    rw [hL]; exact I.hok.fresh (Nat.le_refl _)
  · exact I.freeC y c (cm e).1
  · obtain ⟨p1, p2, p3⟩ := hP p hp
    refine ⟨p1, I.hok.fresh (Nat.le_of_lt p2), by show p.1 ≠ cenv.locals; rw [hL]; exact Nat.ne_of_gt p2, fun z => ?_, p3⟩
    have z : p.1 ∈ frs X.stack := z
    rcases List.mem_cons.mp (I.stkSub _ z) with z | z
    · rw [z] at p2
      exact absurd (Nat.lt_trans p2 I.lt) (Nat.lt_irrefl _)
    · exact I.nofs (Nat.le_of_lt p2) z
abbrev CPt := List V → List (Addr × Obj) → Prop
/-- the end -/
def GXR (GB : List (Addr × Obj) → Hp → Shared → Prop) (CP : CPt) (QE : List V → Hp → Prop) : GenEnd := fun _ s₀ r s => r = .ok .next ∧ ∃ ys P H, CP ys P ∧ GB P H s ∧ QE ys H ∧ ∀ p ∈ P, s₀.heap.get? p.1 = some p.2
/-- an item is handed out -/
def GXY (GB : List (Addr × Obj) → Hp → Shared → Prop) (CP : CPt) (okY : List V → V → Hp → Prop) (stp : V → Bool) (QE : List V → Hp → Prop) : Protocol := fun _ s₀ v s kap =>
  ∃ ys y P H, RelV y v ∧ CP ys P ∧ GB P H s ∧ okY ys y H ∧ (∀ p ∈ P, s₀.heap.get? p.1 = some p.2) ∧ (stp y = true → QE (ys ++ [y]) H) ∧ (stp y = false → ∀ P' s', Woke P P' s s' → CP (ys ++ [y]) P' → kap (.send .none) s')
/-- a turn of the generator -/
def GTurn (J : It) (g : TG) (tt : TT) (te : TE) (vs : List Nat) (σ : L2.St) (okY : List V → V → Hp → Prop) (stp : V → Bool) (QE : List V → Hp → Prop) (W : Nat → Nat → List V → Hp → Prop) : Prop :=
  ∀ i m ys H, W i m ys H → (J.stop i H ∧ QE ys H) ∨ (0 < m ∧ J.go i H ∧ ∃ Nx : List V → Hp → Prop, (∀ ys' H', Nx ys' H' → ∃ m', m' < m ∧ W (i + 1) m' ys' H') ∧
    ∀ x H', J.yld i H x H' → g x (wipe σ vs) H' fun σ2 H2 => wipe σ2 vs = wipe σ vs ∧ tt σ2 H2 fun b H3 =>
      if b = true then te σ2 H3 fun y H4 => okY ys y H4 ∧ (if stp y = true then QE (ys ++ [y]) H4 else Nx (ys ++ [y]) H4) else Nx ys H3)
theorem seg_gx {X : Cx} {A : Around} {elt tg iter : Expr} {ifs : List Expr} {scope : Scope} {gpos : Pos} {it : Addr} {fp : List Addr} {tn : Nat → Heap → Prop} {J : It} {g : TG} {tt : TT} {te : TE} {vs : List Nat} {σ : L2.St}
    {GB : List (Addr × Obj) → Hp → Shared → Prop} {CP : CPt} {okY : List V → V → Hp → Prop} {stp : V → Bool} {QE : List V → Hp → Prop} {lo : Nat} {W : Nat → Nat → List V → Hp → Prop}
    (hc : X.calm = true) (hx : X.xe = fun _ _ => False) (hXA : A.over (.compLoop (.GeneratorExp elt [⟨tg, iter, ifs, 0⟩] scope gpos) 0 (.ref it) .none X.env) [] = X.A) (hco : X.env.scope.isCoroutine = false)
    (T : Turn X.prog X.w X.K tg J fp it tn) (hfx : ∀ b ∈ fp, b ∈ X.ex ∧ b < lo ∧ ∀ p ∈ X.pn, p.1 ≠ b) (hpn : ∀ p ∈ X.pn, p.1 < lo) (hs0 : X.s_0.heap.objs.size ≤ lo) (hCP : ∀ ys P, CP ys P → ∀ p ∈ P, lo ≤ p.1)
    (pg : PG X tg g) (pt : PTs X ifs tt) (pe : PE X elt te) (hGB : ∀ P σ H s, Inv X P σ H s → GB P H s) (turn : GTurn J g tt te vs σ okY stp QE W) :
    ∀ (m n i : Nat) (ys : List V) (P : List (Addr × Obj)) (s₀ s : Shared) (H : Hp), m ≤ n → W i m ys H → CP ys P → Inv X P (wipe σ vs) H s → tn i s.heap → (∀ b ∈ fp, H b = none) → (∀ p ∈ P, s₀.heap.get? p.1 = some p.2) →
      Seg (model X.prog X.w) A (GXR GB CP QE) (GXY GB CP okY stp QE) n s₀ (.compLoop (.GeneratorExp elt [⟨tg, iter, ifs, 0⟩] scope gpos) 0 (.ref it) .none X.env)
        ((model X.prog X.w).den (.compLoop (.GeneratorExp elt [⟨tg, iter, ifs, 0⟩] scope gpos) 0 (.ref it) .none X.env)) [] s := by
  have stat : ∀ {P : List (Addr × Obj)} {ys : List V} {σ' : L2.St} {H' : Hp} {s' : Shared}, CP ys P → Inv X P σ' H' s' → (∀ b ∈ fp, H' b = none) → ∀ b ∈ fp, FpOk X P H' b := fun {P ys σ' H' s'} cp I' hn b hb =>
    ⟨hn b hb, (I'.ok.exf b (hfx b hb).1).1, I'.ok.exfs b (hfx b hb).1, .inl (hfx b hb).1, fun x c e => (I'.ok.exf b (hfx b hb).1).2 x c e, fun p hp => by
      rcases List.mem_append.mp hp with z | z
      · exact (hfx b hb).2.2 p z
      · exact Nat.ne_of_gt (Nat.lt_of_lt_of_le (hfx b hb).2.1 (hCP ys P cp p z))⟩
  have thx : ∀ {α : Type} {t : Sem α} {Q Q' : α → Shared → Prop} {M : Model} {E : Value → Shared → Prop} {s : Shared}, wpAny M X.A t Q X.xe s → (∀ a s, Q a s → Q' a s) → wpAny M X.A t Q' E s := fun {α t Q Q' M E s} h hQ => by
    rw [hx] at h
    exact thnF h hQ
  intro m
  induction m using Nat.strongRecOn with
  | ind m ih =>
    intro n i ys P s₀ s H hmn hw hcp I st nfp hP0
    show Seg _ A _ _ n s₀ _ ((compTurn (.GeneratorExp elt [⟨tg, iter, ifs, 0⟩] scope gpos) 0 (.ref it) .none X.env).onRaise (leaving X.env)) [] s
    rw [compTurn_gen, Sem.onRaise_eq_wrap]
    refine seg_bind_wrap (wpAny_standAt ?_)
    rcases turn i m ys H hw with ⟨stop, qq⟩ | ⟨hm0, go, Nx, hNx, step⟩
    · refine seg_bind_wrap ?_
      rw [hXA]
      refine thnF (T.done X rfl rfl rfl hc i P s _ H (fun _ _ => False) I (stat hcp I nfp) st stop) fun r s6 ⟨hr, I6⟩ => ?_
      subst hr
      exact seg_end (.ok .next) ⟨rfl, ys, P, H, hcp, hGB _ _ _ _ I6, qq, hP0⟩
    · refine seg_bind_wrap ?_
      rw [hXA]
      refine thnF (T.item X rfl rfl rfl hc i P s _ H (fun _ _ => False) I (stat hcp I nfp) st go) fun r s6 ⟨u, hr, h6⟩ => ?_
      subst hr
      refine seg_bind_wrap ?_
      rw [hXA]
      refine thnF h6 fun _ s7 ⟨x, H7, I7, r7, y7, st7, n7⟩ => ?_
      have I7' := I7.pinned (stat hcp I7 n7) (T.obj _ _ st7)
      refine seg_bind_wrap ?_
      rw [hXA]
      refine thx (pg.run _ s7 _ H7 x u _ I7' r7 (step x H7 y7)) fun _ s8 ⟨σ8, H8, I8, hw8, q8⟩ => ?_
      refine seg_bind_wrap ?_
      rw [hXA]
      refine thx (pt.run _ s8 σ8 H8 _ I8 q8) fun b s9 ⟨H9, I9, q9⟩ => ?_
      -- the turn's end
      have fin : ∀ {n : Nat} {s₀ s' : Shared} {H' : Hp} {ys' : List V} {P' : List (Addr × Obj)}, Inv X (P' ++ pinsAt fp s7.heap) σ8 H' s' → CP ys' P' → (∀ m', m' < m → m' ≤ n) → Nx ys' H' → (∀ p ∈ P', s₀.heap.get? p.1 = some p.2) →
          Seg (model X.prog X.w) A (GXR GB CP QE) (GXY GB CP okY stp QE) n s₀ (.compLoop (.GeneratorExp elt [⟨tg, iter, ifs, 0⟩] scope gpos) 0 (.ref it) .none X.env)
            (.pure (.again (.compLoop (.GeneratorExp elt [⟨tg, iter, ifs, 0⟩] scope gpos) 0 (.ref it) .none X.env))) [] s' := fun {n s₀ s' H' ys' P'} I' cp' hn nx hP0' => by
        obtain ⟨m', hm, w'⟩ := hNx ys' H' nx
        have pin' : ∀ b ∈ fp, ∀ o, s7.heap.get? b = some o → s'.heap.get? b = some o ∧ H' b = none := fun b hb o e =>
          let z := I'.pin (b, o) (List.mem_append_right _ (List.mem_append_right _ (mem_pinsAt hb e)))
          ⟨z.1, z.2.1⟩
        have hl : (wipe σ vs).length = σ8.length := by rw [← hw8, wipe_length]
        refine seg_again rfl (ih m' hm n (i + 1) ys' P' s₀ s' H' (hn m' hm) w' cp' ((I'.unpinned (pins := P')).weak hl (fun j v e => ?_)) (T.keep _ _ _ st7 fun b hb o e => (pin' b hb o e).1) (fun b hb => ?_) hP0')
        · rw [← hw8] at e
          exact (wipe_some e).1
        · obtain ⟨o, e, _⟩ := T.obj _ _ st7 b hb
          exact (pin' b hb o e).2
      cases b with
      | false =>
        simp only [Bool.false_eq_true, if_false] at q9 ⊢
        exact fin I9 hcp (fun m' h => by omega) q9 hP0
      | true =>
        simp only [if_true] at q9 ⊢
        have hy : ∀ v, yieldOut X.env v = yieldValue v := fun v => by simp only [yieldOut, hco, Bool.false_eq_true, if_false]
        simp only [hy]
        rw [Sem.bind_eq_wrap', Sem.bind_eq_wrap', Sem.wrap_wrap, Sem.wrap_wrap]
        refine seg_wrap ?_
        rw [hXA]
        refine thx (pe.run _ s9 σ8 H9 _ I9 q9) fun z s10 ⟨yv, H10, I10, r10, hok, nx⟩ => ?_
        obtain ⟨k, rfl⟩ : ∃ k, n = k + 1 := ⟨n - 1, by omega⟩
        refine seg_at (seg_yield rfl rfl rfl ⟨ys, yv, P, H10, r10, hcp, hGB _ _ _ _ I10.unpinned, hok, hP0, fun h => ?_, fun h P' s' wk cp' => ?_⟩)
        · rw [if_pos h] at nx
          exact nx
        · rw [if_neg (by rw [h]; exact Bool.false_ne_true)] at nx
          refine fin (inv_woken (fun p hp => ?_) I10 wk) cp' (fun m' h => by omega) nx fun p hp => (wk.own p hp).1
          have lp := hCP ys P hcp p hp
          refine ⟨Nat.le_trans hs0 lp, fun q hq => ?_⟩
          rcases List.mem_append.mp hq with q1 | q1
          · exact Nat.ne_of_lt (Nat.lt_of_lt_of_le (hpn q q1) lp)
          · exact Nat.ne_of_lt (Nat.lt_of_lt_of_le (hfx q.1 (of_pinsAt q1).1).2.1 lp)
end VL
end
section
set_option autoImplicit false
set_option maxRecDepth 100000
set_option maxHeartbeats 2000000
namespace VL
open PySem PySem.Spec PyProof.Rows L2 GenW GxR
theorem over_gx {A : Around} {elt : Expr} {gs : List Comprehension} {scope : Scope} {p : Pos} {it acc : Value} {env : Env} : A.over (.compLoop (.GeneratorExp elt gs scope p) 0 it acc env) [] = A.deeper env := by
  first
    | rfl
    | (obtain ⟨hd, d, fr, gs, u⟩ := A; simp [Around.over, Around.deeper, marksOver, frameCount, unitsOf, envsOf, guardsOf, pushEnvs, pushGuards, Code.envs, Code.env?, Code.isFrame, Code.guards, Code.isGuard, Code.weight, Code.frames, Code.isCreation, Code.isCaller, Code.cUnits])
/-- as it stands when an item is out, or at the end -/
def GBo (X : Cx) (s4 : Shared) (H4 : Hp) (fp : List Addr) (a : Addr) (g : Nat) (P : List (Addr × Obj)) (H : Hp) (s : Shared) : Prop :=
  s.os = s4.os ∧ AllBare s.gens ∧ Un (frs X.stack) fp H4 H s4.heap s.heap ∧ HOk X.prog X.w H s.heap ∧ s.heap.IsGen a g ∧ s.heap.NoLimit ∧ ∀ p ∈ P, s.heap.get? p.1 = some p.2 ∧ H p.1 = none
/-- what a generator expression gives: a generator that has not begun -/
def GMadeX (X : Cx) (k : Nat) (pins : List (Addr × Obj)) (σ : L2.St) (okY : List V → V → Hp → Prop) (stp : V → Bool) (QE : List V → Hp → Prop) (u : Value) (s5 : Shared) : Prop :=
  ∃ (a : Addr) (g : Nat) (c : Code) (s4 : Shared) (H4 : Hp) (fp : List Addr), u = .ref a ∧ Inv X pins σ H4 s4 ∧ (∀ b ∈ fp, FpOk X pins H4 b) ∧ a < s5.heap.objs.size ∧ s5.heap.IsGen a g ∧ s5.gens[g]? = some (.fresh c) ∧ s5.os = s4.os ∧ AllBare s5.gens ∧ s5.heap.NoLimit ∧
    (∀ b o, s4.heap.get? b = some o → s5.heap.get? b = some o) ∧ s4.heap.objs.size < s5.heap.objs.size ∧
    ∀ (A : Around) (CP : CPt) (P : List (Addr × Obj)) (s6 : Shared), Room (k + 1) A → A.frames = some X.stack → (∀ ys P, CP ys P → ∀ p ∈ P, s5.heap.objs.size ≤ p.1) → CP [] P → (∀ p ∈ P, s6.heap.get? p.1 = some p.2 ∧ ∀ v, p.2.data ≠ .cell v) →
      (∀ b o, s5.heap.get? b = some o → s6.heap.get? b = some o) → s6.os = s5.os → AllBare s6.gens →
      ∃ n, Seg (model X.prog X.w) A (GXR (GBo X s4 H4 fp a g) CP QE) (GXY (GBo X s4 H4 fp a g) CP okY stp QE) n s6 c ((model X.prog X.w).den c) [] s6
theorem codeAmong_app {pos : Pos} (m : List Value) : ∀ (n : Nat) (l : List Value), l.length ≤ n → TriplesOk l → codeAmong pos (l ++ m) = (codeAmong pos l).or (codeAmong pos m)
  | _, [], _, _ => by simp [codeAmong]
  | 0, _ :: _, h, _ => by simp at h
  | _, [x], _, h => by cases x <;> exact h.elim
  | _, [x, y], _, h => by cases x <;> first | exact h.elim | (cases y <;> exact h.elim)
  | n + 1, x :: y :: v :: r, l, h => by
    cases x <;> first | exact h.elim | (cases y <;> first | exact h.elim | skip)
    rename_i a ta b tb
    have h' : TriplesOk r := h
    have ih := codeAmong_app (pos := pos) m n r (by simp at l; omega) h'
    have e1 : codeAmong pos (.int a ta :: .int b tb :: v :: (r ++ m)) = if (a == ↑pos.line && b == ↑pos.col) = true then some v else codeAmong pos (r ++ m) := rfl
    have e2 : codeAmong pos (.int a ta :: .int b tb :: v :: r) = if (a == ↑pos.line && b == ↑pos.col) = true then some v else codeAmong pos r := rfl
    show codeAmong pos (.int a ta :: .int b tb :: v :: (r ++ m)) = _
    rw [e1, e2]
    split
    · rfl
    · exact ih
theorem ne_lt {a b n : Nat} (h : b < n) (k : n ≤ a) : a ≠ b := by omega
theorem inv_lay {X : Cx} {pins : List (Addr × Obj)} {σ : L2.St} {H2 H : Hp} {s2 s : Shared} (I2 : Inv X pins σ H2 s2) (I : Inv X pins σ H s) {a : Addr} {o : HO} (la : s2.heap.objs.size ≤ a) (n : H a = none) (ok : ObjOk X.prog X.w (upd H a o) s.heap a o) : Inv X pins σ (upd H a o) s := by
  have ne : ∀ {b : Addr} {u : Obj}, s2.heap.get? b = some u → b ≠ a := fun e => (ne_lt (Heap.lt_size e) la).symm
  obtain ⟨h, g, d, t, os⟩ := s
  refine I.step (ch := [a]) (fun b hb => ?_) (fun _ _ _ _ _ q _ => q) (fun _ o _ _ _ q _ => ⟨o.slots, q⟩) (fun b u hb _ q => by rw [upd_ne (fun z => hb (by rw [z]; exact List.mem_singleton.mpr rfl))]; exact q) (fun _ u _ q => ⟨u, q⟩) (fun b xs q => by rw [upd_ne (ne_of_none q n)]; exact q) (fun b o u q => by rw [upd_ne (ne_of_none q n)]; exact q) (fun b ps q => ⟨#[], by rw [upd_ne (ne_of_none q n), q]; simp⟩) (fun _ q => q) (fun b u q => ?_) I.bare
  · rw [List.mem_singleton.mp hb]
    refine ⟨.inr (Nat.le_trans I2.sz la), ne_lt I2.lt la, fun x c e => ?_, fun p hp z => ?_⟩
    · obtain ⟨v, w⟩ := I2.cell x c e
      exact (ne_lt w.lt la).symm
    · exact ne (I2.pin p hp).1 z
  · by_cases z : b = a
    · rw [z, upd_same] at q
      cases q
      rw [z]
      exact ok
    · rw [upd_ne z] at q
      exact (I.hok b u q).stay (fun _ _ _ e => e) (fun c e => by rw [upd_ne (ne_of_none e n)]; exact e) fun c xs e => by rw [upd_ne (ne_of_none e n)]; exact e
/-- the table P holds the code cd, whose own table is Q -/
def CodeIn (H : Hp) (P : Addr) (cd : Value) (Q : Addr) : Prop := ∃ c o ps pos, cd = .ref c ∧ c ≠ Q ∧ H c = some (frzC c o) ∧ CodeAt o Q ∧ H P = some (.tbl ps) ∧ codeAmong pos ps.toList = some (.ref c)
/-- from the table R to the table P by codes -/
inductive Reach (H : Hp) (R : Addr) : Addr → Prop
  | refl : Reach H R R
  | step {P Q : Addr} {cd : Value} : Reach H R P → CodeIn H P cd Q → Reach H R Q
theorem Reach.tab {H : Hp} {R P : Addr} (h : Reach H R P) (t : TabG H R) : TabG H P := by
  induction h with
  | refl => exact t
  | step _ k ih =>
    obtain ⟨c, o, ps, pos, _, a2, a3, a4, a5, a6⟩ := k
    obtain ⟨qs, h1, h2, h3⟩ := ih.out
    rw [a5] at h1
    cases h1
    obtain ⟨c', Q, o', b1, b2, b3, b4, b5⟩ := h3 _ _ a6
    cases b1
    rw [a3] at b3
    have e : frzC c o = frzC c o' := Option.some.inj b3
    have e : o = o' := by
      unfold frzC at e
      cases e
      rfl
    subst e
    rw [a4.uniq b4]
    exact b5
theorem Reach.un {H H' : Hp} {R P : Addr} {fs ex : List Addr} {h h' : Heap} (u : Un fs ex H H' h h') (t : TabG H R) (k : Reach H R P) : Reach H' R P := by
  induction k with
  | refl => exact .refl
  | step k0 k ih =>
    obtain ⟨c, o, ps, pos, a1, a2, a3, a4, a5, a6⟩ := k
    obtain ⟨qs, h1, h2, _⟩ := (k0.tab t).out
    rw [a5] at h1
    cases h1
    obtain ⟨more, e⟩ := u.tbls _ _ a5
    refine .step ih ⟨c, o, _, pos, a1, a2, u.frzs _ _ _ a3, a4, e, ?_⟩
    rw [Array.toList_append, codeAmong_app _ _ _ (Nat.le_refl _) h2, a6]
    rfl
/-- cd is a code that R leads to, P' its table -/
def InOk (H : Hp) (R : Addr) (cd : Value) (P' : Addr) : Prop := ∃ c o, cd = .ref c ∧ c ≠ P' ∧ H c = some (frzC c o) ∧ CodeAt o P' ∧ Reach H R P' ∧ TabG H R
theorem CodeAt.hd {h : Heap} {c P : Addr} {o : Obj} (k : CodeAt o P) (e : h.get? c = some o) (n : c ≠ P) : PySem.W.CodeHd h c P := by
  obtain ⟨vs, f, tf, fl, tg, b, x, tt, k1, k2, k3, k4, k5, k6, k7, k8⟩ := k
  exact ⟨o, vs, f, tf, fl, tg, b, x, tt, e, k1, k2, k3, k4, k5, k6, k7, k8, n⟩
/-- the running code's own table is P -/
def CodeOk (X : Cx) (R P : Addr) : Prop := ∃ c, X.env.code = .ref c ∧ ∀ (pins : List (Addr × Obj)) (σ : L2.St) (H : Hp) (s : Shared), Inv X pins σ H s → TabG H R → Reach H R P ∧ PySem.W.CodeHd s.heap c P ∧ X.base.BuiltinsAt X.mg P ∧ mainGlobals ≠ P
theorem CodeOk.top {X : Cx} {c P : Addr} (TB : TabB X.base X.mg c P) (hcode : X.env.code = .ref c) : CodeOk X P P :=
  ⟨c, hcode, fun _ _ _ _ I _ => ⟨.refl, TB.code.keeps fun b u e => I.bk b u e, TB.bm, TB.gP⟩⟩
theorem CodeOk.inn {X : Cx} {R P : Addr} (bm : X.base.BuiltinsAt X.mg R) (h : InOk X.H_0 R X.env.code P) : CodeOk X R P := by
  obtain ⟨c, o, a1, a2, a3, a4, a5, a6⟩ := h
  refine ⟨c, a1, fun pins σ H s I t => ?_⟩
  have u := I.base
  have e := I.hok c _ (u.frzs _ _ _ a3)
  have rh := a5.un u a6
  obtain ⟨ps, hP, _⟩ := (rh.tab t).out
  have hPs : s.heap.get? P = some { cls := .none, data := .fields ps } := I.hok P _ hP
  obtain ⟨bm', ob, e1, e2, e3, e4, e5, e6, e7, e8⟩ := bm
  refine ⟨rh, a4.hd e.1 a2, ⟨bm', ob, e1, e2, e3, fun z => ?_, e5, e6, e7, e8⟩, fun z => ?_⟩
  · have := I.bk _ _ e5
    rw [z, hPs] at this
    cases this
    cases e8
  · have g := I.mod.glob.keeps I.bk
    obtain ⟨o2, es, ep, h2, d2, _⟩ := g
    rw [z, hPs] at h2
    cases h2
    cases d2
/-- a code that was made now -/
theorem code_made {X : Cx} {pins : List (Addr × Obj)} {σ : L2.St} {H : Hp} {s : Shared} {P c' : Addr} {ps : Array Value} {h3 : Heap} {tk : Nat} {gpos : Pos} (I : Inv X pins σ H s) (hP : H P = some (.tbl ps)) (ht : TriplesOk ps.toList)
    (hx : Heap.ExtBut P s.heap h3) (hc : s.heap.objs.size ≤ c') (htab : h3.get? P = some { cls := .none, data := .fields (ps ++ #[rawInt ↑gpos.line, rawInt ↑gpos.col, .ref c']) }) (ht3 : TriplesOk (ps ++ #[rawInt ↑gpos.line, rawInt ↑gpos.col, .ref c']).toList)
    (hf : codeAmong gpos ps.toList = none) (hin : ∃ P', s.heap.objs.size ≤ P' ∧ h3.IsCode c' P' #[] ∧ h3.TableAt c' P' #[]) :
    ∃ H4 P', Inv X pins σ H4 { s with heap := h3, toks := tk } ∧ Grown P H H4 ∧ (∀ b, b ≠ P → b < s.heap.objs.size → H4 b = H b) ∧ CodeIn H4 P (.ref c') P' ∧ (∃ o, H4 c' = some (frzC c' o) ∧ CodeAt o P' ∧ c' ≠ P') ∧ H4 P = some (.tbl (ps ++ #[rawInt ↑gpos.line, rawInt ↑gpos.col, .ref c'])) := by
  obtain ⟨P', hP', hic, hta⟩ := hin
  obtain ⟨o, vs, file, tf, fl, tg, inF, tx, tt, op, g1, g2, g3, g4, g5, g6, g7, g8, g9, g10, g11⟩ := hic
  obtain ⟨⟨o2, vs2, k1, k2, k3, k4⟩, k5⟩ := hta
  rw [g1] at k1
  cases k1
  rw [g2] at k3
  cases k3
  have ca : CodeAt o P' := ⟨vs, file, tf, fl, tg, inF, tx, tt, k2, g2, k4, g3, g4, g5, g6, g7⟩
  have Psz : P < s.heap.objs.size := Heap.lt_size (I.hok P _ hP : s.heap.get? P = some { cls := .none, data := .fields ps })
  have J1 : Inv X pins σ (upd H P (.tbl (ps ++ #[rawInt ↑gpos.line, rawInt ↑gpos.col, .ref c']))) { s with heap := h3, toks := tk } :=
    inv_tab (g' := s.gens) (d' := s.drawn) (t' := tk) I hP (fun b u hb e => hx b u hb e) htab I.bare
  have n1 : H c' = none := I.hok.fresh hc
  have n2 : H P' = none := I.hok.fresh hP'
  have cP : c' ≠ P := ne_lt Psz hc
  have PP : P' ≠ P := ne_lt Psz hP'
  have J2 := inv_lay (o := frzC c' o) I J1 hc (by rw [upd_ne cP]; exact n1) ⟨g1, g1, ⟨_, g1⟩, fun h1 h2 a b => b _ a⟩
  have J3 := inv_lay (o := .tbl #[]) I J2 hP' (by rw [upd_ne (Ne.symm g11), upd_ne PP]; exact n2) k5
  have at0 : upd (upd (upd H P (.tbl (ps ++ #[rawInt ↑gpos.line, rawInt ↑gpos.col, .ref c']))) c' (frzC c' o)) P' (.tbl #[]) P = some (.tbl (ps ++ #[rawInt ↑gpos.line, rawInt ↑gpos.col, .ref c'])) := by rw [upd_ne (Ne.symm PP), upd_ne (Ne.symm cP), upd_same]
  have atc : upd (upd (upd H P (.tbl (ps ++ #[rawInt ↑gpos.line, rawInt ↑gpos.col, .ref c']))) c' (frzC c' o)) P' (.tbl #[]) c' = some (frzC c' o) := by rw [upd_ne g11, upd_same]
  have old : ∀ b, b ≠ P → b ≠ c' → b ≠ P' → upd (upd (upd H P (.tbl (ps ++ #[rawInt ↑gpos.line, rawInt ↑gpos.col, .ref c']))) c' (frzC c' o)) P' (.tbl #[]) b = H b := fun b h1 h2 h3 => by rw [upd_ne h3, upd_ne h2, upd_ne h1]
  have own : ∀ pos v, codeAmong pos [rawInt ↑gpos.line, rawInt ↑gpos.col, Value.ref c'] = some v → v = .ref c' := fun pos v e => by
    simp only [rawInt, codeAmong] at e
    split at e
    · cases e
      rfl
    · cases e
  have hit : codeAmong gpos [rawInt ↑gpos.line, rawInt ↑gpos.col, Value.ref c'] = some (.ref c') := by
    simp [rawInt, codeAmong]
  refine ⟨_, P', J3, ⟨fun b u hb e => ?_, ps, _, hP, at0, ht3, fun pos v e => ?_⟩, fun b hb lb => old b hb (ne_lt lb hc).symm (ne_lt lb hP').symm, ⟨c', o, _, gpos, rfl, g11, atc, ca, at0, ?_⟩, ⟨o, atc, ca, g11⟩, at0⟩
  · rw [old b hb (ne_of_none e n1) (ne_of_none e n2)]
    exact e
  · rw [Array.toList_append, codeAmong_app _ _ _ (Nat.le_refl _) ht] at e
    cases q : codeAmong pos ps.toList with
    | some w =>
      rw [q] at e
      exact .inl e
    | none =>
      rw [q] at e
      exact .inr ⟨c', P', o, own pos v e, g11, atc, ca, upd_same, n1, n2⟩
  · rw [Array.toList_append, codeAmong_app _ _ _ (Nat.le_refl _) ht, hf]
    exact hit
def tGx (R P : Addr) (wi : TI) (g : TG) (tt : TT) (te : TE) (vs : List Nat) (okY : List V → V → Hp → Prop) (stp : V → Bool) (QE : List V → Hp → Prop) : L2.St → Hp → Prop := fun σ H =>
  wi σ H fun J H1 => TabG H1 R ∧ ∀ H2, Grown P H1 H2 → ∃ W : Nat → Nat → List V → Hp → Prop, (∃ m, W 0 m [] H2) ∧ GTurn J g tt te vs σ okY stp QE W
theorem gx_make {X : Cx} {pins : List (Addr × Obj)} {σ : L2.St} {H : Hp} {s : Shared} {R P : Addr} {k : Nat} {elt tg iter : Expr} {ifs : List Expr} {scope : Scope} {own : List (Str × Nat)} {gpos : Pos} {wi : TI} {g : TG} {tt : TT} {te : TE}
    {okY : List V → V → Hp → Prop} {stp : V → Bool} {QE : List V → Hp → Prop}
    (hc : X.calm = true) (hN : X.N.Nodup) (hd : X.A.handled = none) (hdp : X.A.depth < recursionLimit) (CO : CodeOk X R P) (ok : BlkOk X.N X.env.scope scope own) (hcell : ∀ y ∈ scope.names, y.2 ≠ .cell) (hdot : scope.names.lookup (".0" : Str) = some NameKind.local)
    (hco : scope.isCoroutine = false) (hi : PI X tg iter wi)
    (hg : ∀ (s : Shared) (H : Hp) (cl : List (Str × Addr)) (C : Addr) (cd : Value) (A : Around) (fp : List Addr) (pn : List (Addr × Obj)), PG (X.gx s H (genEnv scope cl C cd builtinsNs X.env) A fp pn) tg g)
    (ht : ∀ (s : Shared) (H : Hp) (cl : List (Str × Addr)) (C : Addr) (cd : Value) (A : Around) (fp : List Addr) (pn : List (Addr × Obj)) (P' : Addr), InOk H R cd P' → Room k A → PTs (X.gx s H (genEnv scope cl C cd builtinsNs X.env) A fp pn) ifs tt)
    (he : ∀ (s : Shared) (H : Hp) (cl : List (Str × Addr)) (C : Addr) (cd : Value) (A : Around) (fp : List Addr) (pn : List (Addr × Obj)) (P' : Addr), InOk H R cd P' → Room k A → PE (X.gx s H (genEnv scope cl C cd builtinsNs X.env) A fp pn) elt te)
    (hs : ∀ v, genFold iter X.env v = pure v) (I : Inv X pins σ H s) (h : tGx R P wi g tt te (own.map (·.2)) okY stp QE σ H) :
    wpAny (model X.prog X.w) X.A (eval (.GeneratorExp elt [⟨tg, iter, ifs, 0⟩] scope gpos) X.env) (GMadeX X k pins σ okY stp QE) X.xe s := by
  have hfree : ∀ y ∈ scope.names, y.2 = .free → ∃ c, X.env.cells.lookup y.1 = some c := fun y hy e => by
    rcases ok.free y hy e with k | k
    · exact I.ok.has _ (.inl k)
    · exact I.ok.has _ (.inr k)
  refine wpAny_GeneratorExp_make hco (closure_ok hfree) hcell hdot ok.kind hdp (thn (hi.run pins s σ H _ I h) fun xv s1 hx => thn hx fun itv s2 h2 => ?_) hs
  obtain ⟨it, fp, tn, J, H1, e, I1, T, st1, f1, tR, q⟩ := h2
  subst e
  obtain ⟨c, hcode, CO⟩ := CO
  obtain ⟨rh, cd, bmP, gP⟩ := CO _ _ _ _ I1 tR
  obtain ⟨ps, hP, htr, cds⟩ := (rh.tab tR).out
  refine ⟨I1.nolimit, ?_⟩
  have hPs : s2.heap.get? P = some { cls := .none, data := .fields ps } := I1.hok P _ hP
  have fpP : ∀ b ∈ fp, b ≠ P := fun b hb z => by
    have := (f1 b hb).1
    rw [z, hP] at this
    cases this
  have cont : ∀ (code : Value) (h3 : Heap) (tk : Nat) (H4 : Hp) (P' : Addr), Heap.ExtBut P s2.heap h3 → Inv X pins σ H4 { s2 with heap := h3, toks := tk } → Grown P H1 H4 → (∀ b, b ≠ P → b < s2.heap.objs.size → H4 b = H1 b) → InOk H4 R code P' →
      wpAny (model X.prog X.w) X.A (builtinsFor X.env.globals X.env.builtins) (fun bi s₄ =>
        ∀ h', h'.Ns s₄.heap.objs.size (fun y => if y = ".0" then some (.ref it) else none) → Heap.SameBut s₄.heap.objs.size (s₄.heap.push { cls := .type "frame", data := .dict #[] }) h' →
          GMadeX X k pins σ okY stp QE (.ref h'.objs.size) { s₄ with
            gens := s₄.gens.push (.fresh (.compStart (.GeneratorExp elt [⟨tg, iter, ifs, 0⟩] scope gpos) 0 (.ref it) .none (genEnv scope (cloFrom X.env.cells scope.names []) s₄.heap.objs.size code bi X.env))),
            toks := s₄.toks + 1 + 1 + 1,
            heap := h'.push { cls := .type "generator", data := .fields #[.int s₄.gens.size 0, .str "<genexpr>" (s₄.toks + 1), .str (X.env.qual ++ "<genexpr>") (s₄.toks + 1 + 1)] } }) X.xe { s2 with heap := h3, toks := tk } := by
    intro code h3 tk H4 P' hx I4 gr hold hin
    obtain ⟨bm, ob, e1, e2, e3, e4, e5, e6, e7, e8⟩ := bmP
    have keep3 : ∀ b u, b ≠ P → s2.heap.get? b = some u → h3.get? b = some u := fun b u hb e => hx b u hb e
    refine wpAny_builtinsFor (m := X.mg) (by rw [I1.ok.glob]; exact (I1.mod.glob.keeps I1.bk).extBut hx gP) e1 e2 (keep3 _ _ e4 (I1.bk _ _ e5)) e6 e7 e8 ?_
    intro h' hn' hs'
    have fpo : ∀ b ∈ fp, FpOk X pins H4 b := fun b hb => ⟨by
      obtain ⟨o, e, _⟩ := T.obj _ _ st1 b hb
      rw [hold b (fpP b hb) (Heap.lt_size e)]
      exact (f1 b hb).1, (f1 b hb).2⟩
    have st4 : tn 0 h3 := T.keep _ _ _ st1 fun b hb o e => keep3 b o (fpP b hb) e
    have flt : ∀ b ∈ fp, b < h3.objs.size := fun b hb => by
      obtain ⟨o, e, _⟩ := T.obj _ _ st4 b hb
      exact Heap.lt_size e
    have hsz : h'.objs.size = h3.objs.size + 1 := by rw [hs'.1, Heap.size_push]
    have hlt3 : h3.objs.size < h'.objs.size := by rw [hsz]; exact Nat.lt_succ_self _
    have keep' : ∀ b o, h3.get? b = some o → h'.get? b = some o := fun b o e => hs'.extBut b o (Nat.ne_of_lt (Heap.lt_size e)) (Heap.get?_push_of_some _ e)
    have keep5 : ∀ go b o, h3.get? b = some o → (h'.push go).get? b = some o := fun go b o e => Heap.get?_push_of_some _ (keep' b o e)
    obtain ⟨W, ⟨m0, w0⟩, turn⟩ := q _ gr
    generalize hgo : ({ cls := .type "generator", data := .fields #[.int s2.gens.size 0, .str "<genexpr>" (tk + 1), .str (X.env.qual ++ "<genexpr>") (tk + 1 + 1)] } : Obj) = go
    have hat : (h'.push go).get? h'.objs.size = some go := Heap.get?_push_size _ (by rw [← hgo]; rfl)
    have hisg : ∀ hh : Heap, hh.get? h'.objs.size = some go → hh.IsGen h'.objs.size s2.gens.size := fun hh e => ⟨go, _, _, e, by rw [← hgo], by rw [← hgo], by rw [← hgo]⟩
    have hgc : ∀ v, go.data ≠ .cell v := fun v z => by
      rw [← hgo] at z
      cases z
    show GMadeX X k pins σ okY stp QE (.ref h'.objs.size) { s2 with gens := s2.gens.push (.fresh (.compStart (.GeneratorExp elt [⟨tg, iter, ifs, 0⟩] scope gpos) 0 (.ref it) .none (genEnv scope (cloFrom X.env.cells scope.names []) h3.objs.size code builtinsNs X.env))), toks := tk + 1 + 1 + 1, heap := h'.push go }
    refine ⟨h'.objs.size, s2.gens.size, _, { s2 with heap := h3, toks := tk }, _, fp, rfl, I4, fpo, ?_, hisg _ hat, Array.getElem?_push_size .., rfl, I1.bare.push rfl, I4.nolimit.keeps fun b o e => keep5 go b o e, fun b o e => keep5 go b o e, ?_, ?_⟩
    · show h'.objs.size < (h'.push go).objs.size
      rw [Heap.size_push]
      exact Nat.lt_succ_self _
    · show h3.objs.size < (h'.push go).objs.size
      rw [Heap.size_push]
      omega
    intro A CP Pc s6 hr6 hf6 hlow hcp0 hPc kp6 os6 ba6
    have kp6' : ∀ b o, (h'.push go).get? b = some o → s6.heap.get? b = some o := kp6
    have low : ∀ {ys : List V} {P' : List (Addr × Obj)}, CP ys P' → ∀ p ∈ P', h'.objs.size + 1 ≤ p.1 := fun {ys P'} cp p hp => by
      have q1 : (h'.push go).objs.size ≤ p.1 := hlow ys P' cp p hp
      rw [Heap.size_push] at q1
      exact q1
    generalize hce : genEnv scope (cloFrom X.env.cells scope.names []) h3.objs.size code builtinsNs X.env = ce
    have hR : Room k (A.deeper ce) := hr6.deeper ce
    have I6 : Inv (X.gx { s2 with heap := h3, toks := tk } H4 ce (A.deeper ce) fp [(h'.objs.size, go)]) Pc (wipe σ (own.map (·.2))) H4 s6 := by
      refine gx_start (code := code) I4 ok hcell hN (fun b hb => ⟨fpo b hb, flt b hb⟩) hce.symm hR.hd (Around.frames_deeper hf6) (hn'.keeps fun b o e => kp6' b o (Heap.get?_push_of_some _ e)) (fun b o e => kp6' b o (keep5 go b o e)) os6 ba6 fun p hp => ?_
      rcases List.mem_cons.mp hp with z | z
      · rw [z]
        exact ⟨kp6' _ _ hat, hlt3, hgc⟩
      · have := low hcp0 p z
        exact ⟨(hPc p z).1, Nat.lt_trans hlt3 this, (hPc p z).2⟩
    have st6 : tn 0 s6.heap := T.keep _ _ _ st4 fun b _ o e => kp6' b o (keep5 go b o e)
    have pg := hg { s2 with heap := h3, toks := tk } H4 (cloFrom X.env.cells scope.names []) h3.objs.size code (A.deeper ce) fp [(h'.objs.size, go)]
    have pt := ht { s2 with heap := h3, toks := tk } H4 (cloFrom X.env.cells scope.names []) h3.objs.size code (A.deeper ce) fp [(h'.objs.size, go)] P' hin hR
    have pe := he { s2 with heap := h3, toks := tk } H4 (cloFrom X.env.cells scope.names []) h3.objs.size code (A.deeper ce) fp [(h'.objs.size, go)] P' hin hR
    rw [hce] at pg pt pe
    have hces : ce.scope = scope := by rw [← hce]; rfl
    have gb : ∀ P' σ' H' s', Inv (X.gx { s2 with heap := h3, toks := tk } H4 ce (A.deeper ce) fp [(h'.objs.size, go)]) P' σ' H' s' → GBo X { s2 with heap := h3, toks := tk } H4 fp h'.objs.size s2.gens.size P' H' s' := fun P' σ' H' s' I' => by
      refine ⟨I'.os, I'.bare, I'.base, I'.hok, hisg _ (I'.pin (h'.objs.size, go) (List.mem_append_left _ (List.mem_singleton.mpr rfl))).1, I'.nolimit, fun p hp => ?_⟩
      obtain ⟨h1, h2, _⟩ := I'.pin p (List.mem_append_right _ hp)
      exact ⟨h1, h2⟩
    have loop := fun s₀ => seg_gx (X := X.gx { s2 with heap := h3, toks := tk } H4 ce (A.deeper ce) fp [(h'.objs.size, go)]) (A := A) (iter := iter) (scope := scope) (gpos := gpos) (GB := GBo X { s2 with heap := h3, toks := tk } H4 fp h'.objs.size s2.gens.size) (CP := CP) (lo := h'.objs.size + 1)
      hc rfl over_gx (by show ce.scope.isCoroutine = false; rw [hces]; exact hco) T (fun b hb => ⟨hb, Nat.lt_succ_of_lt (Nat.lt_trans (flt b hb) hlt3), fun p hp => by
        rw [List.mem_singleton.mp hp]
        exact Nat.ne_of_gt (Nat.lt_trans (flt b hb) hlt3)⟩) (fun p hp => by rw [List.mem_singleton.mp hp]; exact Nat.lt_succ_self _) (Nat.le_succ_of_le (Nat.le_of_lt hlt3)) (fun ys P' cp p hp => low cp p hp) pg pt pe gb turn m0 m0 0 [] Pc s₀ s6 _ (Nat.le_refl _) w0 hcp0 I6 st6 (fun b hb => (fpo b hb).1)
    refine ⟨m0, ?_⟩
    · show Seg _ A _ _ m0 s6 _ ((compStart (.GeneratorExp elt [⟨tg, iter, ifs, 0⟩] scope gpos) 0 (.ref it) .none ce).onRaise (leaving ce)) [] s6
      unfold compStart
      rw [Sem.onRaise_eq_wrap]
      show Seg _ A _ _ _ s6 _ ((ask >>= _).wrap _ _ _ _) [] s6
      refine seg_bind_wrap (wpAny_askSetting ?_)
      split
      · exact seg_again rfl (loop s6 fun p hp => (hPc p hp).1)
      · first
          | exact seg_bind_wrap (wpAny_rule (seg_bind_wrap (wpAny_standAt (seg_bind_wrap (T.self _ 0 s6 _ _ st6 (seg_again rfl (loop s6 fun p hp => (hPc p hp).1)))))))
          | (refine seg_bind_wrap (wpAny_rule ?_); show Seg _ A _ _ _ s6 _ ((standAt iter.pos >>= _).wrap _ _ _ _) [] s6; exact seg_bind_wrap (wpAny_standAt (seg_bind_wrap (T.self _ 0 s6 _ _ st6 (seg_again rfl (loop s6 fun p hp => (hPc p hp).1))))))
  cases hf : codeAmong gpos ps.toList with
  | none =>
    refine wpAny_genexprCodeX hcode (cd.code hPs htr) (cd.tab hPs) hf fun c' h' tk hx hge hlt hco' _ htab' hin' => ?_
    obtain ⟨o1, vs, f1', tf, fl, tg, inF, tx, tt, op, _, _, _, _, _, _, _, _, _, htr', _⟩ := hco'
    obtain ⟨H4, P', J4, gr, hold, cin, ⟨o, e, ca, ne⟩, _⟩ := code_made (tk := tk) I1 hP htr hx hge htab'.2 htr' hf hin'
    exact cont _ h' tk H4 P' hx J4 gr hold ⟨c', o, rfl, ne, e, ca, .step (CO _ _ _ _ J4 (gr.tab tR)).1 cin, gr.tab tR⟩
  | some cv =>
    refine wpAny_genexprCode_hit hcode (cd.code hPs htr) hf ?_
    obtain ⟨c', P', o, rfl, n, e, ca, _⟩ := cds _ _ hf
    exact cont _ s2.heap s2.toks H1 P' (Heap.ExtBut.refl _ _) I1 ⟨fun _ _ _ e => e, ps, ps, hP, hP, htr, fun _ _ e => .inl e⟩ (fun _ _ _ => rfl) ⟨c', o, rfl, n, e, ca, .step rh ⟨c', o, ps, gpos, rfl, n, e, ca, hP, hf⟩, tR⟩
end VL
end
section
set_option autoImplicit false
set_option maxRecDepth 100000
set_option maxHeartbeats 2000000
namespace VL
open PySem PySem.Spec PyProof.Rows L2 GenW GxR
theorem GBo.ext {X : Cx} {s4 : Shared} {H4 : Hp} {fp : List Addr} {a : Addr} {g : Nat} {P : List (Addr × Obj)} {H : Hp} {s s' : Shared} (h : GBo X s4 H4 fp a g P H s) (os : s'.os = s.os) (b : AllBare s'.gens) (k : ∀ b o, s.heap.get? b = some o → s'.heap.get? b = some o) : GBo X s4 H4 fp a g P H s' := by
  obtain ⟨h1, _, h3, h4, h5, h6, h7⟩ := h
  exact ⟨os.trans h1, b, h3.trans (Un.kept k), h4.kept k, h5.keeps k, h6.keeps k, fun p hp => ⟨k _ _ (h7 p hp).1, (h7 p hp).2⟩⟩
/-- back in the def's context -/
theorem GBo.back {X : Cx} {pins P : List (Addr × Obj)} {σ : L2.St} {s4 s : Shared} {H4 H : Hp} {fp : List Addr} {a : Addr} {g : Nat} (I : Inv X pins σ H4 s4) (hf : ∀ b ∈ fp, FpOk X pins H4 b) (h : GBo X s4 H4 fp a g P H s) : Inv X pins σ H s := by
  obtain ⟨h1, h2, h3, h4, h5, h6, h7⟩ := h
  exact I.call' (ch := fp) h1 h3 h4 h2 fun b hb => ⟨(hf b hb).2.2.2.1, (hf b hb).2.1, (hf b hb).2.2.2.2.1, (hf b hb).2.2.2.2.2⟩
/-- next -/
theorem gx_pull {P : Program} {w : World} {A : Around} {E : Value → Shared → Prop} {s : Shared} {X : Cx} {s4 : Shared} {H4 : Hp} {fp : List Addr} {a : Addr} {g n : Nat} {gs : GenState} {CP : CPt} {okY : List V → V → Hp → Prop} {stp : V → Bool} {QE : List V → Hp → Prop} {Q : Option Value → Shared → Prop}
    (hh : A.handled = none) (hroom : A.depth < recursionLimit) (hl : s.heap.NoLimit) (hg : s.heap.IsGen a g) (hgs : s.gens[g]? = some gs)
    (hgo : gs.Goes (model P w) A.in1 (GXR (GBo X s4 H4 fp a g) CP QE) (GXY (GBo X s4 H4 fp a g) CP okY stp QE) n (.send .none) (s.setGen g .running))
    (hY : ∀ v s' gs' ys y Pc H, RelV y v → CP ys Pc → GBo X s4 H4 fp a g Pc H s' → s'.gens[g]? = some gs' → okY ys y H → (∀ p ∈ Pc, s.heap.get? p.1 = some p.2) → (stp y = true → QE (ys ++ [y]) H) →
      (stp y = false → ∀ P' s'', Woke Pc P' s' s'' → CP (ys ++ [y]) P' → ∃ m, m < n ∧ gs'.Goes (model P w) A.in1 (GXR (GBo X s4 H4 fp a g) CP QE) (GXY (GBo X s4 H4 fp a g) CP okY stp QE) m (.send .none) s'') → Q (some v) s')
    (hP : ∀ s' ys Pc H, CP ys Pc → GBo X s4 H4 fp a g Pc H s' → QE ys H → (∀ p ∈ Pc, s.heap.get? p.1 = some p.2) → Q none s') : wpAny (model P w) A (pyNext (.ref a)) Q E s := by
  have hgl : g < s.gens.size := (Array.getElem?_eq_some_iff.mp hgs).1
  refine wpAny_gsz (n := g + 1) hgl (wpAny_pyNext_genexpQ (P := fun _ s₀ s₁ => ∃ ys Pc H, CP ys Pc ∧ GBo X s4 H4 fp a g Pc H s₁ ∧ QE ys H ∧ ∀ p ∈ Pc, s₀.heap.get? p.1 = some p.2) hh hl hroom hg hgs hgo (fun v s₁ gs' hb hv => ?_) (fun s₁ hp h' hk => ?_))
  · intro hsz
    have hsz1 : g < s₁.gens.size := by
      have q : (s₁.setGen g gs').gens.size = s₁.gens.size := setGen_size _ _ _
      have hsz' : g + 1 ≤ (s₁.setGen g gs').gens.size := hsz
      omega
    obtain ⟨ys, y, Pc, H, rv, cp, gb, oky, hP0, q1, q2⟩ := hv
    refine hY v _ gs' ys y Pc H rv cp (gb.ext rfl (allBare_setGen gb.2.1 hb) fun _ _ e => e) (setGen_at hsz1) oky hP0 q1 fun hst P' s'' wk cp' => ?_
    have q3 := q2 hst P' s'' ⟨wk.os, wk.bare, wk.keep, wk.adr, wk.own⟩ cp'
    cases n with
    | zero => exact q3.elim
    | succ m => exact ⟨m, Nat.lt_succ_self m, q3⟩
  · intro _
    obtain ⟨ys, Pc, H, cp, gb, q, hP0⟩ := hp
    exact hP _ ys Pc H cp (gb.ext rfl (allBare_setGen gb.2.1 rfl) hk) q hP0
def okB : List V → V → Hp → Prop := fun _ y _ => ∃ b, y = .bl b
section
variable {X : Cx} {R P : Addr} {k : Nat} {elt tg iter : Expr} {ifs : List Expr} {scope : Scope} {own : List (Str × Nat)} {gpos p pos : Pos} {wi : TI} {g : TG} {tt : TT} {te : TE}
/-- how the generator's own parts are read -/
structure GxOk (X : Cx) (k : Nat) (R P : Addr) (elt tg iter : Expr) (ifs : List Expr) (scope : Scope) (own : List (Str × Nat)) (wi : TI) (g : TG) (tt : TT) (te : TE) : Prop where
  hc : X.calm = true
  hN : X.N.Nodup
  hr : Room (k + 2) X.A
  CO : CodeOk X R P
  ok : BlkOk X.N X.env.scope scope own
  hcell : ∀ y ∈ scope.names, y.2 ≠ .cell
  hdot : scope.names.lookup (".0" : Str) = some NameKind.local
  hco : scope.isCoroutine = false
  hi : PI X tg iter wi
  hg : ∀ (s : Shared) (H : Hp) (cl : List (Str × Addr)) (C : Addr) (cd : Value) (A : Around) (fp : List Addr) (pn : List (Addr × Obj)), PG (X.gx s H (genEnv scope cl C cd builtinsNs X.env) A fp pn) tg g
  ht : ∀ (s : Shared) (H : Hp) (cl : List (Str × Addr)) (C : Addr) (cd : Value) (A : Around) (fp : List Addr) (pn : List (Addr × Obj)) (P' : Addr), InOk H R cd P' → Room k A → PTs (X.gx s H (genEnv scope cl C cd builtinsNs X.env) A fp pn) ifs tt
  he : ∀ (s : Shared) (H : Hp) (cl : List (Str × Addr)) (C : Addr) (cd : Value) (A : Around) (fp : List Addr) (pn : List (Addr × Obj)) (P' : Addr), InOk H R cd P' → Room k A → PE (X.gx s H (genEnv scope cl C cd builtinsNs X.env) A fp pn) elt te
  hs : ∀ v, genFold iter X.env v = pure v
theorem GxOk.make {pins : List (Addr × Obj)} {σ : L2.St} {H : Hp} {s : Shared} {okY : List V → V → Hp → Prop} {stp : V → Bool} {QE : List V → Hp → Prop} (G : GxOk X k R P elt tg iter ifs scope own wi g tt te) (I : Inv X pins σ H s) (h : tGx R P wi g tt te (own.map (·.2)) okY stp QE σ H) :
    wpAny (model X.prog X.w) X.A (eval (.GeneratorExp elt [⟨tg, iter, ifs, 0⟩] scope gpos) X.env) (GMadeX X k pins σ okY stp QE) X.xe s :=
  gx_make G.hc G.hN G.hr.hd (by have := G.hr.dp; omega) G.CO G.ok G.hcell G.hdot G.hco G.hi G.hg G.ht G.he G.hs I h
theorem room2 {A : Around} (r : Room (k + 2) A) : Room (k + 1) A.in1.in1 := ⟨r.hd, by have := r.dp; show A.depth + 3 * (k + 1) + 5 < _; omega, by have := r.un; show A.units + 1 + 1 + 16 * (k + 1) + 200 < _; omega⟩
end
end VL
end
section
set_option autoImplicit false
set_option maxRecDepth 100000
set_option maxHeartbeats 2000000
namespace VL
open PySem PySem.Spec PyProof.Rows L2 GenW GxR
def cpL (S : Addr) : CPt := fun ys P => ∃ acc c, P = [(S, lstObj acc c)] ∧ Vals ys acc.toList
def okL : List V → V → Hp → Prop := fun ys _ _ => ys.length < sizeLine
def goOn : V → Bool := fun _ => false
theorem ext_loop {P : Program} {w : World} {A : Around} {R : Result → Shared → Prop} {X : Cx} {s4 : Shared} {H4 : Hp} {fp : List Addr} {S a : Addr} {g : Nat} {QE : List V → Hp → Prop} {res : Value} (hh : A.handled = none) (hroom : A.depth < recursionLimit) (hSa : S ≠ a) (hSc : S ≠ cStatics)
    (hR : ∀ (s' : Shared) (ys : List V) (acc : Array Value) (c : Nat) (H : Hp), GBo X s4 H4 fp a g [(S, lstObj acc c)] H s' → Vals ys acc.toList → QE ys H → R (.ok (.ret res)) s') :
    ∀ (n : Nat) (s : Shared), s.heap.IsGen a g → s.heap.NoLimit →
      (∃ gs, s.gens[g]? = some gs ∧ gs.Goes (model P w) A.in1.in1 (GXR (GBo X s4 H4 fp a g) (cpL S) QE) (GXY (GBo X s4 H4 fp a g) (cpL S) okL goOn QE) n (.send .none) (s.setGen g .running)) →
      codeAny (model P w) A (.builtin "list.extend.loop" ⟨[.ref S, .ref a, res], []⟩) R s := by
  intro n
  induction n using Nat.strongRecOn with
  | ind n ih =>
    intro s hg hl ⟨gs, hgs, hgo⟩
    refine codeAny_builtin F.entry_extend_loop ?_
    rw [Around.under_plainId F.plain_extend_loop _]
    show wpAny _ A.in1 (pyNext (.ref a) >>= _) _ _ s
    refine wpAny_bind (gx_pull (A := A.in1) hh hroom hl hg hgs hgo (fun v s' gs' ys y Pc H rv cp gb hgs' oky _ q1 q2 => ?_) fun s' ys Pc H cp gb q _ => ?_)
    · obtain ⟨acc, c, rfl, rl⟩ := cp
      have hS1 : s'.heap.get? S = some (lstObj acc c) := (gb.2.2.2.2.2.2 (S, lstObj acc c) (List.mem_singleton.mpr rfl)).1
      have hasz : acc.size < sizeLine := by
        have e1 := rl.length
        have e2 : acc.toList.length = acc.size := by simp
        have e3 : ys.length < sizeLine := oky
        omega
      show wpAny _ A.in1 (updateSeq S (·.push v) >>= _) _ _ _
      refine wpAny_bind ?_
      refine wpAny_updateSeq hS1 rfl (wpAny_pure ⟨plainId_quiet F.plain_extend_loop _, ?_⟩) (Nat.le_of_lt hasz) (by show (acc.push v).size ≤ sizeLine + 1; rw [Array.size_push]; omega)
      have keep3 : ∀ b o, b ≠ S → s'.heap.get? b = some o → (s'.heap.update S (Obj.mapSeq (·.push v))).get? b = some o := fun b o hbS e => (Heap.get?_update_other _ _ (Ne.symm hbS)).trans e
      obtain ⟨_, hb1, _, _, hg1, hl1, _⟩ := gb
      obtain ⟨m, hm, go⟩ := q2 rfl [(S, lstObj (acc.push v) _)] ({ s' with heap := s'.heap.update S (Obj.mapSeq (·.push v)) }.setGen g .running) ⟨rfl, allBare_setGen hb1 rfl, fun b o hb e => keep3 b o (fun z => hb (by rw [z]; exact List.mem_singleton.mpr rfl)) e, rfl, fun p hp => by
        rw [List.mem_singleton.mp hp]
        exact ⟨Heap.get?_update_self _ hS1 rfl, fun v z => by cases z⟩⟩ ⟨acc.push v, _, rfl, by
          rw [Array.toList_push]
          exact rl.append (.cons rv .nil)⟩
      refine ih m hm { s' with heap := s'.heap.update S (Obj.mapSeq (·.push v)) } ?_ ?_ ⟨gs', hgs', go⟩
      · obtain ⟨o, nm, qn, ho, r⟩ := hg1
        exact ⟨o, nm, qn, keep3 a o (Ne.symm hSa) ho, r⟩
      · obtain ⟨mc, hns, hnn⟩ := hl1
        exact ⟨mc, hns.at' fun o e => keep3 _ o (Ne.symm hSc) e, hnn⟩
    · obtain ⟨acc, c, rfl, rl⟩ := cp
      exact wpAny_pure (hR s' ys acc c H gb rl q)
theorem collect_gx {X : Cx} {A : Around} {pins : List (Addr × Obj)} {σ : L2.St} {k : Nat} {u : Value} {s : Shared} {QE : List V → Hp → Prop} {Q : List Value → Shared → Prop} {E : Value → Shared → Prop}
    (hr : Room (k + 1) A.in1.in1) (hfr : A.frames = some X.stack) (h : GMadeX X k pins σ okL goOn QE u s)
    (hQ : ∀ (s' : Shared) (ys : List V) (acc : Array Value) (H' : Hp), Vals ys acc.toList → Inv X pins σ H' s' → QE ys H' → Q acc.toList s') : wpAny (model X.prog X.w) A (collect u) Q E s := by
  obtain ⟨a, g, c, s4, H4, fp, rfl, I4, hf, ha, hg, hgs, os, ba, hl, kp, sz, wake⟩ := h
  have hSa : s.heap.objs.size ≠ a := Nat.ne_of_gt ha
  have hcl : cStatics < s.heap.objs.size := let ⟨_, hn, _⟩ := hl; hn.lt
  have hSc : s.heap.objs.size ≠ cStatics := Nat.ne_of_gt hcl
  have hd : A.depth < recursionLimit := by
    have := hr.dp
    have e : A.in1.in1.depth = A.depth := rfl
    omega
  unfold collect
  refine wpAny_bind (wpAny_runValue (codeAny_builtin F.entry_proto_collect ?_))
  rw [Around.under_plainId F.plain_proto_collect _]
  show wpAny _ A.in1 (newList [] >>= fun l => again (.builtin "list.__iadd__" ⟨[l, .ref a], []⟩)) _ _ s
  refine wpAny_bind (wpAny_newObj_type ?_)
  refine wpAny_pure ⟨plainId_quiet F.plain_list_iadd _, codeAny_builtin F.entry_list_iadd ?_⟩
  rw [Around.under_plainId F.plain_list_iadd _]
  have k1 : ∀ b o, s.heap.get? b = some o → (s.heap.push { cls := .type "list", data := .seq ([] : List Value).toArray }).get? b = some o := fun b o e => Heap.get?_push_of_some _ e
  have gty : ∀ {h : Heap}, (∀ b o, s.heap.get? b = some o → h.get? b = some o) → h.IsGen a g := fun {h} q => hg.keeps q
  show wpAny _ A.in1 (Builtin.List.listExtendWith (.ref s.heap.objs.size) (.ref a) (.ref s.heap.objs.size)) _ _ _
  unfold Builtin.List.listExtendWith
  refine wpAny_bind (wpAny_typeOf (Heap.IsGen.typeIs (s := { s with heap := _ }) (gty k1)) ?_)
  have h1 : Builtin.List.listSameRef (.ref s.heap.objs.size) (.ref a) = false := by simp [Builtin.List.listSameRef, hSa]
  have h2 : (Value.type "generator" == Value.type "list") = false := by decide
  have h3 : (Value.type "generator" == Value.type "tuple") = false := by decide
  simp only [h1, h2, h3, Bool.or_false, Bool.false_eq_true, if_false]
  refine wpAny_bind (wpAny_pyIter_gen (s := { s with heap := _ }) (gty k1) ?_)
  refine wpAny_bind (wpAny_holding ?_)
  unfold Builtin.List.listLengthHint
  refine wpAny_bind (wpAny_specialOf (Heap.IsGen.typeIs (s := { s with heap := _ }) (gty k1)) F.gen_no_len ?_)
  show wpAny _ A.in1 (specialOf (Value.ref a) (Str.ofString "__length_hint__") >>= _) _ _ _
  refine wpAny_bind (wpAny_specialOf (Heap.IsGen.typeIs (s := { s with heap := _ }) (gty k1)) F.gen_no_hint ?_)
  refine wpAny_pure ?_
  show wpAny _ A.in1 (rule "list.extend.makes-room" >>= fun _ => Builtin.List.listTouch (.ref s.heap.objs.size) >>= fun _ =>
    again (.builtin "list.extend.loop" ⟨[.ref s.heap.objs.size, .ref a, .ref s.heap.objs.size], []⟩)) _ _ _
  refine wpAny_bind (wpAny_rule ?_)
  have hS₁ : (s.heap.push { cls := .type "list", data := .seq ([] : List Value).toArray }).get? s.heap.objs.size = some { cls := .type "list", data := .seq ([] : List Value).toArray } := Heap.get?_push_size _ rfl
  refine wpAny_bind ?_
  show wpAny _ A.in1 (updateSeq s.heap.objs.size (·.push .none) >>= fun _ => updateSeq s.heap.objs.size (·.pop)) _ _ _
  refine wpAny_bind (wpAny_updateSeq hS₁ rfl ?_)
  have hS₂ := Heap.get?_update_self (Obj.mapSeq (·.push Value.none)) hS₁ rfl
  refine wpAny_updateSeq hS₂ rfl ?_
  have hS₃ := Heap.get?_update_self (Obj.mapSeq (·.pop)) hS₂ rfl
  have oth : ∀ b o, s.heap.get? b = some o →
      (((s.heap.push { cls := .type "list", data := .seq ([] : List Value).toArray }).update s.heap.objs.size (Obj.mapSeq (·.push Value.none))).update s.heap.objs.size (Obj.mapSeq (·.pop))).get? b = some o :=
    fun b o e => have hb : b ≠ s.heap.objs.size := Nat.ne_of_lt (Heap.lt_size e)
      (Heap.get?_update_other _ _ (Ne.symm hb)).trans ((Heap.get?_update_other _ _ (Ne.symm hb)).trans (k1 b o e))
  obtain ⟨n, sg⟩ := wake A.in1.in1 (cpL s.heap.objs.size) [(s.heap.objs.size, lstObj #[] _)] ({ s with heap := _ }.setGen g .running) hr hfr (fun ys P' cp p hp => by
    obtain ⟨acc, c, rfl, _⟩ := cp
    rw [List.mem_singleton.mp hp]
    exact Nat.le_refl _) ⟨#[], _, rfl, .nil⟩ (fun p hp => by
      rw [List.mem_singleton.mp hp]
      exact ⟨hS₃, fun v z => by cases z⟩) oth rfl (allBare_setGen ba rfl)
  refine wpAny_pure ⟨plainId_quiet F.plain_extend_loop _, ext_loop (P := X.prog) (w := X.w) (A := A) (show A.handled = none from hr.hd) hd hSa hSc (fun s' ys acc c H' gb rl q => ?_) n _ (gty oth) (hl.keeps oth) ⟨_, hgs, rfl, sg⟩⟩
  show wpAny _ A (load s.heap.objs.size >>= _) _ _ s'
  refine wpAny_bind (wpAny_load (gb.2.2.2.2.2.2 _ (List.mem_singleton.mpr rfl)).1 ?_)
  exact wpAny_pure (hQ s' ys acc H' rl (gb.back I4 hf) q)
theorem GMadeX.typ {X : Cx} {k : Nat} {pins : List (Addr × Obj)} {σ : L2.St} {okY : List V → V → Hp → Prop} {stp : V → Bool} {QE : List V → Hp → Prop} {u : Value} {s : Shared} (h : GMadeX X k pins σ okY stp QE u s) : ∃ a, u = .ref a ∧ s.TypeIs (.ref a) "generator" := by
  obtain ⟨a, g, c, s4, H4, fp, rfl, I4, hf, ha, hg, _⟩ := h
  exact ⟨a, rfl, hg.typeIs⟩
theorem code_tuple_gx {X : Cx} {A : Around} {pins : List (Addr × Obj)} {σ : L2.St} {k : Nat} {I : Addr} {s : Shared} {QE : List V → Hp → Prop} {Q₁ : Value → Shared → Prop} {E : Value → Shared → Prop}
    (hr : Room (k + 1) A.in1.in1.in1) (hfr : A.frames = some X.stack) (hG : GMadeX X k pins σ okL goOn QE (.ref I) s)
    (h : ∀ (s' : Shared) (ys : List V) (acc : Array Value) (H' : Hp), Vals ys acc.toList → acc.size ≤ sizeLine → Inv X pins σ H' s' → QE ys H' → Q₁ (.ref s'.heap.objs.size) { s' with heap := s'.heap.push { cls := .type "tuple", data := .seq acc } }) (hz : ∀ ys H, QE ys H → ys.length ≤ sizeLine) :
    codeAny (model X.prog X.w) A (.call (.builtin "tuple.__new__") ⟨[.type "tuple", .ref I], []⟩) (wants Q₁ E) s := by
  refine codeAny_of_tree ?_
  show wpAny _ A.in1 (do checkBuiltinCall "tuple.__new__" ⟨[.type "tuple", .ref I], []⟩; again (.builtin "tuple.__new__" ⟨[.type "tuple", .ref I], []⟩)) _ _ s
  refine wpAny_bind (wpAny_of_eq (F.newCall_tuple_1 _) (wpAny_pure ⟨plainId_quiet F.plain_tuple_new _, codeAny_builtin F.entry_tuple_new ?_⟩))
  rw [Around.under_plainId F.plain_tuple_new _]
  have hsub := sub_tuple_self
  have hinit := init_tuple_lookup
  have hmh := madeHere_tuple
  have hTI : s.TypeIs (.ref I) "generator" := by
    obtain ⟨a, e, t⟩ := hG.typ
    cases e
    exact t
  wp_walk using wpAny_typeOf hTI, collect_gx (A := A.in1) hr hfr hG
  intro s' ys acc H' rl I' q
  have hsz : acc.size ≤ sizeLine := by
    have e1 := rl.length
    have e2 : acc.toList.length = acc.size := by simp
    have e3 := hz ys H' q
    omega
  show wpAny _ _ (Builtin.Tuple.tupleExact acc.toList.toArray >>= fun v => ret v) _ _ _
  unfold Builtin.Tuple.tupleExact
  refine wpAny_bind (wpAny_newObj_type ?_ (by show acc.toList.toArray.size ≤ sizeLine; simp only [Array.toArray_toList]; exact hsz))
  refine wpAny_pure ?_
  have e : acc.toList.toArray = acc := by simp
  rw [e]
  exact h s' ys acc H' rl hsz I' q
theorem call_tuple_gx {X : Cx} {A : Around} {pins : List (Addr × Obj)} {σ : L2.St} {k : Nat} {u : Value} {s : Shared} {QE : List V → Hp → Prop} {Q : Value → Shared → Prop} {E : Value → Shared → Prop}
    (hr : Room (k + 1) A.in1.in1.in1.in1) (hfr : A.frames = some X.stack) (hG : GMadeX X k pins σ okL goOn QE u s)
    (hQ : ∀ (s' : Shared) (ys : List V) (acc : Array Value) (H' : Hp), Vals ys acc.toList → acc.size ≤ sizeLine → Inv X pins σ H' s' → QE ys H' → Q (.ref s'.heap.objs.size) { s' with heap := s'.heap.push { cls := .type "tuple", data := .seq acc } }) (hz : ∀ ys H, QE ys H → ys.length ≤ sizeLine) :
    wpAny (model X.prog X.w) A (call (.type "tuple") [u]) Q E s := by
  obtain ⟨a, rfl, _⟩ := hG.typ
  refine callType_codes (Q₁ := fun obj s₁ => s₁.TypeIs obj "tuple" ∧ Q obj s₁) F.called_tuple (F.typeCall_tuple_1 _) F.entry_object_init
    (code_tuple_gx hr hfr hG (fun s' ys acc H' rl hsz I' q => ⟨⟨_, Heap.get?_push_size _ rfl, rfl⟩, hQ s' ys acc H' rl hsz I' q⟩) hz) fun obj s₁ h₁ => ?_
  exact ⟨h₁.1, F.args_object_init_2 obj _, object_init_meets F.called_tuple.init.lookup F.called_tuple.made (by decide) X.prog X.w A.in1 _ s₁ ⟨h₁.1, rfl, h₁.2⟩⟩
def tGTup (R P : Addr) (wi : TI) (g : TG) (tt : TT) (te : TE) (vs : List Nat) : TE := fun σ H Q => tGx R P wi g tt te vs okL goOn (fun ys H' => ys.length ≤ sizeLine ∧ ∀ p, H' p = none → Q (.ref p) (upd H' p (.tup ys))) σ H
theorem pe_gtup {X : Cx} {R P : Addr} {k : Nat} {elt tg iter : Expr} {ifs : List Expr} {scope : Scope} {own : List (Str × Nat)} {gpos p pos : Pos} {wi : TI} {g : TG} {tt : TT} {te : TE} (G : GxOk X k R P elt tg iter ifs scope own wi g tt te) (hgl : Gl X "tuple") (hm : X.mg "tuple" = none)
    (hst : starEach [.GeneratorExp elt [⟨tg, iter, ifs, 0⟩] scope gpos] X.env = (false, eval (.GeneratorExp elt [⟨tg, iter, ifs, 0⟩] scope gpos) X.env) :: starEach [] X.env := by rfl) :
    PE X (.Call (.Name "tuple" p) [.GeneratorExp elt [⟨tg, iter, ifs, 0⟩] scope gpos] [] pos) (tGTup R P wi g tt te (own.map (·.2))) := by
  refine ⟨fun pins s σ H Q I h => ?_⟩
  refine wpAny_Call_Name_kw (ld_blt I hgl hm boot_tuple ?_)
  refine PyProof.Rows.callWith_type1 ?_ hst (by rfl)
  rw [hst]
  show wpAny _ _ (spliced ((false, eval (.GeneratorExp elt [⟨tg, iter, ifs, 0⟩] scope gpos) X.env) :: backTo pos (starEach [] X.env))) _ _ s
  refine Calls.spliced_cons (thn (G.make I h) fun u s5 hG => ?_)
  refine Calls.spliced_nil ?_
  have hr4 : Room (k + 1) X.A.in1.in1.in1.in1 := ⟨G.hr.hd, by have := G.hr.dp; show X.A.depth + 3 * (k + 1) + 5 < _; omega, by have := G.hr.un; show X.A.units + 1 + 1 + 1 + 1 + 16 * (k + 1) + 200 < _; omega⟩
  refine call_tuple_gx hr4 I.ok.frames hG (fun s' ys acc H' rl hsz I' q => ?_) fun ys H' q => q.1
  have hf : H' s'.heap.objs.size = none := I'.hok.fresh (Nat.le_refl _)
  refine ⟨.ref s'.heap.objs.size, upd H' s'.heap.objs.size (.tup ys), I'.laid (t' := s'.toks) (fun b u e => Heap.get?_push_of_some _ e) (Nat.le_refl _) ⟨q.1, acc.toList, rl, by
    have e : acc.toList.toArray = acc := by simp
    rw [e]
    exact IsTup.new _ _⟩, rfl, q.2 _ hf⟩
end VL
end
section
set_option autoImplicit false
set_option maxRecDepth 100000
set_option maxHeartbeats 2000000
namespace VL
open PySem PySem.Spec PyProof.Rows L2 GenW GxR
def wGx (wi : WN) (g : WG) (tt : WT) (te : WE) (vs : List Nat) (okd : List D → D → Prop) (stp : D → Bool) : WN := fun ρ P => wi ρ fun ds ρ1 => ∃ W : Nat → List D → En → Prop, W 0 [] (wipeE ρ1 vs) ∧
  (∀ i acc ρ d, W i acc ρ → ds[i]? = some d → g d ρ fun ρ2 => tt ρ2 fun b ρ3 => if b = true then te ρ3 fun c ρ4 => ∃ y, c = .d y ∧ okd acc y ∧ (if stp y = true then P (acc ++ [y]) (wipeE ρ4 vs) else W (i + 1) (acc ++ [y]) (wipeE ρ4 vs)) else W (i + 1) acc (wipeE ρ3 vs)) ∧
  ∀ acc ρ, W ds.length acc ρ → P acc ρ
/-- the table has grown -/
theorem Sv.tabbed {K : Fg} {as : As} {Z : Hp} {ρ : En} {σ : L2.St} {B H H2 : Hp} {P : Addr} (S : Sv K as Z ρ σ B H) (g : Grown P H H2) : ∃ B2, ExT B B2 ∧ Sv K as Z ρ σ B2 H2 := by
  obtain ⟨off, ps, ps2, e1, e2, tr, hc⟩ := id g
  have nP : ¬ Ow ρ σ P := fun w => by
    obtain ⟨_, o, e, t, _⟩ := S.ow w
    rw [e1] at e
    cases e
    cases t
  have zP : Z P = none := by
    cases z : Z P with
    | none => rfl
    | some o =>
      obtain ⟨h1, _, _, h4⟩ := S.hid P o z
      rw [e1] at h1
      cases h1
      rcases h4 with ⟨_, h⟩ | ⟨_, h⟩ | ⟨_, h⟩ <;> cases h
  have bP : B P = some (.tbl ps) := by rw [← S.off P nP zP]; exact e1
  obtain ⟨B2, new, at0, stay'⟩ : ∃ B2 : Hp, (∀ a, H a = none → B2 a = H2 a) ∧ B2 P = some (.tbl ps2) ∧ ∀ a o, a ≠ P → H a = some o → B2 a = B a :=
    ⟨fun a => match H a with | none => H2 a | some _ => if a = P then H2 P else B a, fun a n => by dsimp only; rw [n], by dsimp only; rw [e1]; dsimp only; rw [if_pos rfl, e2], fun a o n e => by dsimp only; rw [e]; dsimp only; rw [if_neg n]⟩
  have stay : ∀ a o, a ≠ P → B a = some o → B2 a = some o := fun a o n e => (stay' a o n (S.sub e)).trans e
  have gB : Grown P B B2 := ⟨stay, ps, ps2, bP, at0, tr, fun pos v e => (hc pos v e).imp id fun ⟨c, Q, o, a1, a2, a3, a4, a5, a6, a7⟩ => ⟨c, Q, o, a1, a2, (new c a6).trans a3, a4, (new Q a7).trans a5, S.free a6, S.free a7⟩⟩
  have x : ExT B B2 := ⟨fun a o h n => stay a o (fun z => by
    rw [z, bP] at h
    cases h
    cases n) h, fun Q h => gB.tab h⟩
  refine ⟨B2, x, S.grow x (fun a w => ?_) fun a w wz => ?_⟩
  · have q : ∃ o, H a = some o ∧ isTbl o = false ∧ B a = none := by
      rcases w with w | w
      · obtain ⟨b, o, e, t, _⟩ := S.ow w
        exact ⟨o, e, t, b⟩
      · cases q : Z a with
        | none => exact (w q).elim
        | some o =>
          obtain ⟨h1, h2, _, h4⟩ := S.hid a o q
          refine ⟨o, h1, ?_, h2⟩
          rcases h4 with ⟨_, h⟩ | ⟨_, h⟩ | ⟨_, h⟩ <;> (rw [h]; rfl)
    obtain ⟨o, e, t, b⟩ := q
    have na : a ≠ P := fun z => by
      rw [z, e1] at e
      cases e
      cases t
    exact ⟨(stay' a o na e).trans b, (off a o na e).trans e.symm⟩
  · cases q : H a with
    | none => exact (new a q).symm
    | some o =>
      by_cases z : a = P
      · rw [z, at0, e2]
      · have b : B a = some o := by rw [← S.off a w wz, q]
        rw [stay a o z b]
        exact off a o z q
theorem up_gx {K : Fg} {as : As} {R P : Addr} {wi : WN} {g : WG} {gt : TG} {sl vs : List Nat} {tt : WT} {te : WE} {tt' : TT} {okd : List D → D → Prop} {stp : D → Bool} {okY : List V → V → Hp → Prop} {stpV : V → Bool} (htt : ∀ σ H Q, upT K as tt σ H Q → tt' σ H Q)
    (fg : GOk K as gt g sl) (hsl : ∀ j ∈ sl, j ∈ vs) (hP : R ∈ as.2.1) (hok : ∀ {B H : Hp} {xs : List V} {acc : List D} {v : V} {y : D}, DqAll K B xs acc → Dq K B v y → okd acc y → okY xs v H ∧ stpV v = stp y)
    {σ : L2.St} {H : Hp} {QE : List V → Hp → Prop} (h : ∃ Z ρ B Pk, Sv K as Z ρ σ B H ∧ wGx wi g tt te vs okd stp ρ Pk ∧ ∀ acc ρ' xs B' H', Pk acc ρ' → ExT B B' → Sv K as Z ρ' σ B' H' → DqAll K B' xs acc → QE xs H') :
    tGx R P (upI K as wi) gt tt' (up K as te) vs okY stpV QE σ H := by
  obtain ⟨Z, ρ, B, Pk, S, h, k⟩ := h
  refine ⟨Z, ρ, B, _, S, h, fun ds ρ1 B1 H1 J h1 x1 S1 wk => ?_⟩
  obtain ⟨W, w0, turn, fin⟩ := h1
  refine ⟨S1.ext.tabs R (S1.tab R hP), fun H2 htb => ?_⟩
  obtain ⟨B1', xb, S1'⟩ := S1.tabbed htb
  have wk : Wk K J B1' ds := ⟨fun i B2 H3 x s l => wk.go i B2 H3 (xb.trans x) s l, fun i B2 H3 x s l => wk.stop i B2 H3 (xb.trans x) s l, fun i B2 H3 v H' x s l y => wk.yld i B2 H3 v H' (xb.trans x) s l y⟩
  obtain ⟨B2, x2, S2⟩ := S1'.wiped vs (σ' := wipe σ vs) wipe_wipe.symm
  have back : ∀ {ρ0 : En} {B' H' : Hp}, Sv K as Z (wipeE ρ0 vs) (wipe σ vs) B' H' → Sv K as Z (wipeE ρ0 vs) σ B' H' := fun {ρ0 B' H'} S => S.irr (by rw [wipe_length]) fun i c e n => by
    rw [wipe_at (wipeE_at e n).1]
  refine ⟨fun i m xs H => i + m = ds.length ∧ ∃ ρ B' acc, (∃ ρ0, ρ = wipeE ρ0 vs) ∧ ExT B1' B' ∧ Sv K as Z ρ (wipe σ vs) B' H ∧ DqAll K B' xs acc ∧ W i acc ρ, ⟨ds.length, by omega, _, B2, [], ⟨_, rfl⟩, x2, S2, .nil, w0⟩, fun i m xs H ⟨hn, ρ, B', acc, ⟨ρ0, eρ⟩, x, S, r, hw⟩ => ?_⟩
  by_cases l : i < ds.length
  · refine .inr ⟨by omega, wk.go i B' H x S.subE l, fun xs' H' => ∃ ρ B' acc, (∃ ρ0, ρ = wipeE ρ0 vs) ∧ ExT B1' B' ∧ Sv K as Z ρ (wipe σ vs) B' H' ∧ DqAll K B' xs' acc ∧ W (i + 1) acc ρ, fun xs' H' hN => ⟨m - 1, by omega, by omega, hN⟩, fun v H' y => ?_⟩
    obtain ⟨d, B3, hd, al, dq⟩ := wk.yld i B' H v H' x S.subE l y
    obtain ⟨S3, x3⟩ := S.alc al
    refine fg _ ρ _ B3 H' v d _ _ S3 dq (turn i acc ρ d hw hd) fun ρ4 σ4 B4 H4 h4 x4 S4 o4 => ?_
    have weq : wipe σ4 vs = wipe σ vs := (wipe_eq o4.1 fun j hj => o4.2 j fun z => hj (hsl j z)).trans wipe_wipe
    refine ⟨weq, htt _ _ _ ⟨_, ρ4, B4, _, S4, h4, fun b ρ5 B5 H5 h5 x5 S5 => ?_⟩⟩
    have xx : ExT B' B5 := (x3.trans x4).trans x5
    cases b with
    | true =>
      rw [if_pos rfl] at h5
      refine iteT ?_
      refine ⟨_, ρ5, B5, _, S5, h5, fun c ρ6 v6 B6 H6 h6 x6 S6 o6 => ?_⟩
      obtain ⟨y, rfl, hok6, hW⟩ := h6
      have o6' : Dq K B6 v6 y := o6
      have r6 := DqAll.ext (xx.trans x6) r
      obtain ⟨ok1, ok2⟩ := hok (H := H6) r6 o6' hok6
      obtain ⟨B8, x8, S8⟩ := S6.wiped vs (σ' := wipe σ vs) (weq.trans wipe_wipe.symm)
      have r8 := DqAll.ext x8 (DqAll.app r6 (.cons o6' .nil))
      have x9 := ((x.trans xx).trans x6).trans x8
      refine ⟨ok1, ?_⟩
      rw [ok2]
      by_cases hs : stp y = true
      · rw [if_pos hs] at hW ⊢
        exact k _ _ _ B8 H6 hW ((x1.trans xb).trans x9) (back S8) r8
      · rw [if_neg hs] at hW ⊢
        exact ⟨_, B8, acc ++ [y], ⟨_, rfl⟩, x9, S8, r8, hW⟩
    | false =>
      rw [if_neg Bool.false_ne_true] at h5
      refine iteF ?_
      obtain ⟨B8, x8, S8⟩ := S5.wiped vs (σ' := wipe σ vs) (weq.trans wipe_wipe.symm)
      exact ⟨_, B8, acc, ⟨_, rfl⟩, (x.trans xx).trans x8, S8, DqAll.ext (xx.trans x8) r, h5⟩
  · have e : i = ds.length := by omega
    subst e
    subst eρ
    exact .inl ⟨wk.stop _ B' H x S.subE (Nat.le_refl _), k acc _ xs B' H (fin acc _ hw) ((x1.trans xb).trans x) (back S) r⟩
def okLd : List D → D → Prop := fun acc _ => acc.length < sizeLine
theorem ok_tup {K : Fg} {B H : Hp} {xs : List V} {acc : List D} {v : V} {y : D} (r : DqAll K B xs acc) (_ : Dq K B v y) (h : okLd acc y) : okL xs v H ∧ goOn v = false := by
  have l := r.len
  exact ⟨by show xs.length < sizeLine; have h' : acc.length < sizeLine := h; omega, rfl⟩
/-- tuple(elt for tg in iter if ..) -/
def wGTup (wi : WN) (g : WG) (tt : WT) (te : WE) (vs : List Nat) : WE := fun ρ P => wGx wi g tt te vs okLd (fun _ => false) ρ fun acc ρ' => acc.length ≤ sizeLine ∧ P (.d (.tuple acc)) ρ'
section
variable {X : Cx} {as : As} {R P : Addr} {k : Nat} {elt tg iter : Expr} {ifs : List Expr} {scope : Scope} {gpos p pos : Pos} {wi : WN} {g : WG} {sl : List Nat} {tt : WT} {te : WE}
/-- a def with generator expressions: its code, the table -/
structure GxT (X : Cx) (as : As) (R P : Addr) : Prop where
  hP : R ∈ as.2.1
  CO : CodeOk X R P
theorem gxt0 {X : Cx} {as : As} {c P : Addr} (hP : P ∈ as.2.1) (TB : TabB X.base X.mg c P) (hc : X.env.code = .ref c) : GxT X as P P := ⟨hP, .top TB hc⟩
theorem gxtI {X : Cx} {as : As} {R P : Addr} (hP : R ∈ as.2.1) (bm : X.base.BuiltinsAt X.mg R) (hin : InOk X.H_0 R X.env.code P) : GxT X as R P := ⟨hP, .inn bm hin⟩
def scC (scope : Scope) : Bool := (scope.names.all fun y => match y.2 with
  | .cell => false
  | _ => true) && (match scope.names.lookup (".0" : Str) with
  | some .local => true
  | _ => false) && !scope.isCoroutine
theorem scC_cell (h : scC scope = true) : ∀ y ∈ scope.names, y.2 ≠ .cell := fun y hy e => by
  unfold scC at h
  simp only [Bool.and_eq_true, List.all_eq_true] at h
  have := h.1.1 y hy
  rw [e] at this
  cases this
theorem scC_dot (h : scC scope = true) : scope.names.lookup (".0" : Str) = some NameKind.local := by
  unfold scC at h
  simp only [Bool.and_eq_true] at h
  have := h.1.2
  split at this
  · assumption
  · cases this
theorem scC_co (h : scC scope = true) : scope.isCoroutine = false := by
  unfold scC at h
  simp only [Bool.and_eq_true, Bool.not_eq_true'] at h
  exact h.2
theorem gx_ok (vs : List (Str × Nat)) (hc : X.calm = true) (hN : X.N.Nodup) (hr : Room (k + 2) X.A) (T : GxT X as R P) (hi : PI X tg iter (upI X.K as wi))
    (hg : ∀ (s : Shared) (H : Hp) (cl : List (Str × Addr)) (C : Addr) (cd : Value) (A : Around) (fp : List Addr) (pn : List (Addr × Obj)), PG (X.gx s H (genEnv scope cl C cd builtinsNs X.env) A fp pn) tg (gU X.K as g sl))
    (ht : ∀ (s : Shared) (H : Hp) (cl : List (Str × Addr)) (C : Addr) (cd : Value) (A : Around) (fp : List Addr) (pn : List (Addr × Obj)) (P' : Addr), InOk H R cd P' → Room k A → PTs (X.gx s H (genEnv scope cl C cd builtinsNs X.env) A fp pn) ifs (upT X.K as tt))
    (he : ∀ (s : Shared) (H : Hp) (cl : List (Str × Addr)) (C : Addr) (cd : Value) (A : Around) (fp : List Addr) (pn : List (Addr × Obj)) (P' : Addr), InOk H R cd P' → Room k A → PE (X.gx s H (genEnv scope cl C cd builtinsNs X.env) A fp pn) elt (up X.K as te))
    (ok : BlkOk X.N X.env.scope scope vs) (hsc : scC scope = true) (hs : ∀ v, genFold iter X.env v = pure v) : GxOk X k R P elt tg iter ifs scope vs (upI X.K as wi) (gU X.K as g sl) (upT X.K as tt) (up X.K as te) :=
  ⟨hc, hN, hr, T.CO, ok, scC_cell hsc, scC_dot hsc, scC_co hsc, hi, hg, ht, he, hs⟩
theorem vgtup (vs : List (Str × Nat)) (hm : X.mg "tuple" = none) (hc : X.calm = true) (hN : X.N.Nodup) (hr : Room (k + 2) X.A) (T : GxT X as R P) (hi : PI X tg iter (upI X.K as wi))
    (hg : ∀ (s : Shared) (H : Hp) (cl : List (Str × Addr)) (C : Addr) (cd : Value) (A : Around) (fp : List Addr) (pn : List (Addr × Obj)), PG (X.gx s H (genEnv scope cl C cd builtinsNs X.env) A fp pn) tg (gU X.K as g sl))
    (ht : ∀ (s : Shared) (H : Hp) (cl : List (Str × Addr)) (C : Addr) (cd : Value) (A : Around) (fp : List Addr) (pn : List (Addr × Obj)) (P' : Addr), InOk H R cd P' → Room k A → PTs (X.gx s H (genEnv scope cl C cd builtinsNs X.env) A fp pn) ifs (upT X.K as tt))
    (he : ∀ (s : Shared) (H : Hp) (cl : List (Str × Addr)) (C : Addr) (cd : Value) (A : Around) (fp : List Addr) (pn : List (Addr × Obj)) (P' : Addr), InOk H R cd P' → Room k A → PE (X.gx s H (genEnv scope cl C cd builtinsNs X.env) A fp pn) elt (up X.K as te))
    (ok : BlkOk X.N X.env.scope scope vs) (hsc : scC scope = true) (hsl : ∀ j ∈ sl, j ∈ vs.map (·.2)) (hgl : Gl X "tuple" := by rfl) (hs : ∀ v, genFold iter X.env v = pure v := by intro _; rfl)
    (hst : starEach [.GeneratorExp elt [⟨tg, iter, ifs, 0⟩] scope gpos] X.env = (false, eval (.GeneratorExp elt [⟨tg, iter, ifs, 0⟩] scope gpos) X.env) :: starEach [] X.env := by rfl) :
    PE X (.Call (.Name "tuple" p) [.GeneratorExp elt [⟨tg, iter, ifs, 0⟩] scope gpos] [] pos) (up X.K as (wGTup wi g tt te (vs.map (·.2)))) := by
  refine pe_imp (pe_gtup (gx_ok vs hc hN hr T hi hg ht he ok hsc hs) hgl hm hst) fun σ H Q ⟨Z, ρ, B, Pk, S, h, kk⟩ => ?_
  refine up_gx (fun _ _ _ h => h) gU_ok hsl T.hP (fun {_ _ _ _ v _} r o h => ok_tup (v := v) r o h) ⟨Z, ρ, B, _, S, h, fun acc ρ' xs B' H' h1 x1 S1 r => ?_⟩
  have rl := r.len
  refine ⟨by have := h1.1; omega, fun p hp => ?_⟩
  exact kk _ _ _ _ _ h1.2 (x1.trans (.new (S1.free hp))) (S1.al hp) (.tup (.inl (.inl upd_same)) (DqAll.ext (.new (S1.free hp)) r))
end
end VL
end
section
set_option autoImplicit false
set_option maxRecDepth 100000
set_option maxHeartbeats 2000000
namespace VL
open PySem PySem.Spec PyProof.Rows L2 GxR
structure GxD (base : Heap) (mg : Str → Option Value) (ts : List Addr) (cdv : Value) (c P : Addr) : Prop where
  hP : P ∈ ts
  TB : TabB base mg c P
  hc : cdv = .ref c
/-- a def of the text, its code object told -/
structure FunC (K : Fg) (x qual : Str) (st : Stmt) (f : Addr) (fd : FuncData) (cdv : Value) : Prop where
  ex : ∃ (oc : Value) (od : Option Addr) (kV doc pm : Value) (an : Option Addr) (ct : Value) (osl : Array (Option Value)),
    fd = PySem.W.fnOf x qual (defArgs st) (defBody st) (defScope st) .none kV doc pm an cdv ct ∧ K.lookup f = some ⟨oc, od, .func fd, osl⟩ ∧ PySem.W.codeIn K cdv qual = true
section
variable {P : Program} {w : World} {K : Fg} {mg : Str → Option Value} {base : Heap}
theorem fnVC {x qual : Str} {st : Stmt} {f : Addr} {fd : FuncData} {cdv : Value} {N ps : List Str} {k n : Nat} {t : WS} {S : Spec} {ts : List Addr} (F : FunC K x qual st f fd cdv) (Sc : FnScope N ps (defScope st)) (hn : ps.length = n) (hN : n ≤ N.length)
    (hbody : ∀ (A : Around) (outer : List PySem.Env) (s : Shared) (H : Hp) (E : XK) (as : List (Option V)), Room k (A.deeper (envOfC qual (defScope st) s.heap.objs.size f cdv)) →
      PSs (cxOf CX0 P w K mg base N qual (defScope st) f cdv A outer s H E).nox (defBody st) (upS K (as, ts, nW) t))
    (hS : ∀ ρ Q, S ρ Q → t (endsV n Q) (ρ ++ List.replicate (N.length - n) .un)) : FnOk P w K mg base CX0 (k + 1) f fd ps (spV K ts n S) := by
  obtain ⟨oc, od, kV, doc, pm, an, ct, osl, rfl, lk, hcd⟩ := F.ex
  refine fn_of lk hcd Sc (fun vs H Q E h => h.1.trans hn.symm) fun A outer s H vs Q E hr h => ?_
  obtain ⟨hl, ρ, B, R, Sv0, hs, kd, kn⟩ := h
  have start_eq : start N vs = vs.map some ++ List.replicate (N.length - n) none := by rw [← hl]; rfl
  refine ⟨_, (hbody A outer s H E (start N vs) hr).nox, ?_⟩
  have S1 : Sv K (start N vs, ts, nW) noH (ρ ++ List.replicate (N.length - n) .un) (start N vs) B H := by
    rw [start_eq]
    exact Sv0.begin _
  have asl : n ≤ (start N vs).length := by
    rw [start_eq, List.length_append, List.length_map]
    omega
  have ast : (start N vs).take n = vs.map some := by
    rw [start_eq, List.take_append_of_le_length (by rw [List.length_map]; omega), List.take_of_length_le (by rw [List.length_map]; omega)]
  refine ⟨noH, _, B, endsV n R, S1, hS ρ R hs, ⟨fun ρ' σ' B' H' h1 x1 S' => ?_, fun c ρ' σ' v B' H' h1 x1 S' o1 => ?_, fun ds ρ' σ' p xs B' H' h1 x1 S' hp r => ?_, fun _ _ _ _ h1 _ _ => h1.elim, fun _ _ _ _ h1 _ _ => h1.elim, fun _ _ _ _ _ _ _ h1 _ _ _ => h1.elim⟩⟩
  · obtain ⟨B2, e2, S2⟩ := S'.back n asl
    rw [show (start N vs, ts, nW).1.take n = vs.map some from ast] at S2
    exact kd .none _ .non B2 H' h1 (x1.trans e2) S2 .non
  · cases c with
    | d y =>
      obtain ⟨B2, e2, S2⟩ := S'.back n asl
      rw [show (start N vs, ts, nW).1.take n = vs.map some from ast] at S2
      exact kd y _ v B2 H' h1 (x1.trans e2) S2 (Dq.ext e2 o1)
    | loc i =>
      unfold endsV at h1
      dsimp only at h1
      split at h1
      · rename_i ds q
        obtain ⟨p, xs, H0, a1, S2, a2, a3, a4⟩ := S'.pull q
        have e := a1.symm.trans o1
        cases e
        obtain ⟨B2, e2, S3⟩ := S2.back n asl
        rw [show (start N vs, ts, nW).1.take n = vs.map some from ast] at S3
        rw [a3]
        exact kn ds _ p xs B2 H0 h1 (x1.trans e2) S3 a2 (DqAll.ext e2 a4)
      · exact h1.elim
  · obtain ⟨B2, e2, S2⟩ := S'.back n asl
    rw [show (start N vs, ts, nW).1.take n = vs.map some from ast] at S2
    exact kn ds _ p xs B2 H' h1 (x1.trans e2) S2 hp (DqAll.ext e2 r)
end
/-- the code of a def whose table is told -/
theorem tab_cd {K : Fg} {x : Str} {f c P : Addr} {oc : Value} {od : Option Addr} {fd : FuncData} {osl : Array (Option Value)} (a : PySem.W.nsIn K mainGlobals x = some (some (.ref f))) (l : K.lookup f = some ⟨oc, od, .func fd, osl⟩) (t : PySem.W.tabIn K x = some (c, P)) : fd.code = .ref c := by
  unfold PySem.W.tabIn at t
  rw [a] at t
  dsimp only at t
  rw [l] at t
  dsimp only at t
  split at t
  · rename_i c' hc
    split at t
    · split at t
      · cases t
        exact hc
      · cases t
    · cases t
  · cases t
theorem tab_mk {K : Fg} {x : Str} {f c P : Addr} {oc : Value} {od : Option Addr} {osl : Array (Option Value)} {name qual : Str} {params : Arguments} {body : List Stmt} {scope : Scope} {dV kV doc pm cdv ct : Value} {an : Option Addr} {ve : Value} {vd : Option Addr} {vv : Array Value} {vs : Array (Option Value)}
    (a : PySem.W.nsIn K mainGlobals x = some (some (.ref f))) (l : K.lookup f = some ⟨oc, od, .func (PySem.W.fnOf name qual params body scope dV kV doc pm an cdv ct), osl⟩) (e : cdv = .ref c) (m : K.lookup c = some ⟨ve, vd, .fields vv, vs⟩) (v : vv[11]? = some (.ref P)) : PySem.W.tabIn K x = some (c, P) := by
  unfold PySem.W.tabIn
  rw [a]
  dsimp only
  rw [l]
  dsimp only
  rw [e]
  dsimp only
  rw [m]
  dsimp only
  rw [v]
/-- the law's head with tables -/
theorem walk_ofG {l : PySem.W.OpenLaw} {n k : Nat} {q : Program} {loose : List Str} {XP : (Str → Option Value) → Heap → Prop} {YP : World → Heap → Prop} {d : DefRec} {K : Params → Fg} {x : Str} {xs : List Str} {S : VL.Spec}
    (hn : l.most = some n) (hn2 : n ≤ sizeLine) (hdf : d.params.defaults = []) (hr : Room k callerA) (hrec : (xs.all fun y => ((recsOf q).find? fun e => e.name == y).isSome) = true) (hY : ∀ (w : World) (h : Heap), YP w h → (K w.params).In h)
    (F : ∀ (w : World) (mg : Str → Option Value) (fa : Addr) (h : Heap), (K w.params).In h → h.Ns mainGlobals mg → mg d.name = some (.ref fa) →
      ∃ (cs : List (Addr × Addr)) (fd : FuncData), (∀ p ∈ cs, (∃ y ∈ xs, PySem.W.tabIn (K w.params) y = some p) ∧ (K w.params).lookup p.2 = none) ∧ (∀ (s : Shared) (u : Value), BindsTo s fd ⟨[u], []⟩ [(x, u)]) ∧
        ∀ base : Heap, (K w.params).In base → base.Ns mainGlobals mg → (∀ p ∈ cs, TabB base mg p.1 p.2) → FnOk l.prog w (K w.params) mg base CX0 k fa fd [x] (spV (K w.params) (cs.map (·.2)) 1 S))
    (top : ∀ ns : List Int, ns.length ≤ n → S [.dat (.list (ns.map .int))] fun rv _ => rv = .d (.bool true)) :
    PySem.W.WalkO q loose XP YP l.row.toRowW d [] (fun f vs => PySem.call f vs) := by
  refine Att.attach_callB hn hdf fun w s₀ s₁ mg mb fa o pm cd doc a vs ns G Y ho hd hcd hmg hobj hints hlen hbits hg => ?_
  have KX := hY w _ Y
  obtain ⟨cs, fd, hcs, hb, hF⟩ := F w mg fa _ KX G.T.g hmg
  have tb : ∀ p ∈ cs, PySem.W.CodeHd s₁.heap p.1 p.2 ∧ s₁.heap.get? p.2 = some { cls := .none, data := .fields #[] } := fun p hp => by
    obtain ⟨⟨y, hy, ht⟩, _⟩ := hcs p hp
    have hq := List.all_eq_true.mp hrec y hy
    obtain ⟨dd, hdd⟩ := Option.isSome_iff_exists.mp hq
    exact PySem.W.tab_of G.T KX hdd ht
  refine LamX.law_callTs (cs := cs) (sp := spV (K w.params) (cs.map (·.2)) 1 S) KX G.T.g G.T.b G.T.builtins G.T.nolimit hg (fun p hp => (tb p hp).2) (fun p hp => (hcs p hp).2) (fun p hp => (tb p hp).1) G.T.bmain hobj hints (Nat.le_trans hlen hn2) hr (CX := CX0) (fun base h1 h2 h3 => hF base h1 h2 fun p hp => ⟨(h3 p hp).code, (h3 p hp).bm, (h3 p hp).gP⟩) hb (fun H hH hS => ?_) fun _ _ _ h => h
  refine law_sp (fun P hP => ?_) hS (top ns hlen)
  obtain ⟨p, hp, rfl⟩ := List.mem_map.mp hP
  exact hH p hp
end VL
end
section
set_option autoImplicit false
set_option maxRecDepth 100000
set_option maxHeartbeats 2000000
namespace VL
open PySem PySem.Spec PyProof.Rows L2 GenW GxR
abbrev sumObj (n : Int) (t : Tok) (c : Nat) : Obj := { cls := .type "list", dict := none, data := .seq #[.int n t] c, slots := #[] }
def cpS (S : Addr) : CPt := fun ys P => ∃ (ns : List Int) (t : Tok) (c : Nat), P = [(S, sumObj ns.sum t c)] ∧ ys = ns.map V.int
def okI : List V → V → Hp → Prop := fun _ y _ => ∃ n, y = .int n
theorem sum_loop {P : Program} {w : World} {A : Around} {R : Result → Shared → Prop} {X : Cx} {s4 : Shared} {H4 : Hp} {fp : List Addr} {S a : Addr} {g : Nat} {QE : List V → Hp → Prop} (hh : A.handled = none) (hroom : A.depth < recursionLimit) (hSa : S ≠ a) (hSc : S ≠ cStatics)
    (hR : ∀ (s' : Shared) (ns : List Int) (t : Tok) (Pc : List (Addr × Obj)) (H : Hp), GBo X s4 H4 fp a g Pc H s' → QE (ns.map V.int) H → R (.ok (.ret (.int ns.sum t))) s') :
    ∀ (n : Nat) (s : Shared) (acc : Int) (tA : Tok) (c : Nat) (stage : Int), (stage = 0 ∨ stage = 2) → s.heap.IsGen a g → s.heap.NoLimit → s.heap.get? S = some (sumObj acc tA c) →
      (∃ gs, s.gens[g]? = some gs ∧ gs.Goes (model P w) A.in1.in1 (GXR (GBo X s4 H4 fp a g) (cpS S) QE) (GXY (GBo X s4 H4 fp a g) (cpS S) okI goOn QE) n (.send .none) (s.setGen g .running)) →
      codeAny (model P w) A (.builtin "sum.loop" ⟨[.ref a, .ref S, rawInt stage, rawInt 0], []⟩) R s := by
  intro n
  induction n using Nat.strongRecOn with
  | ind n ih =>
    intro s acc tA c stage hst hg hl hS ⟨gs, hgs, hgo⟩
    refine codeAny_builtin F.entry_sum_loop ?_
    rw [Around.under_plainId F.plain_sum_loop _]
    show wpAny _ A.in1 (seqItems? (.ref S) >>= _) _ _ s
    refine wpAny_bind (wpAny_seqItems hS rfl ?_)
    show wpAny _ A.in1 (tryCatch (pyNext (.ref a)) _ >>= _) _ _ s
    refine wpAny_bind (wpAny_tryCatch (gx_pull (A := A.in1) hh hroom hl hg hgs hgo (fun v s' gs' ys y Pc H rv cp gb hgs' oky hP0 q1 q2 => ?_) fun s' ys Pc H cp gb q hP0 => ?_))
    · obtain ⟨ns, t, c', rfl, rfl⟩ := cp
      obtain ⟨i, rfl⟩ := oky
      obtain ⟨ti, rfl⟩ : ∃ ti, v = Value.int i ti := rv
      have e0 : sumObj acc tA c = sumObj ns.sum t c' := Option.some.inj (hS.symm.trans (hP0 _ (List.mem_singleton.mpr rfl)))
      have ed : (Data.seq #[.int acc tA] c : Data) = Data.seq #[.int ns.sum t] c' := congrArg Obj.data e0
      obtain ⟨ea, rfl⟩ : acc = ns.sum ∧ tA = t := by
        injection ed with e1 _
        have e2 := congrArg (fun x : Array Value => x[0]?) e1
        have e3 : some (Value.int acc tA) = some (Value.int ns.sum t) := e2
        cases e3
        exact ⟨rfl, rfl⟩
      subst ea
      have hS1 : s'.heap.get? S = some (sumObj ns.sum tA c') := (gb.2.2.2.2.2.2 _ (List.mem_singleton.mpr rfl)).1
      obtain ⟨_, hb1, _, _, hg1, hl1, _⟩ := gb
      have esum : ns.sum + i = (ns ++ [i]).sum := by simp
      -- on
      have on : ∀ (s2 : Shared) (t2 : Tok) (c2 : Nat) (st2 : Int), (st2 = 0 ∨ st2 = 2) → s2.os = s'.os → s2.gens = s'.gens → (∀ b o, b ≠ S → s'.heap.get? b = some o → s2.heap.get? b = some o) → s2.heap.get? S = some (sumObj (ns.sum + i) t2 c2) →
          codeAny (model P w) A (.builtin "sum.loop" ⟨[.ref a, .ref S, rawInt st2, rawInt 0], []⟩) R s2 := by
        intro s2 t2 c2 st2 hst2 os2 gens2 keep2 hS2
        obtain ⟨m, hm, go⟩ := q2 rfl [(S, sumObj (ns.sum + i) t2 c2)] (s2.setGen g .running) ⟨os2, allBare_setGen (s := s2) (by rw [gens2]; exact hb1) rfl, fun b o hb e => keep2 b o (fun z => hb (by rw [z]; exact List.mem_singleton.mpr rfl)) e, rfl, fun p hp => by
          rw [List.mem_singleton.mp hp]
          exact ⟨hS2, fun v z => by cases z⟩⟩ ⟨ns ++ [i], t2, c2, by rw [esum], by rw [List.map_append]; rfl⟩
        refine ih m hm s2 (ns.sum + i) t2 c2 st2 hst2 ?_ ?_ hS2 ⟨gs', by rw [gens2]; exact hgs', go⟩
        · obtain ⟨o, nm, qn, ho, r⟩ := hg1
          exact ⟨o, nm, qn, keep2 a o (Ne.symm hSa) ho, r⟩
        · obtain ⟨mc, hns, hnn⟩ := hl1
          exact ⟨mc, hns.at' fun o e => keep2 _ o (Ne.symm hSc) e, hnn⟩
      have oth : ∀ (f : Obj → Obj) (h : Heap), (∀ b o, b ≠ S → s'.heap.get? b = some o → h.get? b = some o) → ∀ b o, b ≠ S → s'.heap.get? b = some o → (h.update S f).get? b = some o := fun f h k b o hb e => (Heap.get?_update_other _ _ (Ne.symm hb)).trans (k b o hb e)
      have k0 : ∀ b o, b ≠ S → s'.heap.get? b = some o → s'.heap.get? b = some o := fun _ _ _ e => e
      rcases hst with rfl | rfl
      · show wpAny _ A.in1 (if (_ : Bool) = true then (mkInt (ns.sum + i) >>= _) else _) _ _ _
        split
        · refine wpAny_bind (wpAny_mkInt ?_)
          refine wpAny_bind ?_
          refine wpAny_updateSeq hS1 rfl (wpAny_pure ⟨plainId_quiet F.plain_sum_loop _, ?_⟩)
          exact on _ _ _ 0 (.inl rfl) rfl rfl (oth _ _ k0) (Heap.get?_update_self _ hS1 rfl)
        · refine wpAny_bind (wpAny_rule ?_)
          refine wpAny_bind (wpAny_attempt (wpAny_holding (PySem.P.add_int ?_)))
          refine wpAny_bind ?_
          refine wpAny_updateSeq hS1 rfl ?_
          have hS2 := Heap.get?_update_self (Obj.mapSeq fun _ => #[Value.int (ns.sum + i) s'.toks]) hS1 rfl
          refine wpAny_bind (wpAny_letGo ?_)
          refine wpAny_bind ?_
          refine wpAny_updateSeq hS2 rfl (wpAny_pure ⟨plainId_quiet F.plain_sum_loop _, ?_⟩)
          exact on _ _ _ 2 (.inr rfl) rfl rfl (oth _ _ (oth _ _ k0)) (Heap.get?_update_self _ hS2 rfl)
      · refine wpAny_bind (wpAny_attempt (wpAny_holding (PySem.P.add_int ?_)))
        refine wpAny_bind ?_
        refine wpAny_updateSeq hS1 rfl ?_
        have hS2 := Heap.get?_update_self (Obj.mapSeq fun _ => #[Value.int (ns.sum + i) s'.toks]) hS1 rfl
        refine wpAny_bind (wpAny_letGo ?_)
        refine wpAny_bind ?_
        refine wpAny_updateSeq hS2 rfl (wpAny_pure ⟨plainId_quiet F.plain_sum_loop _, ?_⟩)
        exact on _ _ _ 2 (.inr rfl) rfl rfl (oth _ _ (oth _ _ k0)) (Heap.get?_update_self _ hS2 rfl)
    · obtain ⟨ns, t, c', rfl, rfl⟩ := cp
      have e0 : sumObj acc tA c = sumObj ns.sum t c' := Option.some.inj (hS.symm.trans (hP0 _ (List.mem_singleton.mpr rfl)))
      have ed : (Data.seq #[.int acc tA] c : Data) = Data.seq #[.int ns.sum t] c' := congrArg Obj.data e0
      obtain ⟨ea, rfl⟩ : acc = ns.sum ∧ tA = t := by
        injection ed with e1 _
        have e2 := congrArg (fun x : Array Value => x[0]?) e1
        have e3 : some (Value.int acc tA) = some (Value.int ns.sum t) := e2
        cases e3
        exact ⟨rfl, rfl⟩
      subst ea
      exact wpAny_pure (hR s' ns tA _ H gb q)
section
variable {X : Cx} {R P : Addr} {k : Nat} {elt tg iter : Expr} {ifs : List Expr} {scope : Scope} {own : List (Str × Nat)} {gpos p pos : Pos} {wi : TI} {g : TG} {tt : TT} {te : TE}
def sumV (ys : List V) : Int := (ys.map fun y => match y with
  | .int n => n
  | _ => 0).sum
theorem sumV_ints (ns : List Int) : sumV (ns.map V.int) = ns.sum := by
  unfold sumV
  rw [List.map_map]
  congr 1
  exact List.map_id _
def tGSum (R P : Addr) (wi : TI) (g : TG) (tt : TT) (te : TE) (vs : List Nat) : TE := fun σ H Q => tGx R P wi g tt te vs okI goOn (fun ys H' => Q (.int (sumV ys)) H') σ H
theorem pe_gsum (G : GxOk X k R P elt tg iter ifs scope own wi g tt te) (hgl : Gl X "sum") (hm : X.mg "sum" = none) (hb : bootBuiltins "sum" = some (.builtin "sum"))
    (hst : starEach [.GeneratorExp elt [⟨tg, iter, ifs, 0⟩] scope gpos] X.env = (false, eval (.GeneratorExp elt [⟨tg, iter, ifs, 0⟩] scope gpos) X.env) :: starEach [] X.env := by rfl) :
    PE X (.Call (.Name "sum" p) [.GeneratorExp elt [⟨tg, iter, ifs, 0⟩] scope gpos] [] pos) (tGSum R P wi g tt te (own.map (·.2))) := by
  refine ⟨fun pins s σ H Q I h => ?_⟩
  refine wpAny_Call_Name_kw (ld_blt I hgl hm hb ?_)
  refine PyProof.Rows.callWith_builtin1 ?_ hst (by rfl)
  rw [hst]
  show wpAny _ _ (spliced ((false, eval (.GeneratorExp elt [⟨tg, iter, ifs, 0⟩] scope gpos) X.env) :: backTo pos (starEach [] X.env))) _ _ s
  refine Calls.spliced_cons (thn (G.make I h) fun u s5 hG => ?_)
  obtain ⟨a, gn, cd, s4, H4, fp, rfl, I4, hf, ha, hg, hgs, os, ba, hl, kp, sz, wake⟩ := hG
  have hSa : s5.heap.objs.size ≠ a := Nat.ne_of_gt ha
  have hcl : cStatics < s5.heap.objs.size := let ⟨_, hn, _⟩ := hl; hn.lt
  refine Calls.spliced_nil ?_
  refine call_function_tree F.kind_sum F.plain_sum F.entry_sum (F.args_sum1 _) ?_
  unfold Builtin.«sum»
  simp only [List.length_cons, List.length_nil]
  rw [if_neg (by decide)]
  refine wpAny_bind (wpAny_of_eq (a := [none]) rfl ?_)
  refine wpAny_bind (wpAny_pyIter_gen hg ?_)
  refine wpAny_bind (wpAny_mkInt ?_)
  refine wpAny_bind (wpAny_pure ?_)
  simp only [List.forIn_cons, List.forIn_nil]
  refine wpAny_bind (wpAny_bind (wpAny_bind (wpAny_isInstance (T := "int") (b := false) (typeIs_int _ _ _) PySem.sub_int_str ?_)))
  simp only [Bool.false_eq_true, if_false]
  refine wpAny_pure (wpAny_bind (wpAny_bind (wpAny_isInstance (T := "int") (b := false) (typeIs_int _ _ _) PySem.sub_int_bytes ?_)))
  simp only [Bool.false_eq_true, if_false]
  refine wpAny_pure (wpAny_bind (wpAny_bind (wpAny_isInstance (T := "int") (b := false) (typeIs_int _ _ _) PySem.sub_int_bytearray ?_)))
  simp only [Bool.false_eq_true, if_false]
  refine wpAny_pure (wpAny_pure ?_)
  refine wpAny_bind (wpAny_newObj_type ?_)
  have kn : ∀ o b u, s5.heap.get? b = some u → (s5.heap.push o).get? b = some u := fun o b u e => Heap.get?_push_of_some _ e
  have hS : (s5.heap.push (sumObj 0 s5.toks 0)).get? s5.heap.objs.size = some (sumObj 0 s5.toks 0) := Heap.get?_push_size _ rfl
  obtain ⟨n, sg⟩ := wake X.A.in1.in1 (cpS s5.heap.objs.size) [(s5.heap.objs.size, sumObj 0 s5.toks 0)] ({ s5 with heap := s5.heap.push (sumObj 0 s5.toks 0), toks := s5.toks + 1 }.setGen gn .running) (room2 G.hr) I4.ok.frames (fun ys P' cp p hp => by
    obtain ⟨ns, t, c, rfl, _⟩ := cp
    rw [List.mem_singleton.mp hp]
    exact Nat.le_refl _) ⟨[], _, _, rfl, rfl⟩ (fun p hp => by
      rw [List.mem_singleton.mp hp]
      exact ⟨hS, fun v z => by cases z⟩) (kn _) rfl (allBare_setGen ba rfl)
  refine wpAny_pure ⟨plainId_quiet F.plain_sum_loop _, sum_loop (P := X.prog) (w := X.w) (A := X.A) G.hr.hd (by have := G.hr.dp; omega) hSa (Nat.ne_of_gt hcl) (fun s' ns t Pc H' gb q => ?_) n _ 0 s5.toks 0 0 (.inl rfl) (hg.keeps (kn _)) (hl.keeps (kn _)) hS ⟨_, hgs, rfl, sg⟩⟩
  refine ⟨.int ns.sum, H', gb.back I4 hf, ⟨_, rfl⟩, ?_⟩
  rw [sumV_ints] at q
  exact q
end
end VL
namespace VL
open PySem PySem.Spec PyProof.Rows L2 GenW GxR
def sumD (ds : List D) : Int := (ds.map fun d => match d with
  | .int n => n
  | _ => 0).sum
theorem sum_rel {K : Fg} {B : Hp} : ∀ {xs : List V} {acc : List D}, DqAll K B xs acc → sumV xs = sumD acc
  | _, _, .nil => rfl
  | _, _, .cons h r => by
    have ih := sum_rel r
    unfold sumV sumD at ih ⊢
    rw [List.map_cons, List.map_cons, List.sum_cons, List.sum_cons, ih]
    cases h <;> rfl
theorem sumD_snoc (acc : List D) (n : Int) : sumD (acc ++ [.int n]) = sumD acc + n := by
  unfold sumD
  rw [List.map_append, List.sum_append]
  simp
def okId : List D → D → Prop := fun _ y => ∃ n, y = .int n
theorem ok_sum {K : Fg} {B H : Hp} {xs : List V} {acc : List D} {v : V} {y : D} (_ : DqAll K B xs acc) (o : Dq K B v y) (h : okId acc y) : okI xs v H ∧ goOn v = false := by
  obtain ⟨n, rfl⟩ := h
  cases o
  exact ⟨⟨n, rfl⟩, rfl⟩
def wGSum (wi : WN) (g : WG) (tt : WT) (te : WE) (vs : List Nat) : WE := fun ρ P => wGx wi g tt te vs okId (fun _ => false) ρ fun acc ρ' => P (.d (.int (sumD acc))) ρ'
section
variable {X : Cx} {as : As} {R P : Addr} {k : Nat} {elt tg iter : Expr} {ifs : List Expr} {scope : Scope} {gpos p pos : Pos} {wi : WN} {g : WG} {sl : List Nat} {tt : WT} {te : WE}
theorem vgsum (vs : List (Str × Nat)) (hm : X.mg "sum" = none) (hc : X.calm = true) (hN : X.N.Nodup) (hr : Room (k + 2) X.A) (T : GxT X as R P) (hi : PI X tg iter (upI X.K as wi))
    (hg : ∀ (s : Shared) (H : Hp) (cl : List (Str × Addr)) (C : Addr) (cd : Value) (A : Around) (fp : List Addr) (pn : List (Addr × Obj)), PG (X.gx s H (genEnv scope cl C cd builtinsNs X.env) A fp pn) tg (gU X.K as g sl))
    (ht : ∀ (s : Shared) (H : Hp) (cl : List (Str × Addr)) (C : Addr) (cd : Value) (A : Around) (fp : List Addr) (pn : List (Addr × Obj)) (P' : Addr), InOk H R cd P' → Room k A → PTs (X.gx s H (genEnv scope cl C cd builtinsNs X.env) A fp pn) ifs (upT X.K as tt))
    (he : ∀ (s : Shared) (H : Hp) (cl : List (Str × Addr)) (C : Addr) (cd : Value) (A : Around) (fp : List Addr) (pn : List (Addr × Obj)) (P' : Addr), InOk H R cd P' → Room k A → PE (X.gx s H (genEnv scope cl C cd builtinsNs X.env) A fp pn) elt (up X.K as te))
    (ok : BlkOk X.N X.env.scope scope vs) (hsc : scC scope = true) (hsl : ∀ j ∈ sl, j ∈ vs.map (·.2)) (hgl : Gl X "sum" := by rfl) (hs : ∀ v, genFold iter X.env v = pure v := by intro _; rfl)
    (hst : starEach [.GeneratorExp elt [⟨tg, iter, ifs, 0⟩] scope gpos] X.env = (false, eval (.GeneratorExp elt [⟨tg, iter, ifs, 0⟩] scope gpos) X.env) :: starEach [] X.env := by rfl) :
    PE X (.Call (.Name "sum" p) [.GeneratorExp elt [⟨tg, iter, ifs, 0⟩] scope gpos] [] pos) (up X.K as (wGSum wi g tt te (vs.map (·.2)))) := by
  refine pe_imp (pe_gsum (gx_ok vs hc hN hr T hi hg ht he ok hsc hs) hgl hm (by decide +kernel) hst) fun σ H Q ⟨Z, ρ, B, Pk, S, h, kk⟩ => ?_
  refine up_gx (fun _ _ _ h => h) gU_ok hsl T.hP (fun {_ _ _ _ v _} r o h => ok_sum (v := v) r o h) ⟨Z, ρ, B, _, S, h, fun acc ρ' xs B' H' h1 x1 S1 r => ?_⟩
  rw [sum_rel r]
  exact kk _ _ _ B' H' h1 x1 S1 (.int _)
end
end VL
end
section
set_option autoImplicit false
set_option maxRecDepth 100000
set_option maxHeartbeats 2000000
namespace VL
open PySem PySem.Spec PyProof.Rows L2
end VL
end
section
set_option autoImplicit false
set_option maxRecDepth 100000
set_option maxHeartbeats 2000000
namespace VL
open PySem PySem.Spec PyProof.Rows L2
/-- a def's promise where no guard is up -/
structure FnG (P : Program) (w : World) (K : Fg) (mg : Str → Option Value) (base : Heap) (k : Nat) (f : Addr) (fd : FuncData) (ps : List Str) (sp : Sp) : Prop where
  len : ∀ vs H Q E, sp vs H Q E → vs.length = ps.length
  run : ∀ (A : Around) (outer : List PySem.Env) (s : Shared) (H : Hp) (args : Args) (us : List Value) (vs : List V) (Q : VK), A.guards = some [] → Room k A → Env0 P w K mg base A outer s H → BindsTo s fd args (ps.zip us) → Vals vs us → sp vs H Q E0 →
    codeAny (model P w) A (.call (.ref f) args) (fun r s' => match r with | .ok (.ret u) => CE outer P w H s Q u s' | _ => False) s
section
variable {P : Program} {w : World} {K : Fg} {mg : Str → Option Value} {base : Heap}
theorem FnG.of {k : Nat} {f : Addr} {fd : FuncData} {ps : List Str} {sp : Sp} (F : FnOk P w K mg base CX0 k f fd ps sp) : FnG P w K mg base k f fd ps sp :=
  ⟨F.len, fun A outer s H args us vs Q _ hr e0 hb r h => codeAny_mono (F.run A outer s H args us vs Q E0 hr e0 hb r h) fun r s' hq => by
    cases r with
    | error e => exact False.elim hq
    | ok fl => cases fl <;> exact hq⟩
end
end VL
namespace VL
open PySem PySem.Spec PyProof.Rows L2
end VL
end
section
set_option autoImplicit false
set_option maxRecDepth 100000
set_option maxHeartbeats 2000000
namespace VL
open PySem PySem.Spec PyProof.Rows L2 GxR
end VL
end
section
set_option autoImplicit false
set_option maxRecDepth 100000
set_option maxHeartbeats 2000000
set_option exponentiation.threshold 50000
namespace VL
open PySem PySem.Spec PyProof.Rows L2
end VL
end
section
set_option autoImplicit false
set_option maxRecDepth 100000
set_option maxHeartbeats 2000000
namespace VL
open PySem PySem.Spec PyProof.Rows L2
end VL
end
section
set_option autoImplicit false
set_option maxRecDepth 100000
set_option maxHeartbeats 2000000
namespace VL
open PySem PySem.Spec PyProof.Rows L2
def rSumA (K : Fg) : List V → Hp → VK → Prop := fun vs H Q => ∃ (a : Addr) (ns : List Int), vs = [V.ref a] ∧ (SqL K H a (ns.map V.int) ∨ SqT K H a (ns.map V.int)) ∧ Q (.int ns.sum) H
theorem cr_sumA {X : Cx} (hc : X.calm = true) : CallR X (.builtin "sum") (rSumA X.K) := by
  intro pins s σ H vs us Q I r h
  obtain ⟨a, ns, rfl, hs | hs, q⟩ := h
  · exact cr_sum hc pins s σ H _ us Q I r ⟨a, ns, rfl, hs, q⟩
  · obtain ⟨its, rv, hl, _⟩ := I.tuple hs
    rw [Vals.ref1 r]
    have hi := rv.ints
    obtain ⟨xs, hx⟩ := hi.allInts.items
    have hn : numsOf its.toArray.toList = ns := by
      rw [show its.toArray.toList = its from rfl, hi.numsOf]
    obtain ⟨o, e, c, n, d⟩ := hl
    have ht : s.heap.IsTuple a its.toArray := ⟨o, e, c, n, d⟩
    rw [hx] at ht hn
    rw [nums_intItems] at hn
    refine PySem.W.ktm_sumG (I.ok.hd hc) ht fun h' tk t' hk => ?_
    refine ⟨.int _, H, I.kept hk, ⟨_, rfl⟩, ?_⟩
    rw [preSum_eq, List.take_of_length_le (by simp), hn]
    exact q
def oSumA : DC := fun ds P => match ds with
  | [.list xs] => ∃ ns, intsOf xs = some ns ∧ P (.int ns.sum)
  | [.tuple xs] => ∃ ns, intsOf xs = some ns ∧ P (.int ns.sum)
  | _ => False
theorem cv_sumA {K : Fg} : CallV K (rSumA K) oSumA := by
  intro B H vs ds P Q e a c k
  unfold oSumA at c
  split at c
  · obtain ⟨v, rfl, b⟩ := a.one
    obtain ⟨ns, e1, c⟩ := c
    have e2 := intsOf_map e1
    subst e2
    obtain ⟨l, xs, rfl, h1, r1⟩ := b.list e
    rw [r1.ints] at h1
    exact ⟨l, ns, rfl, .inl h1, k _ _ _ _ c .no (.int _)⟩
  · obtain ⟨v, rfl, b⟩ := a.one
    obtain ⟨ns, e1, c⟩ := c
    have e2 := intsOf_map e1
    subst e2
    obtain ⟨l, xs, rfl, h1, r1⟩ := b.tup e
    rw [r1.ints] at h1
    exact ⟨l, ns, rfl, .inr h1, k _ _ _ _ c .no (.int _)⟩
  · exact c.elim
end VL
end
section
set_option autoImplicit false
set_option maxRecDepth 100000
set_option maxHeartbeats 2000000
namespace VL
open PySem PySem.Spec PyProof.Rows L2
end VL
end
section
set_option autoImplicit false
set_option maxRecDepth 100000
set_option maxHeartbeats 2000000
namespace VL
open PySem PySem.Spec PyProof.Rows L2 HT PySem.W
end VL
end
section
set_option autoImplicit false
set_option maxRecDepth 100000
set_option maxHeartbeats 2000000
namespace VL
open PySem PySem.Spec PyProof.Rows L2
end VL
end
section
set_option autoImplicit false
set_option maxRecDepth 100000
set_option maxHeartbeats 2000000
namespace VL
open PySem PySem.Spec PyProof.Rows L2
open AutoSeq1 (wpAny_loadPart') in
theorem enum_newT (l : Addr) (items : Array Value) (n : Nat) (dct : Option Addr) (sl : Array (Option Value)) :
    PySem.Meets (Builtin.«enumerate.__new__» ⟨[.type "enumerate", .ref l], []⟩) (fun _ R s => s.heap.get? l = some { cls := .type "tuple", dict := dct, data := .seq items n, slots := sl } ∧
      R (.ok (.ret (.ref (s.heap.push { cls := .type "tuple_iterator", data := .fields #[.ref l, .int 0 0] }).objs.size)))
        { s with heap := (s.heap.push { cls := .type "tuple_iterator", data := .fields #[.ref l, .int 0 0] }).push { cls := .type "enumerate", data := .fields #[.none, .bool false, .ref s.heap.objs.size, rawInt 0, .none, .none] } }) :=
  .of_wp fun prog w A R s h => by
    obtain ⟨hp, g, d, tk, os⟩ := s; obtain ⟨hl, h⟩ := h
    have hsub := sub_enumerate
    have hL : Heap.IsTuple (Shared.heap ⟨hp, g, d, tk, os⟩) l items := ⟨_, hl, rfl, n, rfl⟩
    wp_walk using wpAny_loadPart' hl
    refine wpAny_stack_any fun st => wpAny_pure ?_
    split
    · rename_i c _ _ _ _ _
      cases (c == Value.type "enumerate")
      · wp_walk using wpAny_loadPart' hl, wpAny_pyIter_tuple hL
        exact ⟨_, rfl, h⟩
      · wp_walk using wpAny_loadPart' hl, wpAny_pyIter_tuple hL
        exact ⟨_, rfl, h⟩
    · wp_walk using wpAny_loadPart' hl, wpAny_pyIter_tuple hL
      exact ⟨_, rfl, h⟩
section
variable {prog : Program} {w : World} {A : Around} {E : Value → Shared → Prop} {s : Shared}
theorem call_enumT {l : Addr} {items : Array Value} {Q : Value → Shared → Prop} (hL : s.heap.IsTuple l items)
    (h : ∀ h', IsEnum h' (s.heap.objs.size + 1) s.heap.objs.size 0 .none → h'.IsTupleIter s.heap.objs.size l 0 → h'.objs.size = s.heap.objs.size + 2 →
      (∀ b o, s.heap.get? b = some o → h'.get? b = some o) → Q (.ref (s.heap.objs.size + 1)) { s with heap := h' }) :
    wpAny (model prog w) A (call (.type "enumerate") [.ref l]) Q E s := by
  obtain ⟨⟨c, dct, dt, sl⟩, hl, hc, n, hd⟩ := hL
  replace hc : c = .type "tuple" := hc
  replace hd : dt = .seq items n := hd
  subst hc hd
  refine callType_new F.called_enumerate (by decide) (F.typeCall_enumerate_1 _) (F.newCall_enumerate_1 _) (fun obj => F.args_object_init_2 obj _) F.entry_enumerate_new
    (enum_newT l items n dct sl) ⟨hl, ?_⟩
  have hz : (s.heap.push { cls := .type "tuple_iterator", data := .fields #[.ref l, .int 0 0] }).objs.size = s.heap.objs.size + 1 := Heap.size_push ..
  show _ ∧ _
  rw [hz]
  have he : IsEnum ((s.heap.push { cls := .type "tuple_iterator", data := .fields #[.ref l, .int 0 0] }).push
      { cls := .type "enumerate", data := .fields #[.none, .bool false, .ref s.heap.objs.size, rawInt 0, .none, .none] }) (s.heap.objs.size + 1) s.heap.objs.size 0 .none := by
    have := Heap.get?_push_size (s.heap.push { cls := .type "tuple_iterator", data := .fields #[.ref l, .int 0 0] })
      (o := { cls := .type "enumerate", data := .fields #[.none, .bool false, .ref s.heap.objs.size, rawInt 0, .none, .none] }) rfl
    rw [hz] at this; exact this
  refine ⟨⟨_, he, rfl⟩, h _ he ⟨_, Heap.get?_push_of_some _ (Heap.get?_push_size _ rfl), rfl, rfl⟩ (by rw [Heap.size_push, hz]) fun b o x => Heap.get?_push_of_some _ (Heap.get?_push_of_some _ x)⟩
end
section
variable {prog : Program} {w : World} {A : Around} {E : Value → Shared → Prop} {s : Shared}
theorem enum_endT {e it l : Addr} {i : Nat} {items : Array Value} {old : Value} {Q : Option Value → Shared → Prop} (hh : A.handled = none)
    (he : IsEnum s.heap e it i old) (hit : s.heap.IsTupleIter it l i) (hl : s.heap.IsTuple l items) (hx : items[i]? = none)
    (hQ : ∀ h', Heap.ExtBut it s.heap h' → Q none { s with heap := h' }) : wpAny (model prog w) A (pyNext (.ref e)) Q E s := by
  have hT : s.TypeIs (.ref e) "enumerate" := ⟨_, he, rfl⟩
  unfold pyNext
  refine wpAny_bind (wpAny_attempt (wpAny_callSpecial?_slot (name := Str.ofString "__next__") hT F.slot_enumerate_next
    (wpAny_call_entry F.slot_enumerate_next hT F.entry_enumerate_next ?_ (F.args_enumerate_next_1 _))))
  show wpAny _ _ (field (.ref e) 2 >>= _) _ _ _
  refine wpAny_bind (wpAny_field he rfl (x := .ref it) rfl ?_)
  refine wpAny_bind (wpAny_nextOf_tuple_end hh hit hl hx fun h' x he' hx' => ?_)
  obtain ⟨o, ho, hc⟩ := hx'
  refine wpAny_bind (wpAny_isInstance (T := "StopIteration") (b := true) ⟨o, ho, hc⟩ isSubtype_stop ?_)
  exact wpAny_pure (hQ _ he')
end
def IteT (K : PySem.W.Frag) (a : Addr) : It :=
  ⟨fun i H => ∃ (xs : List V) (x : V), SqT K H a xs ∧ xs[i]? = some x, fun i H v H' => ∃ T x, v = .ref T ∧ H T = none ∧ H' = upd H T (.tup [.int (i : Nat), x]) ∧ ∀ xs, SqT K H a xs → xs[i]? = some x, fun i H => ∃ xs : List V, SqT K H a xs ∧ xs.length ≤ i⟩
theorem turn_enumT {P : Program} {w : World} {K : PySem.W.Frag} {elts : List Expr} {kk : Nat} {tpos : Pos} (a e it : Addr) (na : a ≠ it) (nae : a ≠ e) :
    Turn P w K (.Tuple elts kk tpos) (IteT K a) [e, it] e (fun i h => (∃ old, IsEnum h e it ((i : Nat) : Int) old) ∧ h.IsTupleIter it a i ∧ e ≠ it) where
  mem := by simp
  obj := fun i h st b hb => by
    obtain ⟨⟨old, he⟩, ⟨o, ho, hc, hd⟩, _⟩ := st
    have e' : b = e ∨ b = it := by simpa using hb
    rcases e' with z | z
    · rw [z]; exact ⟨_, he, fun v q => nomatch q⟩
    · rw [z]; exact ⟨o, ho, fun v q => by rw [hd] at q; cases q⟩
  keep := fun i h h' st k => let ⟨⟨old, he⟩, hi, hne⟩ := st; ⟨⟨old, k e (by simp) _ he⟩, hi.at fun o q => k it (by simp) o q, hne⟩
  item := by
    intro X hP hw hK hc i pins s σ H E I hf st hg
    subst hP hw hK
    obtain ⟨⟨old, he⟩, hit, hne⟩ := st
    obtain ⟨xs, x, hq, hx⟩ := hg
    obtain ⟨its, rv, p, hz⟩ := I.tuple hq
    have p' : s.heap.IsTuple a its.toArray := p
    obtain ⟨u, hu, ru⟩ := rv.get hx
    have hel : e < s.heap.objs.size := Heap.lt_size he
    have hil : it < s.heap.objs.size := by obtain ⟨_, q, _⟩ := hit; exact Heap.lt_size q
    have hul : i < its.toArray.size := by
      have := (List.getElem?_eq_some_iff.mp hu).1
      simpa using this
    refine wpAny_pyNext_enum_itemD (Draws.tuple (A := X.A.in1) (I.ok.hd hc) it a na its.toArray) he ⟨hit, p'⟩ hul hne (by simp [hne, Ne.symm nae]) fun x' h' tk hx' ho st' hT hsz hk => ?_
    have hxu : x' = u := by
      have h1 : its.toArray[i]? = some x' := hx'
      rw [show its.toArray[i]? = some u by simpa using hu] at h1
      exact (Option.some.inj h1).symm
    subst hxu
    refine ⟨_, rfl, wpAny_letOwnedTupleGo_enum (s := { s with heap := h', toks := tk + 1 }) ho fun h'' he' sb => ?_⟩
    have hT2 : h''.get? s.heap.objs.size = some { cls := .type "tuple", data := .seq #[.int i tk, x'] } := (sb.2 _ (Nat.ne_of_gt hel)).trans hT
    have new : ObjOk X.prog X.w (upd H s.heap.objs.size (.tup [.int (i : Nat), x])) h'' s.heap.objs.size (.tup [.int (i : Nat), x]) :=
      ⟨by show 2 ≤ sizeLine; decide, [.int i tk, x'], .cons ⟨_, rfl⟩ (.cons ru .nil), ⟨_, hT2, rfl, _, rfl⟩⟩
    have I1 : Inv X pins σ (upd H s.heap.objs.size (.tup [.int (i : Nat), x])) { s with heap := h'', toks := tk + 1 } :=
      I.turnedNew (ch := [e, it]) (fun b ob hb q => (sb.2 b (fun z => hb (by simp [z]))).trans (hk b ob (fun z => hb (by simp [z])) (fun z => hb (by simp [z])) q)) hf (Nat.le_refl _) new
    refine ⟨.ref s.heap.objs.size, _, I1, rfl, ⟨_, x, rfl, I.hok.fresh (Nat.le_refl _), rfl, fun ys hy => by rw [I.tuple_inj hy hq]; exact hx⟩, ⟨⟨x', ?_⟩, st'.1.at fun o q => (sb.2 it (Ne.symm hne)).trans q, hne⟩, fun b hb => ?_⟩
    · have e1 : ((i + 1 : Nat) : Int) = (i : Int) + 1 := by omega
      rw [e1]; exact he'
    · have hb' : b < s.heap.objs.size := by
        have e' : b = e ∨ b = it := by simpa using hb
        rcases e' with z | z
        · rw [z]; exact hel
        · rw [z]; exact hil
      rw [upd_ne (Nat.ne_of_lt hb')]
      exact (hf b hb).1
  done := by
    intro X hP hw hK hc i pins s σ H E I hf st hg
    subst hP hw hK
    obtain ⟨⟨old, he⟩, hit, hne⟩ := st
    obtain ⟨xs, hq, hx⟩ := hg
    obtain ⟨its, rv, p, hz⟩ := I.tuple hq
    have p' : s.heap.IsTuple a its.toArray := p
    obtain ⟨f0, f1, f2, f3, f4, f5⟩ := hf it (by simp)
    have hl := rv.length
    exact enum_endT (I.ok.hd hc) he hit p' (by simp; omega) fun h' eb => ⟨rfl, I.turned (t' := s.toks) (fun b o hb q => eb b o hb q) f0 f1 f3 f4 f5⟩
  self := fun A i s Q E st h => let ⟨⟨_, he⟩, _⟩ := st; wpAny_pyIter_enum he h
def iEnumA (K : PySem.W.Frag) (ta : TA) : TI := fun σ H R => ta σ H fun vs H1 => ∃ a xs, vs = [.ref a] ∧ ((SqL K H1 a xs ∧ R (Ite K a) H1) ∨ (SqT K H1 a xs ∧ R (IteT K a) H1))
theorem pi_enumA {X : Cx} {e : Expr} {ta : TA} {p pos tpos : Pos} {elts : List Expr} {kk : Nat} (hg : Gl X "enumerate") (hm : X.mg "enumerate" = none) (ha : PA X [e] ta) (hs : starEach [e] X.env = [(false, eval e X.env)] := by rfl) :
    PI X (.Tuple elts kk tpos) (.Call (.Name "enumerate" p) [e] [] pos) (iEnumA X.K ta) := by
  refine ⟨fun pins s σ H R I h => ?_⟩
  refine Call_ (ld_blt I hg hm boot_enumerate (PyProof.Rows.callWith_type1 (thn (ha.run pos pins s σ H _ I h) fun us s1 ⟨vs, H1, I1, r1, q1⟩ => ?_) hs rfl))
  obtain ⟨a, xs, ex, q1⟩ := q1
  subst ex
  cases r1 with
  | cons r rr =>
    cases rr
    cases r
    have fpk : ∀ b ∈ [s1.heap.objs.size + 1, s1.heap.objs.size], s1.heap.objs.size ≤ b := fun b hb => by
      have e' : b = s1.heap.objs.size + 1 ∨ b = s1.heap.objs.size := by simpa using hb
      rcases e' with z | z
      · rw [z]; exact Nat.le_add_right _ _
      · rw [z]; exact Nat.le_refl _
    rcases q1 with ⟨hq, q⟩ | ⟨hq, q⟩
    · obtain ⟨its, rv, p', hz⟩ := I1.list hq
      refine call_enumerate_list p'.isList fun h' he hit hsz hk => wpAny_pyIter_enum he ?_
      have I2 : Inv X pins σ H1 { s1 with heap := h' } := I1.kept (t' := s1.toks) hk
      exact ⟨s1.heap.objs.size + 1, [s1.heap.objs.size + 1, s1.heap.objs.size], _, _, H1, rfl, I2, turn_enum a (s1.heap.objs.size + 1) s1.heap.objs.size, ⟨⟨.none, he⟩, hit, Nat.succ_ne_self _⟩, fun b hb => I1.fpOk (fpk b hb) (I1.hok.fresh (fpk b hb)), q⟩
    · obtain ⟨its, rv, p', hz⟩ := I1.tuple hq
      have p2 : s1.heap.IsTuple a its.toArray := p'
      have al : a < s1.heap.objs.size := by
        obtain ⟨o, ho, _⟩ := p2
        exact Heap.lt_size ho
      refine call_enumT p2 fun h' he hit hsz hk => wpAny_pyIter_enum he ?_
      have I2 : Inv X pins σ H1 { s1 with heap := h' } := I1.kept (t' := s1.toks) hk
      exact ⟨s1.heap.objs.size + 1, [s1.heap.objs.size + 1, s1.heap.objs.size], _, _, H1, rfl, I2, turn_enumT a (s1.heap.objs.size + 1) s1.heap.objs.size (Nat.ne_of_lt al) (Nat.ne_of_lt (Nat.lt_succ_of_lt al)), ⟨⟨.none, he⟩, hit, Nat.succ_ne_self _⟩, fun b hb => I1.fpOk (fpk b hb) (I1.hok.fresh (fpk b hb)), q⟩
def enumD (ds : List D) : List D := (List.range ds.length).zipWith (fun (i : Nat) d => .tuple [.int i, d]) ds
theorem enum_len (ds : List D) : (enumD ds).length = ds.length := by simp [enumD]
theorem enum_get {ds : List D} {i : Nat} {d : D} (h : ds[i]? = some d) : (enumD ds)[i]? = some (.tuple [.int (i : Nat), d]) := by
  have l := (List.getElem?_eq_some_iff.mp h).1
  unfold enumD
  rw [List.getElem?_zipWith, h, List.getElem?_range l]
theorem wk_enumL {K : Fg} {B : Hp} {a : Addr} {xs : List V} {ds : List D} (h : SqL K B a xs) (r : DqAll K B xs ds) : Wk K (Ite K a) B (enumD ds) where
  go := fun i B1 H x s l => by
    rw [enum_len] at l
    obtain ⟨v, q1, _⟩ := r.get (List.getElem?_eq_getElem l)
    exact ⟨xs, v, sqL_ext (.of s) (sqL_ext x h), q1⟩
  stop := fun i B1 H x s l => by
    rw [enum_len] at l
    exact ⟨xs, sqL_ext (.of s) (sqL_ext x h), by rw [r.len]; exact l⟩
  yld := fun i B1 H v H' x s l y => by
    obtain ⟨T, v1, rfl, hT, rfl, f1⟩ := y
    obtain ⟨d1, g1, k1⟩ := r.getV (f1 xs (sqL_ext (.of s) (sqL_ext x h)))
    have xe : ExT B (upd B1 T (.tup [.int (i : Nat), v1])) := x.trans (.new (free_of s hT))
    exact ⟨_, _, enum_get g1, .new hT, .tup (.inl (.inl upd_same)) (.cons (.int _) (.cons (Dq.ext xe k1) .nil))⟩
theorem wk_enumT {K : Fg} {B : Hp} {a : Addr} {xs : List V} {ds : List D} (h : SqT K B a xs) (r : DqAll K B xs ds) : Wk K (IteT K a) B (enumD ds) where
  go := fun i B1 H x s l => by
    rw [enum_len] at l
    obtain ⟨v, q1, _⟩ := r.get (List.getElem?_eq_getElem l)
    exact ⟨xs, v, sqT_ext (.of s) (sqT_ext x h), q1⟩
  stop := fun i B1 H x s l => by
    rw [enum_len] at l
    exact ⟨xs, sqT_ext (.of s) (sqT_ext x h), by rw [r.len]; exact l⟩
  yld := fun i B1 H v H' x s l y => by
    obtain ⟨T, v1, rfl, hT, rfl, f1⟩ := y
    obtain ⟨d1, g1, k1⟩ := r.getV (f1 xs (sqT_ext (.of s) (sqT_ext x h)))
    have xe : ExT B (upd B1 T (.tup [.int (i : Nat), v1])) := x.trans (.new (free_of s hT))
    exact ⟨_, _, enum_get g1, .new hT, .tup (.inl (.inl upd_same)) (.cons (.int _) (.cons (Dq.ext xe k1) .nil))⟩
/-- enumerate(a) -/
def wEnum (r : WA) : WN := fun ρ P => r ρ fun cs ρ' => match cs with
  | [.d (.list ds)] => P (enumD ds) ρ'
  | [.d (.tuple ds)] => P (enumD ds) ρ'
  | _ => False
theorem ienum {X : Cx} {as : As} {a : Expr} {pos : Pos} {r : WA} {p tpos : Pos} {elts : List Expr} {kk : Nat} (hm : X.mg "enumerate" = none) (ha : PA X [a] (upA X.K as r)) (hg : Gl X "enumerate" := by rfl) (hs : starEach [a] X.env = [(false, eval a X.env)] := by rfl) : PI X (.Tuple elts kk tpos) (.Call (.Name "enumerate" p) [a] [] pos) (upI X.K as (wEnum r)) := by
  refine pi_imp (pi_enumA hg hm ha hs) fun σ H R ⟨Z, ρ, B, P, S, h, k⟩ => ⟨Z, ρ, B, _, S, h, fun cs ρ' vs B' H' h1 x S' o1 => ?_⟩
  split at h1
  · obtain ⟨v, rfl, o2⟩ := cvs_one o1
    cases o2 with
    | lst p1 r1 => exact ⟨_, _, rfl, .inl ⟨sqL_ext S'.ext p1, k _ _ B' H' _ h1 x S' (wk_enumL p1 r1)⟩⟩
  · obtain ⟨v, rfl, o2⟩ := cvs_one o1
    cases o2 with
    | tup p1 r1 => exact ⟨_, _, rfl, .inr ⟨sqT_ext S'.ext p1, k _ _ B' H' _ h1 x S' (wk_enumT p1 r1)⟩⟩
  · exact h1.elim
end VL
end
section
set_option autoImplicit false
set_option maxRecDepth 100000
set_option maxHeartbeats 2000000
set_option exponentiation.threshold 20000
namespace VL
open PySem PySem.Spec PyProof.Rows L2
/-- Pascal's triangle -/
def bin : Nat → Nat → Nat
  | _, 0 => 1
  | 0, _ + 1 => 0
  | n + 1, k + 1 => bin n k + bin n (k + 1)
theorem bin_comb : ∀ n k : Nat, n ≤ 12 → k ≤ 12 → PySem.W.mcComb (n : Int) (k : Int) = (bin n k : Nat) := by
  have h : ∀ n : Fin 13, ∀ k : Fin 13, PySem.W.mcComb ((n : Nat) : Int) ((k : Nat) : Int) = (bin n k : Nat) := by decide +kernel
  intro n k hn hk
  exact h ⟨n, by omega⟩ ⟨k, by omega⟩
def rComb : List V → Hp → VK → Prop := fun vs H Q => ∃ n k : Nat, vs = [.int (n : Int), .int (k : Int)] ∧ n ≤ 12 ∧ k ≤ 12 ∧ Q (.int (bin n k : Nat)) H
theorem cr_comb {X : Cx} : CallR X (.builtin "math.comb") rComb := by
  intro pins s σ H vs us Q I r h
  obtain ⟨n, k, rfl, hn, hk, q⟩ := h
  obtain ⟨t, u, rfl⟩ := Vals.int2 r
  have g := PySem.W.mc_gives_comb (a := (n : Int)) (b := (k : Int)) t u (by omega) (by omega) (by omega) (by omega)
  rw [bin_comb n k hn hk] at g
  exact call_function_meets PySem.W.MGF.kind_comb PySem.W.MGF.plain_comb PySem.W.MGF.entry_comb (PySem.W.MGF.args_comb _ _) g.meets ⟨.int _, H, I.tok _, ⟨_, rfl⟩, q⟩
def oComb : DC := fun ds P => match ds with
  | [.int i, .int j] => ∃ n k : Nat, i = (n : Int) ∧ j = (k : Int) ∧ n ≤ 12 ∧ k ≤ 12 ∧ P (.int (bin n k : Nat))
  | _ => False
theorem cv_comb {K : Fg} : CallV K rComb oComb := by
  intro B H vs ds P Q e a c k
  unfold oComb at c
  split at c
  · obtain ⟨v, u, rfl, b1, b2⟩ := a.two
    obtain ⟨n, m, rfl, rfl, h1, h2, c⟩ := c
    cases b1.int
    cases b2.int
    exact ⟨n, m, rfl, h1, h2, k _ _ _ _ c .no (.int _)⟩
  · exact c.elim
def CPowW (i j : Int) : Prop := 0 ≤ j ∧ ((i.natAbs.log2 : Int) + 1) * j ≤ 2 ^ 27
theorem op_powW {X : Cx} : OpR X (binaryOp .Pow) (rI CPowW fun i j => .int (i ^ j.toNat)) := opI fun i j _ _ _ _ _ hc q => by
  refine pow_int hc.1 (Int.le_trans ?_ hc.2) q
  refine Int.mul_le_mul_of_nonneg_right ?_ hc.1
  have : Builtin.Int.intBits i ≤ i.natAbs.log2 + 1 := by
    unfold Builtin.Int.intBits
    split <;> omega
  omega
abbrev oPowW : DO := oI CPowW fun i j => .int (i ^ j.toNat)
inductive MK where
  | d (t : WE) | n (t : WN) | k | t
inductive PC where
  | d (y : D) | l (ds : List D) | k | t
def PC.cell : PC → Cell
  | .d y => .dat y
  | .l ds => .lst false ds
  | .k => .dic []
  | .t => .dit []
def te (K : Fg) (as : As) (m : MK) : TE := match m with
  | .d t => up K as t
  | .n t => upN K as t
  | .k => tDNewK
  | .t => tDNewT
def CompOk (K : Fg) (B Z : Hp) (c : PC) (v : V) (Z' : Hp) : Prop := match c with
  | .d y => Dq K B v y ∧ Z' = Z
  | .l ds => ∃ p xs, v = .ref p ∧ Z p = none ∧ DqAll K B xs ds ∧ Z' = upd Z p (.lst xs)
  | .k => ∃ p, v = .ref p ∧ Z p = none ∧ Z' = upd Z p (.dK [])
  | .t => ∃ p, v = .ref p ∧ Z p = none ∧ Z' = upd Z p (.dT [])
section
variable {K : Fg} {as : As} {Z : Hp} {ρ : En} {σ : L2.St} {B H : Hp}
theorem CompOk.ext {B' Z' : Hp} {c : PC} {v : V} (e : ExT B B') (h : CompOk K B Z c v Z') : CompOk K B' Z c v Z' := by
  cases c with
  | d y => exact ⟨Dq.ext e h.1, h.2⟩
  | l ds =>
    obtain ⟨p, xs, h1, h2, h3, h4⟩ := h
    exact ⟨p, xs, h1, h2, DqAll.ext e h3, h4⟩
  | k => exact h
  | t => exact h
end
end VL
end
section
set_option autoImplicit false
set_option maxRecDepth 100000
set_option maxHeartbeats 2000000
namespace VL
open PySem PySem.Spec PyProof.Rows L2
abbrev DON := D → D → (List D → Prop) → Prop
def OpVN (K : Fg) (r : R2) (o : DON) : Prop := ∀ (B H : Hp) (x y : V) (dx dy : D) (P : List D → Prop) (Q : VK), (∀ a u, B a = some u → H a = some u) → Rv K B H x dx → Rv K B H y dy → o dx dy P →
  (∀ es p xs, P es → H p = none → DqAll K B xs es → Q (.ref p) (upd H p (.lst xs))) → r x y H Q
def wOpN (o : DON) (t u : WE) : WN := fun ρ P => t ρ fun c1 ρ1 => u ρ1 fun c2 ρ2 => ∃ x y, der ρ2 c1 = some x ∧ der ρ2 c2 = some y ∧ o x y fun es => P es ρ2
theorem up_opN {K : Fg} {as : As} {r : R2} {o : DON} {t u : WE} (hv : OpVN K r o) {σ : L2.St} {H : Hp} {Q : VK} (h : upN K as (wOpN o t u) σ H Q) : tOp r (up K as t) (up K as u) σ H Q := by
  obtain ⟨Z, ρ, B, P, S, h, k⟩ := h
  refine ⟨Z, ρ, B, _, S, h, fun c1 ρ1 v1 B1 H1 h1 x1 S1 o1 => ?_⟩
  refine ⟨Z, ρ1, B1, _, S1, h1, fun c2 ρ2 v2 B2 H2 h2 x2 S2 o2 => ?_⟩
  obtain ⟨x, y, e1, e2, h3⟩ := h2
  exact hv B2 H2 v1 v2 x y _ Q S2.subE (rv_of S2 (o1.ext x2) e1) (rv_of S2 o2 e2) h3 fun es p xs q hp dq => k es ρ2 p xs B2 H2 q (x1.trans x2) S2 hp dq
theorem vopN {X : Cx} {as : As} {a b : Expr} {pos : Pos} {t u : WE} {op : Operator} {r : R2} {o : DON} (ho : OpR X (binaryOp op) r) (hv : OpVN X.K r o) (ha : PE X a (up X.K as t)) (hb : PE X b (up X.K as u)) : PE X (.BinOp a op b pos) (upN X.K as (wOpN o t u)) :=
  pe_imp (pe_op ho ha hb) fun _ _ _ h => up_opN hv h
def oRepN : DON := fun x y P => match x, y with
  | .list ds, .int k => 0 ≤ k ∧ k < 2 ^ 62 ∧ ds.length * k.toNat ≤ sizeLine ∧ P (List.replicate k.toNat ds).flatten
  | _, _ => False
theorem opv_repN {K : Fg} : OpVN K (rRepL K) oRepN := by
  intro B H x y dx dy P Q e a b c k
  cases dx <;> cases dy <;> (try (exact (show False from c).elim))
  rename_i ds i
  cases b.int
  obtain ⟨h1, h2, h3, h4⟩ := c
  obtain ⟨l, xs, rfl, q1, r1⟩ := a.list e
  exact ⟨l, i, xs, rfl, rfl, q1, h1, h2, by rw [r1.len]; exact h3, fun p hp => k _ _ _ h4 hp (r1.rep _)⟩
def truD : D → Option Bool
  | .none => some false
  | .bool b => some b
  | .int i => some (i != 0)
  | .list ds => some !ds.isEmpty
  | .tuple ds => some !ds.isEmpty
  | _ => none
theorem emp_len {K : Fg} {B : Hp} {xs : List V} {ds : List D} (r : DqAll K B xs ds) : xs.isEmpty = ds.isEmpty := by
  cases r <;> rfl
theorem tru_of {K : Fg} {B H : Hp} {v : V} {d : D} {b : Bool} (e : ∀ a o, B a = some o → H a = some o) (h : Rv K B H v d) (t : truD d = some b) : TruV K v H b := by
  cases d with
  | none =>
    cases h.non
    cases t
    exact rfl
  | bool k =>
    cases h.bool
    cases t
    exact rfl
  | int i =>
    cases h.int
    cases t
    exact rfl
  | list ds =>
    obtain ⟨a, xs, rfl, h1, r⟩ := h.list e
    cases t
    exact .inl ⟨xs, h1, by rw [emp_len r]⟩
  | tuple ds =>
    obtain ⟨a, xs, rfl, h1, r⟩ := h.tup e
    cases t
    exact .inr (.inl ⟨xs, h1, by rw [emp_len r]⟩)
  | _ => cases t
def wTru (t : WE) : WT := fun ρ P => t ρ fun c ρ' => ∃ d b, der ρ' c = some d ∧ truD d = some b ∧ P b ρ'
theorem ttru {X : Cx} {as : As} {e : Expr} {t : WE} (h : PE X e (up X.K as t)) (he : ∀ whole, PySem.isTrue e X.env whole = (do
    let v ← whole
    standAt e.pos
    holding [v] (truthy v)) := by intro _; rfl) : PT X e (upT X.K as (wTru t)) := by
  refine pt_imp (pt_truth h he) fun σ H Q ⟨Z, ρ, B, P, S, h, k⟩ => ⟨Z, ρ, B, _, S, h, fun c ρ' v B' H' h1 x S' o1 => ?_⟩
  obtain ⟨d, b, e1, e2, h2⟩ := h1
  exact ⟨b, tru_of S'.subE (rv_of S' o1 e1) e2, k _ _ B' H' h2 x S'⟩
def bitsN (n : Nat) : Nat := if n = 0 then 0 else n.log2 + 1
theorem bits_nat (n : Nat) : Builtin.Int.intBits (n : Int) = bitsN n := by
  unfold Builtin.Int.intBits bitsN
  by_cases h : n = 0
  · subst h
    rfl
  · rw [if_neg (by simpa using h), if_neg h, Int.natAbs_natCast]
def wBits (t : WE) : WE := fun ρ P => t ρ fun c ρ1 => ∃ n : Nat, c = .d (.int n) ∧ P (.d (.int (bitsN n : Nat))) ρ1
theorem vbits {X : Cx} {as : As} {o : Expr} {t : WE} {apos pos : Pos} (ho : PE X o (up X.K as t)) (hbase : attributeBase o "bit_length" X.env (eval o X.env) = eval o X.env := by rfl) (hline : (apos.endLine == pos.line) = true := by rfl) : PE X (.Call (.Attribute o "bit_length" apos) [] [] pos) (up X.K as (wBits t)) := by
  refine pe_imp (pe_bits ho hbase hline) fun σ H Q ⟨Z, ρ, B, P, S, h, k⟩ => ⟨Z, ρ, B, _, S, h, fun c ρ1 v B1 H1 h1 x1 S1 o1 => ?_⟩
  obtain ⟨n, rfl, h2⟩ := h1
  have o : Dq X.K B1 v (.int n) := o1
  cases o
  rw [← bits_nat] at h2
  exact ⟨n, rfl, k _ _ _ B1 H1 h2 x1 S1 (Dq.int (K := X.K) (H := B1) _)⟩
abbrev oShr : DO := oI (fun _ j => 0 ≤ j) fun i j => .int (i / 2 ^ j.toNat)
def rOdd : R2 := fun x y H Q => ∃ n : Nat, x = .int (n : Int) ∧ y = .int 1 ∧ Q (.int ((n % 2 : Nat) : Int)) H
def oOdd : DO := fun x y P => match x, y with
  | .int i, .int j => ∃ n : Nat, i = (n : Int) ∧ j = 1 ∧ P (.int ((n % 2 : Nat) : Int))
  | _, _ => False
theorem opv_odd {K : Fg} : OpV K rOdd oOdd := by
  intro B H x y dx dy P Q e a b c k
  cases dx <;> cases dy <;> (try (exact (show False from c).elim))
  rename_i i j
  cases a.int
  cases b.int
  obtain ⟨n, rfl, rfl, c⟩ := c
  exact ⟨n, rfl, rfl, k _ _ _ _ c .no (.int _)⟩
def rngR (lo hi : Int) : List D := (List.range (hi - lo).toNat).map fun (i : Nat) => PyData.int (lo + (((hi - lo).toNat : Nat) : Int) - 1 + (i : Nat) * (-1))
theorem wk_rngR {K : Fg} {B : Hp} {lo hi : Int} : Wk K (Itc (lo + (((hi - lo).toNat : Nat) : Int) - 1) (-1) (hi - lo).toNat) B (rngR lo hi) where
  go := fun i B1 H x s l => by
    show i < (hi - lo).toNat
    simpa [rngR] using l
  stop := fun i B1 H x s l => by
    show (hi - lo).toNat ≤ i
    simpa [rngR] using l
  yld := fun i B1 H v H' x s l y => by
    obtain ⟨rfl, rfl⟩ := y
    refine ⟨.int (lo + (((hi - lo).toNat : Nat) : Int) - 1 + (i : Nat) * (-1)), B1, ?_, .no, .int _⟩
    have l' : i < (hi - lo).toNat := by simpa [rngR] using l
    simp [rngR, l']
def wRevR (r : WR) : WN := fun ρ P => r ρ fun i j ρ' => Small i ∧ Small j ∧ P (rngR i j) ρ'
theorem irevR {X : Cx} {as : As} {tg e : Expr} {r : WR} {p pos : Pos} (hm : X.mg "reversed" = none) (hr : PRg X e (upR X.K as r)) (hg : Gl X "reversed" := by rfl) (hs : starEach [e] X.env = (false, eval e X.env) :: starEach [] X.env := by rfl) : PI X tg (.Call (.Name "reversed" p) [e] [] pos) (upI X.K as (wRevR r)) :=
  pi_imp (pi_revR hg hm hr hs) fun σ H R ⟨Z, ρ, B, P, S, h, k⟩ => ⟨Z, ρ, B, _, S, h, fun i j ρ' B' H' h1 x S' => ⟨h1.1.1, h1.1.2, h1.2.1.1, h1.2.1.2, k _ _ B' H' _ h1.2.2 x S' wk_rngR⟩⟩
end VL
end
section
set_option autoImplicit false
set_option maxRecDepth 100000
set_option maxHeartbeats 2000000
namespace VL
open PySem PySem.Spec PyProof.Rows L2
end VL
end
section
set_option autoImplicit false
set_option maxRecDepth 100000
set_option maxHeartbeats 2000000
namespace VL
open PySem PySem.Spec PyProof.Rows L2
abbrev WER := Str → D → En → Prop
section
variable (K : Fg) (as : As)
def ErrK (Z B : Hp) (σ : L2.St) (R : WER) : Prop := ∀ c x ρ' v B' H', R c x ρ' → ExT B B' → Sv K as Z ρ' σ B' H' → Dq K B' v x → as.2.2 c v σ H'
end
theorem ErrK.ext {K : Fg} {as : As} {Z B B' : Hp} {σ : L2.St} {R : WER} (h : ErrK K as Z B σ R) (e : ExT B B') : ErrK K as Z B' σ R := fun c x ρ' v B2 H2 r x2 => h c x ρ' v B2 H2 r (e.trans x2)
end VL
end
section
set_option autoImplicit false
set_option maxRecDepth 100000
set_option maxHeartbeats 2000000
namespace VL
open PySem PySem.Spec PyProof.Rows L2
structure Clause where
  c : Value
  oi : Option Nat
  ts : Addr → Value → Option Addr → TS
def NameOk (X : Cx) (on : Option Str) (oi : Option Nat) : Prop := match on, oi with
  | none, none => True
  | some n, some i => X.N[i]? = some n ∧ X.env.kindOf n = some .local
  | _, _ => False
inductive ClsOk (X : Cx) : List ExceptHandler → List Clause → Prop
  | nil : ClsOk X [] []
  | cons {x : Str} {on : Option Str} {k : Clause} {b₀ : Stmt} {suite : List Stmt} {np pos' : Pos} {hds : List ExceptHandler} {l : List Clause} (hc : Names X x k.c) (hn : NameOk X on k.oi)
      (hsu : ∀ (a : Addr) (oe : Obj) (cls : Value) (d : Option Addr) (pn : List (Addr × Obj)), Zc cls d oe → (∃ vs, oe.data = .fields vs) → PSs (X.suite a ((a, oe) :: pn)) (b₀ :: suite) (k.ts a cls d)) (r : ClsOk X hds l) :
      ClsOk X (.ExceptHandler (some (.Name x np)) on (b₀ :: suite) pos' :: hds) (k :: l)
section
variable {X : Cx} {pins : List (Addr × Obj)} {σ : L2.St} {H : Hp} {D : Ends} {Wout : WX}
/-- an exception that this frame holds: its object, where all else stands -/
structure Held (X : Cx) (pins : List (Addr × Obj)) (σ : L2.St) (H : Hp) (a : Addr) (cls : Value) (d : Option Addr) (B : Heap) (sI s : Shared) : Prop where
  J : Inv X pins σ H sI
  nb : ∀ b o, sI.heap.get? b = some o → b ∉ frs X.stack → B.get? b = some o
  up : sI.heap.UpToSlots s.heap
  fl : HandSPX.FlyingZ B (X.env :: X.outer) a (Zc cls d) s.heap
  na : H a = none
  os : s.os = sI.os
  ag : AllBare s.gens
theorem Held.out {a : Addr} {cls : Value} {d : Option Addr} {B : Heap} {sI s : Shared} (hf : X.env.frame = some X.env.locals) (h : Held X pins σ H a cls d B sI s) : ∃ oe vs, s.heap.get? a = some oe ∧ Zc cls d oe ∧ oe.data = .fields vs ∧ a ≠ X.env.locals ∧ a ∉ X.fs := by
  obtain ⟨oe, vs, e1, z1, d1⟩ := h.fl.there
  have off : a ∉ frs (X.env :: X.outer) := fun mm => by
    obtain ⟨_, o2, e2, ne2⟩ := h.fl.2.2.1.mem mm
    rw [e1] at e2
    cases e2
    exact ne2 _ d1
  refine ⟨oe, vs, e1, z1, d1, fun q => off ?_, fun mm => off ?_⟩
  · exact List.mem_filterMap.mpr ⟨_, List.mem_cons_self, hf.trans (congrArg some q.symm)⟩
  · obtain ⟨v, v1, v2⟩ := List.mem_filterMap.mp mm
    exact List.mem_filterMap.mpr ⟨v, List.mem_cons_of_mem _ v1, v2⟩
end
end VL
end
section
set_option autoImplicit false
set_option maxRecDepth 100000
set_option maxHeartbeats 2000000
namespace VL
open PySem PySem.Spec PyProof.Rows L2
/-- what is known of the exception that a suite holds in slot i -/
def ExV (K : Fg) (a : Addr) (cls : Value) (d : Option Addr) (i : Nat) (σ : L2.St) (B : Hp) (x : D) : Prop := σ[i]? = some (some (.ref a)) ∧ ∃ (C dx : Addr) (fs : List (Str × V)) (v : V), cls = .ref C ∧ XfC K C ∧ PySem.W.findIn K (.ref C) "value" = some none ∧ d = some dx ∧ B dx = some (.xd fs) ∧ fs.lookup ("value" : Str) = some v ∧ Dq K B v x
theorem ExV.ext {K : Fg} {a : Addr} {cls : Value} {d : Option Addr} {i : Nat} {σ : L2.St} {B B' : Hp} {x : D} (e : ExT B B') (h : ExV K a cls d i σ B x) : ExV K a cls d i σ B' x := by
  obtain ⟨h1, C, dx, fs, v, h2, h3, h4, h5, h6, h7, h8⟩ := h
  exact ⟨h1, C, dx, fs, v, h2, h3, h4, h5, e.keep _ _ h6 rfl, h7, Dq.ext e h8⟩
section
variable (K : Fg) (as : As) (a : Addr) (cls : Value) (d : Option Addr) (i : Nat)
def upES (t : D → WS) : TS := fun E σ H => ∃ Z ρ B w x, ExV K a cls d i σ B x ∧ Sv K as Z ρ σ B H ∧ t x w ρ ∧ Meets K as Z B w E
end
inductive WCl where
  | named (catch_ : Str → Bool) (i : Nat) (ts : D → WS)
  | plain (catch_ : Str → Bool) (ts : WS)
def WCl.catches : WCl → Str → Bool
  | .named b _ _, c => b c
  | .plain b _, c => b c
abbrev asN (as : As) : As := (as.1, as.2.1, nW)
def clOf (K : Fg) (as : As) (c : Value) : WCl → Clause
  | .named _ i ts => ⟨c, some i, fun a cls d => upES K (asN as) a cls d i ts⟩
  | .plain _ ts => ⟨c, none, fun _ _ _ => upS K (asN as) ts⟩
/-- what the clauses ask of the classes -/
inductive ClsV (X : Cx) (as : As) (cs : List Str) : List ExceptHandler → List WCl → List Clause → Prop
  | nil : ClsV X as cs [] [] []
  | cons {x : Str} {on : Option Str} {k : WCl} {c : Value} {b₀ : Stmt} {suite : List Stmt} {np pos' : Pos} {hds : List ExceptHandler} {ks : List WCl} {l : List Clause} (hc : Names X x (clOf X.K as c k).c) (hn : NameOk X on (clOf X.K as c k).oi)
      (hb : ∀ n ∈ cs, ∀ C, X.mg n = some (.ref C) → PySem.W.exmOne X.K (.ref C) c = some (k.catches n))
      (hsu : ∀ (a : Addr) (oe : Obj) (cls : Value) (d : Option Addr) (pn : List (Addr × Obj)), Zc cls d oe → (∃ vs, oe.data = .fields vs) → PSs (X.suite a ((a, oe) :: pn)) (b₀ :: suite) ((clOf X.K as c k).ts a cls d)) (r : ClsV X as cs hds ks l) :
      ClsV X as cs (.ExceptHandler (some (.Name x np)) on (b₀ :: suite) pos' :: hds) (k :: ks) (clOf X.K as c k :: l)
theorem ClsV.ok {X : Cx} {as : As} {cs : List Str} {hds : List ExceptHandler} {ks : List WCl} {l : List Clause} (h : ClsV X as cs hds ks l) : ClsOk X hds l := by
  induction h with
  | nil => exact .nil
  | cons hc hn hb hsu r ih => exact .cons hc hn hsu ih
end VL
namespace VL
open PySem PySem.Spec PyProof.Rows L2
end VL
end
section
set_option autoImplicit false
set_option maxRecDepth 100000
set_option maxHeartbeats 2000000
namespace VL
open PySem PySem.Spec PyProof.Rows L2 GxR
end VL
end
section
set_option autoImplicit false
set_option maxRecDepth 100000
set_option maxHeartbeats 2000000
namespace VL
open PySem PySem.Spec PyProof.Rows L2
end VL
end
section
set_option autoImplicit false
set_option maxRecDepth 100000
set_option maxHeartbeats 2000000
namespace VL
open PySem PySem.Spec PyProof.Rows L2
end VL
end
section
set_option autoImplicit false
set_option maxRecDepth 100000
set_option maxHeartbeats 2000000
namespace VL
open PySem PySem.Spec PyProof.Rows L2
end VL
end
section
set_option autoImplicit false
set_option maxRecDepth 100000
set_option maxHeartbeats 2000000
namespace VL
open PySem PySem.Spec PyProof.Rows L2
end VL
end
section
set_option autoImplicit false
set_option maxRecDepth 100000
set_option maxHeartbeats 2000000
namespace VL
open PySem PySem.Spec PyProof.Rows L2 GenW GxR
end VL
end
section
set_option autoImplicit false
set_option maxRecDepth 100000
set_option maxHeartbeats 2000000
namespace VL
open PySem PySem.Spec PyProof.Rows L2 GenW GxR
end VL
end
section
set_option autoImplicit false
set_option maxRecDepth 100000
set_option maxHeartbeats 2000000
namespace VL
open PySem PySem.Spec PyProof.Rows L2 GenW GxR
end VL
end
section
set_option autoImplicit false
set_option maxRecDepth 100000
set_option maxHeartbeats 2000000
namespace VL
open PySem PySem.Spec PyProof.Rows L2 GenW GxR
end VL
end
section
set_option autoImplicit false
set_option maxRecDepth 100000
set_option maxHeartbeats 2000000
namespace VL
open PySem PySem.Spec PyProof.Rows L2
end VL
end
section
set_option autoImplicit false
set_option maxRecDepth 100000
set_option maxHeartbeats 2000000
namespace VL
open PySem PySem.Spec PyProof.Rows L2
def dctD (kvs : List (Key × D)) : D := .dict (kvs.map fun kv => (keyD kv.1, kv.2))
end VL
end
section
set_option autoImplicit false
set_option maxRecDepth 100000
set_option maxHeartbeats 2000000
namespace VL
open PySem PySem.Spec PyProof.Rows L2
def wordD : D → Bool
  | .int _ => true
  | .str _ => true
  | _ => false
def layPs : List (D × D) → Bool
  | [] => true
  | (k, d) :: r => (PyData.canLay0 d && wordD k) && layPs r
/-- a thing without dicts, or a dict of such -/
def houseD : D → Bool
  | .dict kvs => layPs kvs
  | d => PyData.canLay0 d
end VL
end
section
set_option autoImplicit false
set_option maxRecDepth 100000
set_option maxHeartbeats 2000000
namespace VL
open PySem PySem.Spec PyProof.Rows L2
/-- data without dicts, of that depth, shown in so many signs -/
structure Rs (k m : Nat) (d : D) : Prop where
  lay : PyData.canLay0 d = true
  sh : PyData.showable d = true
  dep : PyData.depth d ≤ k
  len : (PyData.shown d).length ≤ m
theorem Rs.mono {k m k' m' : Nat} {d : D} (h : Rs k m d) (hk : k ≤ k') (hm : m ≤ m') : Rs k' m' d := ⟨h.lay, h.sh, Nat.le_trans h.dep hk, Nat.le_trans h.len hm⟩
theorem Rs.int {x : Int} (h : x.natAbs.log2 < 64) : Rs 0 65 (.int x) := by
  refine ⟨rfl, ?_, Nat.le_refl _, ?_⟩
  · simp only [PyData.showable]
    exact decide_eq_true (by omega)
  · have := int_text_length_le (a := x) (k := 64) (by decide) h
    simp only [PyData.shown]
    rw [PySem.ofString_length]
    exact this
theorem rs_all {k m : Nat} : ∀ {ds : List D}, (∀ d ∈ ds, Rs k m d) → PyData.canLayAll0 ds = true ∧ PyData.showableAll ds = true ∧ PyData.depthAll ds ≤ k ∧ ((PyData.shownAll ds).map (·.length)).sum ≤ m * ds.length ∧ (PyData.shownAll ds).length = ds.length
  | [], _ => ⟨rfl, rfl, Nat.zero_le _, Nat.zero_le _, rfl⟩
  | d :: r, h => by
    obtain ⟨a, b, c, e, f⟩ := rs_all (ds := r) fun x m => h x (List.mem_cons_of_mem _ m)
    have hd := h d (List.mem_cons_self ..)
    refine ⟨by simp only [PyData.canLayAll0, hd.lay, a, Bool.and_self], by simp only [PyData.showableAll, hd.sh, b, Bool.and_self], ?_, ?_, ?_⟩
    · simp only [PyData.depthAll]
      have := hd.dep
      omega
    · simp only [PyData.shownAll, List.map_cons, List.sum_cons, List.length_cons]
      have := hd.len
      rw [Nat.mul_succ]
      omega
    · simp only [PyData.shownAll, List.length_cons, f]
theorem Rs.tup {k m n : Nat} {ds : List D} (h : ∀ d ∈ ds, Rs k m d) (l : ds.length ≤ n) : Rs (k + 1) ((m + 2) * n + 3) (.tuple ds) := by
  obtain ⟨a, b, c, e, f⟩ := rs_all h
  refine ⟨by simpa only [PyData.canLay0] using a, by simpa only [PyData.showable] using b, by simp only [PyData.depth]; omega, ?_⟩
  simp only [PyData.shown]
  have t := tupleText_len_le (PyData.shownAll ds)
  have u : (m + 2) * ds.length ≤ (m + 2) * n := Nat.mul_le_mul_left _ l
  rw [Nat.add_mul] at u
  omega
theorem Rs.lst {k m n : Nat} {ds : List D} (h : ∀ d ∈ ds, Rs k m d) (l : ds.length ≤ n) : Rs (k + 1) ((m + 2) * n + 3) (.list ds) := by
  obtain ⟨a, b, c, e, f⟩ := rs_all h
  refine ⟨by simpa only [PyData.canLay0] using a, by simpa only [PyData.showable] using b, by simp only [PyData.depth]; omega, ?_⟩
  simp only [PyData.shown]
  have t := listText_len_le (PyData.shownAll ds)
  have u : (m + 2) * ds.length ≤ (m + 2) * n := Nat.mul_le_mul_left _ l
  rw [Nat.add_mul] at u
  omega
/-- a house: of that depth, shown in so many signs -/
structure Rh (k m : Nat) (d : D) : Prop where
  house : houseD d = true
  sh : PyData.showable d = true
  dep : PyData.depth d ≤ k
  len : (PyData.shown d).length ≤ m
theorem rh_kv {k m : Nat} : ∀ {kvs : List (Key × D)}, (∀ kv ∈ kvs, Rs k m kv.2 ∧ (PyData.shown (keyD kv.1)).length ≤ 40 ∧ PyData.showable (keyD kv.1) = true) →
    layPs (kvs.map fun kv => (keyD kv.1, kv.2)) = true ∧ PyData.showableKv (kvs.map fun kv => (keyD kv.1, kv.2)) = true ∧ PyData.depthKv (kvs.map fun kv => (keyD kv.1, kv.2)) ≤ k ∧ ((PyData.shownKv (kvs.map fun kv => (keyD kv.1, kv.2))).map (·.length)).sum ≤ (m + 42) * kvs.length ∧ (PyData.shownKv (kvs.map fun kv => (keyD kv.1, kv.2))).length = kvs.length
  | [], _ => ⟨rfl, rfl, Nat.zero_le _, Nat.zero_le _, rfl⟩
  | kv :: r, h => by
    obtain ⟨a, b, c, e, f⟩ := rh_kv (kvs := r) fun x m => h x (List.mem_cons_of_mem _ m)
    obtain ⟨hd, hk, hs⟩ := h kv (List.mem_cons_self ..)
    have w : wordD (keyD kv.1) = true := by cases kv.1 <;> rfl
    have dk : PyData.depth (keyD kv.1) = 0 := by cases kv.1 <;> rfl
    refine ⟨?_, ?_, ?_, ?_, ?_⟩
    · show ((PyData.canLay0 kv.2 && wordD (keyD kv.1)) && layPs _) = true
      rw [hd.lay, w, a]
      rfl
    · simp only [List.map_cons, PyData.showableKv, hs, hd.sh, b, Bool.and_self]
    · simp only [List.map_cons, PyData.depthKv, dk]
      have := hd.dep
      omega
    · simp only [List.map_cons, PyData.shownKv, List.sum_cons, List.length_cons, strLen_append]
      have := hd.len
      have t : (": " : Str).length = 2 := by decide +kernel
      rw [Nat.mul_succ]
      omega
    · simp only [List.map_cons, PyData.shownKv, List.length_cons, f]
theorem Rh.of {k m n : Nat} {kvs : List (Key × D)} (h : ∀ kv ∈ kvs, Rs k m kv.2 ∧ (PyData.shown (keyD kv.1)).length ≤ 40 ∧ PyData.showable (keyD kv.1) = true) (l : kvs.length ≤ n) : Rh (k + 1) ((m + 44) * n + 3) (dctD kvs) := by
  obtain ⟨a, b, c, e, f⟩ := rh_kv h
  refine ⟨a, by unfold dctD; simpa only [PyData.showable] using b, by unfold dctD; simp only [PyData.depth]; omega, ?_⟩
  unfold dctD
  simp only [PyData.shown]
  have t := dictText_len_le (PyData.shownKv (kvs.map fun kv => (keyD kv.1, kv.2)))
  have u : (m + 44) * kvs.length ≤ (m + 44) * n := Nat.mul_le_mul_left _ l
  rw [Nat.add_mul] at u e
  omega
end VL
end
section
set_option autoImplicit false
set_option maxRecDepth 100000
set_option maxHeartbeats 4000000
set_option exponentiation.threshold 7000
namespace K35
open PySem PySem.Spec PyProof.Rows L2 VL
def rD (q : Rat) : D := .tuple [.int q.num, .int (q.den : Int)]
def isIntD : D → Bool
  | .int _ => true
  | _ => false
def fromD (m : Int) : D → Bool
  | .int i => decide (m ≤ i)
  | _ => false
def intL (ns : List Int) : D := .list (ns.map .int)
def Bd (n : Int) : Prop := n.natAbs < 2 ^ 4000
def S_is_integer : VL.Spec := fun ρ Q => ∃ d, ρ = [.dat d] ∧ Q (.d (.bool (isIntD d))) [.un]
def S_is_integer_from : VL.Spec := fun ρ Q => ∃ d m, ρ = [.dat d, .dat (.int m)] ∧ Q (.d (.bool (fromD m d))) [.un, .un]
def S_lowest : VL.Spec := fun ρ Q => ∃ a b : Int, ρ = [.dat (.int a), .dat (.int b)] ∧ 0 < b ∧ Bd b ∧ Q (.d (rD (a / b))) [.un, .un]
def S_is_number : VL.Spec := fun ρ Q => ∃ q : Rat, ρ = [.dat (rD q)] ∧ Bd q.den ∧ Q (.d (.bool true)) [.un]
def intT (ns : List Int) : D := .tuple (ns.map .int)
/-- the exponents of the powers of 2 that make up a number, falling -/
def sqs (m : Nat) : List Nat := (List.range (bitsN m)).map fun i => bitsN m - 1 - i
def bit (m a : Nat) : Bool := decide (m / 2 ^ a % 2 = 1)
def stps (m : Nat) : List Nat := (sqs m).filter (bit m)
def wsum (m : Nat) : Nat := ((stps m).map fun a => a * 2 ^ a).sum
/-- all rows of so many throws -/
def rows : Nat → List (List Int)
  | 0 => [[]]
  | n + 1 => (rows n).flatMap fun r => [r ++ [0], r ++ [1]]
def rowsD (rs : List (List Int)) : List D := rs.map intT
def best (m : Nat) : List (List Int) := (stps m).flatMap rows
def meanNum (n : Nat) (t u : Int) : Int := ((List.range (n + 1)).map fun h => ((wsum (bin n h) : Nat) : Int) * t ^ h * u ^ (n - h)).sum
def mostL (n : Nat) : List Int := (List.range (n + 1)).map fun h => ((wsum (bin n h) : Nat) : Int)
structure Sh (q : Rat) : Prop where
  lo : 0 < q.num
  hi : q.num < q.den
  den : q.den ≤ 60
def S_check_count : VL.Spec := fun ρ Q => ∃ n : Nat, ρ = [.dat (.int n)] ∧ 1 ≤ n ∧ Q (.d .none) [.un]
def S_power : VL.Spec := fun ρ Q => ∃ (b : Int) (e : Nat), ρ = [.dat (.int b), .dat (.int e)] ∧ 0 ≤ b ∧ b ≤ 60 ∧ e ≤ 12 ∧ Q (.d (.int (b ^ e))) [.un, .un]
def S__law_power : VL.Spec := fun ρ Q => ∃ (b : Int) (e : Nat), ρ = [.dat (.int b), .dat (.int e)] ∧ 0 ≤ b ∧ b ≤ 60 ∧ e ≤ 12 ∧ Q (.d (.int (b ^ e))) [.un, .un]
def S_stretches_of : VL.Spec := fun ρ Q => ∃ m : Nat, ρ = [.dat (.int m)] ∧ m ≤ 1000 ∧ Q (.new ((stps m).map fun a => .int (a : Nat))) [.un]
def S_most : VL.Spec := fun ρ Q => ∃ n : Nat, ρ = [.dat (.int n)] ∧ 1 ≤ n ∧ n ≤ 12 ∧ Q (.d (intT (mostL n))) [.un]
def S_mean_out : VL.Spec := fun ρ Q => ∃ (n : Nat) (q : Rat), ρ = [.dat (.int n), .dat (rD q)] ∧ 1 ≤ n ∧ n ≤ 12 ∧ Sh q ∧ Q (.d (rD ((meanNum n q.num (q.den - q.num) : Int) / (((q.den : Int) ^ n : Int) : Rat)))) [.un, .un]
def S__law_rows : VL.Spec := fun ρ Q => ∃ n : Nat, ρ = [.dat (.int n)] ∧ n ≤ 12 ∧ Q (.d (.list (rowsD (rows n)))) [.un]
def S__law_best : VL.Spec := fun ρ Q => ∃ ds : List D, ρ = [.dat (.list ds)] ∧ 1 ≤ ds.length ∧ ds.length ≤ 1000 ∧ Q (.d (.list (rowsD (best ds.length)))) [.un]
def S__law_mean : VL.Spec := fun ρ Q => ∃ (n : Nat) (q : Rat), ρ = [.dat (.int n), .dat (rD q)] ∧ 1 ≤ n ∧ n ≤ 12 ∧ Sh q ∧ Q (.d (rD ((meanNum n q.num (q.den - q.num) : Int) / (((q.den : Int) ^ n : Int) : Rat)))) [.un, .un]
def S__law_low : VL.Spec := fun ρ Q => ∃ a b : Int, ρ = [.dat (.int a), .dat (.int b)] ∧ 0 < b ∧ Bd b ∧ Q (.d (rD (a / b))) [.un, .un]
def S__law_well : VL.Spec := fun ρ Q => ∃ (ns : List Int) (k : Nat), ρ = [.dat (intL ns), .dat (.int k)] ∧ ns.length ≤ 63 ∧ k ≤ 100 ∧ ∀ a b : Int, 0 ≤ b → b < 2 ^ 80 → Q (.new [.int a, .int b, .int 0]) [.un, .un]
/-- whatever is drawn -/
def S__law_dip : VL.Spec := fun ρ Q => ∃ a b m c : Int, ρ = [.lst true [.int a, .int b, .int c], .dat (.int m)] ∧ 0 ≤ b ∧ b < 2 ^ 80 ∧ 0 ≤ c ∧ c ≤ 1000 ∧ 0 < m ∧ m < 2 ^ 30 ∧ ∀ (r : Nat) (a' c' : Int), (r : Int) < m → 0 ≤ c' → c' ≤ c + 1 → Q (.d (.int r)) [.lst true [.int a', .int b, .int c'], .un]
/-- data of ints, lists and tuples of that depth -/
inductive Ok : Nat → D → Prop
  | int (j : Nat) (i : Int) : Ok (j + 1) (.int i)
  | lst (j : Nat) (ds : List D) : ds.length ≤ 100 → (∀ d ∈ ds, Ok j d) → Ok (j + 1) (.list ds)
  | tup (j : Nat) (ds : List D) : ds.length ≤ 100 → (∀ d ∈ ds, Ok j d) → Ok (j + 1) (.tuple ds)
def S__law_same (j : Nat) : VL.Spec := fun ρ Q => ∃ d, ρ = [.dat d, .dat d] ∧ Ok j d ∧ Q (.d (.bool true)) [.un, .un]
def S_law : VL.Spec := fun ρ Q => ∃ ns : List Int, ρ = [.dat (intL ns)] ∧ ns.length ≤ 63 ∧ Q (.d (.bool true)) [.un]
end K35
end
section
set_option autoImplicit false
set_option maxRecDepth 100000
set_option maxHeartbeats 4000000
set_option exponentiation.threshold 7000
namespace K35
open PySem PySem.Spec PyProof.Rows L2 VL
theorem qdiv (q : Rat) : ((q.num : Int) : Rat) / ((q.den : Int) : Rat) = q := by
  rw [← Rat.divInt_eq_div]
  exact Rat.num_divInt_den q
theorem low_num (a b : Int) (h : 0 < b) : a.fdiv (Int.gcd a b : Nat) = ((a : Rat) / (b : Rat)).num := by
  rw [← Rat.divInt_eq_div, Rat.num_divInt, Int.sign_eq_one_of_pos h, Int.one_mul, Int.gcd_comm, Int.fdiv_eq_ediv_of_nonneg _ (Int.natCast_nonneg _)]
theorem low_den (a b : Int) (h : 0 < b) : b.fdiv (Int.gcd a b : Nat) = (((a : Rat) / (b : Rat)).den : Int) := by
  rw [← Rat.divInt_eq_div, Rat.den_divInt, if_neg (by omega), Int.gcd_comm, Int.fdiv_eq_ediv_of_nonneg _ (Int.natCast_nonneg _)]
  have e : b = (b.natAbs : Int) := by omega
  conv => lhs; arg 1; rw [e]
  rw [Int.natCast_ediv]
theorem gcd_pos (a b : Int) (h : 0 < b) : 0 < Int.gcd a b := Int.gcd_pos_of_ne_zero_right _ (by omega)
theorem gcd_le (a b : Int) (h : 0 < b) : (Int.gcd a b : Int) ≤ b := Int.gcd_le_right a h
theorem log2_lt {n k : Nat} (h : n < 2 ^ k) (hk : 0 < k) : n.log2 < k := by
  by_cases z : n = 0
  · subst z
    simpa using hk
  · exact (Nat.log2_lt z).mpr h
theorem cdv_gcd (x a b : Int) (h : 0 < b) (hb : Bd b) : CDv x (Int.gcd a b : Nat) := by
  have h1 := gcd_pos a b h
  have h2 := gcd_le a b h
  have h3 : (Int.gcd a b) < 2 ^ 4000 := by
    unfold Bd at hb
    omega
  refine .inr ⟨by omega, ?_⟩
  rw [Int.natAbs_natCast]
  exact Nat.lt_trans (log2_lt h3 (by decide)) (by decide)
theorem cdv_pos {x m : Int} (h : 0 < m) (hb : Bd m) : CDv x m := .inr ⟨h, Nat.lt_trans (log2_lt hb (by decide)) (by decide)⟩
theorem small_bd {m : Int} (h : 0 ≤ m) (hb : m < 2 ^ 64) : Bd m := by
  unfold Bd
  have : (2 : Nat) ^ 64 ≤ 2 ^ 4000 := Nat.pow_le_pow_right (by decide) (by decide)
  omega
theorem den_pos (q : Rat) : (0 : Int) < (q.den : Int) := by
  have := q.den_pos
  omega
theorem low_tup (a b : Int) (h : 0 < b) : PyData.tuple [.int (a.fdiv (Int.gcd a b : Nat)), .int (b.fdiv (Int.gcd a b : Nat))] = rD ((a : Rat) / (b : Rat)) := by
  rw [low_num a b h, low_den a b h]
  rfl
theorem shp_rD (q : Rat) : shp (rD q) = true := rfl
theorem eqv_rD (p q : Rat) : PyData.eqv (rD p) (rD q) = decide (p = q) := by
  simp only [rD, PyData.eqv, PyData.eqvAll, Bool.and_true]
  by_cases h : p = q
  · subst h
    simp
  · rw [decide_eq_false h]
    rw [Bool.and_eq_false_iff]
    by_cases n : p.num = q.num
    · right
      have : p.den ≠ q.den := fun z => h (Rat.ext n z)
      simp
      omega
    · left
      simpa using n
theorem cok_bd {x y : Int} (hx : x.natAbs < 2 ^ 490000) (hy : y.natAbs < 2 ^ 490000) : COk x y := by
  refine .inr ?_
  have h1 := log2_lt hx (by decide)
  have h2 := log2_lt hy (by decide)
  show x.natAbs.log2 + y.natAbs.log2 < 1000000
  omega
theorem bd_big {x : Int} (h : Bd x) : x.natAbs < 2 ^ 490000 := Nat.lt_of_lt_of_le h (Nat.pow_le_pow_right (by decide) (by decide))
end K35
end
section
set_option autoImplicit false
set_option maxRecDepth 100000
set_option maxHeartbeats 4000000
namespace K35
open PySem PySem.Spec PyProof.Rows L2 VL
def topS (i : Nat) : Stmt := PySem.Challenge.pw_tosstrees_k35_whole_means_of_a_crooked_c.main.body.getD i (.Pass ⟨0, 0, 0, 0⟩)
structure Tx (mg : Str → Option Value) : Prop where
  abs_ : mg "abs" = none
  bool_ : mg "bool" = none
  comb : mg "comb" = some (.builtin "math.comb")
  enumerate_ : mg "enumerate" = none
  gcd : mg "gcd" = some (.builtin "math.gcd")
  int_ : mg "int" = none
  isinstance : mg "isinstance" = none
  len_ : mg "len" = none
  list_ : mg "list" = none
  max_ : mg "max" = none
  min_ : mg "min" = none
  range_ : mg "range" = none
  reversed_ : mg "reversed" = none
  str_ : mg "str" = none
  sum_ : mg "sum" = none
  tuple_ : mg "tuple" = none
section
variable {P : Program} {w : World} {K : PySem.W.Frag} {mg : Str → Option Value} {base : Heap} {ts : List Addr}
abbrev s__law_well : Stmt := topS 17
theorem sc__law_well : FnScope ["script", "place", "cell"] ["script", "place"] (defScope s__law_well) := ⟨rfl, rfl, rfl, by decide +kernel, rfl, by decide +kernel, by decide +kernel⟩
def t__law_well : WS :=
  (wSeq (wAsg (wIf (wTest (wOp oLt (wVar 1) (wCB oLen (wCons (wVar 0) wNil)))) (wOp itemD (wVar 0) (wVar 1)) (wOp oAdd (wOp oMul (wVar 1) (wC (.int 7919))) (wOp oMul (wCB oLen (wCons (wVar 0) wNil)) (wC (.int 104729))))) (wSet 2))
  (wRetN (wLst (wCons (wCB oMax2 (wCons (wC (.int 0)) (wCons (wOp oSub (wCB oAbs (wCons (wVar 2) wNil)) (wOp oPow (wC (.int 10)) (wC (.int 18)))) wNil))) (wCons (wOp oMod (wCB oToInt (wCons (wOp oAdd (wOp oAdd (wOp oMul (wVar 2) (wC (.int 48611))) (wOp oMul (wVar 1) (wC (.int 6700417)))) (wC (.int 31337))) wNil)) (wOp oAdd (wOp oPow (wC (.int 10)) (wC (.int 24))) (wC (.int 7)))) (wCons (wC (.int 0)) wNil))))))
theorem d__law_well {f__law_well_ : Addr} {cdv : Value} {A : Around} {outer : List PySem.Env} {s : Shared} {H : Hp} {E : XK} {as : List (Option V)} (T : Tx mg) (hr : Room 0 (A.deeper (envOfC "_law_well" (defScope s__law_well) s.heap.objs.size f__law_well_ cdv))) :
    PSs (cxOf CX0 P w K mg base ["script", "place", "cell"] "_law_well" (defScope s__law_well) f__law_well_ cdv A outer s H E).nox (defBody s__law_well) (upS K (as, ts, nW) t__law_well) :=
  (scons (sset (i := 2) sc__law_well.nd (vif (tcmp op_lt (opv_I0 fun _ _ _ => .bl _) (vv 1) (vcb call_len cv_len T.len_ (by decide +kernel) (acons (vv 0) anil))) (vix ix_seq opv_ix (vv 0) (vv 1)) (vop op_add' opv_add (vop op_mul' (opv_I fun _ _ _ => .int _) (vv 1) vint) (vop op_mul' (opv_I fun _ _ _ => .int _) (vcb call_len cv_len T.len_ (by decide +kernel) (acons (vv 0) anil)) vint))))
  (sone (sretN (vlst (acons (vcb (call_max2 rfl) (cv_i2 fun _ _ _ => .int _) T.max_ (by decide +kernel) (acons vint (acons (vop op_sub (opv_I0 fun _ _ _ => .int _) (vcb call_abs (cv_i1 fun _ _ => .int _) T.abs_ (by decide +kernel) (acons (vv 2) anil)) (vop op_pow (opv_I fun _ _ _ => .int _) vint vint)) anil))) (acons (vop op_modN (opv_I fun _ _ _ => .int _) (vct call_int1 cv_int T.int_ (by decide +kernel) (acons (vop op_add' opv_add (vop op_add' opv_add (vop op_mul' (opv_I fun _ _ _ => .int _) (vv 2) vint) (vop op_mul' (opv_I fun _ _ _ => .int _) (vv 1) vint)) vint) anil)) (vop op_add' opv_add (vop op_pow (opv_I fun _ _ _ => .int _) vint vint) vint)) (acons vint anil)))))))
abbrev s__law_dip : Stmt := topS 18
theorem sc__law_dip : FnScope ["well", "upto", "mixed", "figure"] ["well", "upto"] (defScope s__law_dip) := ⟨rfl, rfl, rfl, by decide +kernel, rfl, by decide +kernel, by decide +kernel⟩
def t__law_dip : WS :=
  (wSeq (wIfS (wTest (wOp oGt (wOp itemD (wVar 0) (wC (.int 0))) (wC (.int 0))))
  (wSeq (wAsg (wOp oMod (wCB oToInt (wCons (wOp itemD (wVar 0) (wC (.int 0))) wNil)) (wVar 1)) (wSet 3))
  (wSeq (wSetIt 0 (wC (.int 0)) (wOp oFdiv (wOp itemD (wVar 0) (wC (.int 0))) (wVar 1)))
  (wRet (wVar 3))))
  wNext)
  (wSeq (wSetIt 0 (wC (.int 2)) (wOp oAdd (wOp itemD (wVar 0) (wC (.int 2))) (wC (.int 1))))
  (wSeq (wAsg (wOp oMod (wOp oPowW (wCB oToInt (wCons (wOp oAdd (wOp itemD (wVar 0) (wC (.int 1))) (wOp oMul (wC (.int 1000003)) (wOp itemD (wVar 0) (wC (.int 2))))) wNil)) (wC (.int 3))) (wOp oAdd (wOp oPow (wC (.int 10)) (wC (.int 25))) (wC (.int 13)))) (wSet 2))
  (wSeq (wAsg (wOp oMod (wOp oPowW (wCB oToInt (wCons (wOp oAdd (wVar 2) (wOp oMul (wC (.int 77347)) (wOp itemD (wVar 0) (wC (.int 2))))) wNil)) (wC (.int 2))) (wOp oAdd (wOp oPow (wC (.int 10)) (wC (.int 24))) (wC (.int 7)))) (wSet 2))
  (wRet (wOp oMod (wCB oToInt (wCons (wOp oFdiv (wVar 2) (wC (.int 4096))) wNil)) (wVar 1)))))))
theorem d__law_dip {f__law_dip_ : Addr} {cdv : Value} {A : Around} {outer : List PySem.Env} {s : Shared} {H : Hp} {E : XK} {as : List (Option V)} (T : Tx mg) (hr : Room 0 (A.deeper (envOfC "_law_dip" (defScope s__law_dip) s.heap.objs.size f__law_dip_ cdv))) :
    PSs (cxOf CX0 P w K mg base ["well", "upto", "mixed", "figure"] "_law_dip" (defScope s__law_dip) f__law_dip_ cdv A outer s H E).nox (defBody s__law_dip) (upS K (as, ts, nW) t__law_dip) :=
  (scons (sif (tcmp op_gt (opv_I0 fun _ _ _ => .bl _) (vix ix_seq opv_ix (vv 0) vint) vint)
  (scons (sset (i := 3) sc__law_dip.nd (vop op_modN (opv_I fun _ _ _ => .int _) (vct call_int1 cv_int T.int_ (by decide +kernel) (acons (vix ix_seq opv_ix (vv 0) vint) anil)) (vv 1)))
  (scons (ssetit 0 (vop op_fdiv' (opv_I fun _ _ _ => .int _) (vix ix_seq opv_ix (vv 0) vint) (vv 1)) vint)
  (sone (sret (vv 3)))))
  snil)
  (scons (ssetit 0 (vop op_add' opv_add (vix ix_seq opv_ix (vv 0) vint) vint) vint)
  (scons (sset (i := 2) sc__law_dip.nd (vop op_modN (opv_I fun _ _ _ => .int _) (vop op_powW (opv_I fun _ _ _ => .int _) (vct call_int1 cv_int T.int_ (by decide +kernel) (acons (vop op_add' opv_add (vix ix_seq opv_ix (vv 0) vint) (vop op_mul' (opv_I fun _ _ _ => .int _) vint (vix ix_seq opv_ix (vv 0) vint))) anil)) vint) (vop op_add' opv_add (vop op_pow (opv_I fun _ _ _ => .int _) vint vint) vint)))
  (scons (sset (i := 2) sc__law_dip.nd (vop op_modN (opv_I fun _ _ _ => .int _) (vop op_powW (opv_I fun _ _ _ => .int _) (vct call_int1 cv_int T.int_ (by decide +kernel) (acons (vop op_add' opv_add (vv 2) (vop op_mul' (opv_I fun _ _ _ => .int _) vint (vix ix_seq opv_ix (vv 0) vint))) anil)) vint) (vop op_add' opv_add (vop op_pow (opv_I fun _ _ _ => .int _) vint vint) vint)))
  (sone (sret (vop op_modN (opv_I fun _ _ _ => .int _) (vct call_int1 cv_int T.int_ (by decide +kernel) (acons (vop op_fdiv' (opv_I fun _ _ _ => .int _) (vv 2) vint) anil)) (vv 1))))))))
abbrev s__law_low : Stmt := topS 25
theorem sc__law_low : FnScope ["top", "bottom", "one", "other"] ["top", "bottom"] (defScope s__law_low) := ⟨rfl, rfl, rfl, by decide +kernel, rfl, by decide +kernel, by decide +kernel⟩
def t__law_low : WS :=
  (wSeq (wPar 2 3 (wCons (wCB oAbs (wCons (wVar 0) wNil)) (wCons (wVar 1) wNil)))
  (wSeq (wWhile (wTest (wOp oNe (wVar 3) (wC (.int 0))))
  (wPar 2 3 (wCons (wVar 3) (wCons (wOp oMod (wCB oToInt (wCons (wVar 2) wNil)) (wVar 3)) wNil))))
  (wRet (wTup (wCons (wOp oFdiv (wVar 0) (wVar 2)) (wCons (wOp oFdiv (wVar 1) (wVar 2)) wNil))))))
theorem d__law_low {f__law_low_ : Addr} {cdv : Value} {A : Around} {outer : List PySem.Env} {s : Shared} {H : Hp} {E : XK} {as : List (Option V)} (T : Tx mg) (hr : Room 0 (A.deeper (envOfC "_law_low" (defScope s__law_low) s.heap.objs.size f__law_low_ cdv))) :
    PSs (cxOf CX0 P w K mg base ["top", "bottom", "one", "other"] "_law_low" (defScope s__law_low) f__law_low_ cdv A outer s H E).nox (defBody s__law_low) (upS K (as, ts, nW) t__law_low) :=
  (scons (spar (i := 2) (j := 3) rfl sc__law_low.nd (acons (vcb call_abs (cv_i1 fun _ _ => .int _) T.abs_ (by decide +kernel) (acons (vv 0) anil)) (acons (vv 1) anil)))
  (scons (swhile PassesOwn.never (tcmp (op_neD hr.units) opv_ne (vv 3) vint)
  (sone (spar (i := 2) (j := 3) rfl sc__law_low.nd (acons (vv 3) (acons (vop op_modN (opv_I fun _ _ _ => .int _) (vct call_int1 cv_int T.int_ (by decide +kernel) (acons (vv 2) anil)) (vv 3)) anil)))))
  (sone (sret (vtup (acons (vop op_fdiv' (opv_I fun _ _ _ => .int _) (vv 0) (vv 2)) (acons (vop op_fdiv' (opv_I fun _ _ _ => .int _) (vv 1) (vv 2)) anil)))))))
abbrev s__law_rows : Stmt := topS 20
theorem sc__law_rows : FnScope ["n", "found", "turn", "longer", "row"] ["n"] (defScope s__law_rows) := ⟨rfl, rfl, rfl, by decide +kernel, rfl, by decide +kernel, by decide +kernel⟩
def t__law_rows : WS :=
  (wSeq (wAsg (wStay (wLst (wCons (wTup wNil) wNil))) (wSet 1))
  (wSeq (wFor (wRng1 (wCons (wVar 0) wNil)) (wSet 2)
  (wSeq (wAsg (wStay (wLst wNil)) (wSet 3))
  (wSeq (wFor (wSeqOf (wVar 1)) (wSet 4)
  (wAsg (wOp oAdd (wVar 3) (wStay (wLst (wCons (wOp oAdd (wVar 4) (wTup (wCons (wC (.int 0)) wNil))) (wCons (wOp oAdd (wVar 4) (wTup (wCons (wC (.int 1)) wNil))) wNil))))) (wSet 3)))
  (wAsg (wVar 3) (wSet 1)))))
  (wRet (wVar 1))))
theorem d__law_rows {f__law_rows_ : Addr} {cdv : Value} {A : Around} {outer : List PySem.Env} {s : Shared} {H : Hp} {E : XK} {as : List (Option V)} (T : Tx mg) (hr : Room 0 (A.deeper (envOfC "_law_rows" (defScope s__law_rows) s.heap.objs.size f__law_rows_ cdv))) :
    PSs (cxOf CX0 P w K mg base ["n", "found", "turn", "longer", "row"] "_law_rows" (defScope s__law_rows) f__law_rows_ cdv A outer s H E).nox (defBody s__law_rows) (upS K (as, ts, nW) t__law_rows) :=
  (scons (sset (i := 1) sc__law_rows.nd (vstay (vlst (acons (vtup anil) anil))))
  (scons (sfor rfl (irng1 T.range_ (acons (vv 0) anil)) (gset (i := 2) sc__law_rows.nd)
  (scons (sset (i := 3) sc__law_rows.nd (vstay (vlst anil)))
  (scons (sfor rfl (iseq (vv 1)) (gset (i := 4) sc__law_rows.nd)
  (sone (sset (i := 3) sc__law_rows.nd (vop op_add' opv_add (vv 3) (vstay (vlst (acons (vop op_add' opv_add (vv 4) (vtup (acons vint anil))) (acons (vop op_add' opv_add (vv 4) (vtup (acons vint anil))) anil))))))) PassesOwn.never)
  (sone (sset (i := 1) sc__law_rows.nd (vv 3))))) PassesOwn.never)
  (sone (sret (vv 1)))))
abbrev s__law_power : Stmt := topS 21
theorem sc__law_power : FnScope ["b", "n", "found", "turn"] ["b", "n"] (defScope s__law_power) := ⟨rfl, rfl, rfl, by decide +kernel, rfl, by decide +kernel, by decide +kernel⟩
def t__law_power : WS :=
  (wSeq (wAsg (wC (.int 1)) (wSet 2))
  (wSeq (wFor (wRng1 (wCons (wVar 1) wNil)) (wSet 3)
  (wAsg (wOp oMul (wVar 2) (wVar 0)) (wSet 2)))
  (wRet (wVar 2))))
theorem d__law_power {f__law_power_ : Addr} {cdv : Value} {A : Around} {outer : List PySem.Env} {s : Shared} {H : Hp} {E : XK} {as : List (Option V)} (T : Tx mg) (hr : Room 0 (A.deeper (envOfC "_law_power" (defScope s__law_power) s.heap.objs.size f__law_power_ cdv))) :
    PSs (cxOf CX0 P w K mg base ["b", "n", "found", "turn"] "_law_power" (defScope s__law_power) f__law_power_ cdv A outer s H E).nox (defBody s__law_power) (upS K (as, ts, nW) t__law_power) :=
  (scons (sset (i := 2) sc__law_power.nd vint)
  (scons (sfor rfl (irng1 T.range_ (acons (vv 1) anil)) (gset (i := 3) sc__law_power.nd)
  (sone (sset (i := 2) sc__law_power.nd (vop op_mul' (opv_I fun _ _ _ => .int _) (vv 2) (vv 0)))) PassesOwn.never)
  (sone (sret (vv 2)))))
abbrev s__law_best : Stmt := topS 22
theorem sc__law_best : FnScope ["rows", "turn", "found", "size", "some", "longer", "row"] ["rows"] (defScope s__law_best) := ⟨rfl, rfl, rfl, by decide +kernel, rfl, by decide +kernel, by decide +kernel⟩
def t__law_best : WS :=
  (wSeq (wPar 2 3 (wCons (wStay (wLst wNil)) (wCons (wC (.int 1)) wNil)))
  (wSeq (wWhile (wTest (wOp oLe (wOp oMul (wC (.int 2)) (wVar 3)) (wCB oLen (wCons (wVar 0) wNil))))
  (wAsg (wOp oMul (wC (.int 2)) (wVar 3)) (wSet 3)))
  (wSeq (wFor (wRng1 (wCons (wBits (wCB oLen (wCons (wVar 0) wNil))) wNil)) (wSet 1)
  (wSeq (wIfS (wTest (wOp oGe (wOp oSub (wCB oLen (wCons (wVar 0) wNil)) (wCB oLen (wCons (wVar 2) wNil))) (wVar 3)))
  (wSeq (wAsg (wStay (wLst (wCons (wTup wNil) wNil))) (wSet 4))
  (wSeq (wWhile (wTest (wOp oLt (wCB oLen (wCons (wVar 4) wNil)) (wVar 3)))
  (wSeq (wAsg (wStay (wLst wNil)) (wSet 5))
  (wSeq (wFor (wSeqOf (wVar 4)) (wSet 6)
  (wAsg (wOp oAdd (wVar 5) (wStay (wLst (wCons (wOp oAdd (wVar 6) (wTup (wCons (wC (.int 0)) wNil))) (wCons (wOp oAdd (wVar 6) (wTup (wCons (wC (.int 1)) wNil))) wNil))))) (wSet 5)))
  (wAsg (wVar 5) (wSet 4)))))
  (wAsg (wOp oAdd (wVar 2) (wVar 4)) (wSet 2))))
  wNext)
  (wAsg (wCB oMax2 (wCons (wC (.int 1)) (wCons (wOp oFdiv (wVar 3) (wC (.int 2))) wNil))) (wSet 3))))
  (wRet (wVar 2)))))
theorem d__law_best {f__law_best_ : Addr} {cdv : Value} {A : Around} {outer : List PySem.Env} {s : Shared} {H : Hp} {E : XK} {as : List (Option V)} (T : Tx mg) (hr : Room 0 (A.deeper (envOfC "_law_best" (defScope s__law_best) s.heap.objs.size f__law_best_ cdv))) :
    PSs (cxOf CX0 P w K mg base ["rows", "turn", "found", "size", "some", "longer", "row"] "_law_best" (defScope s__law_best) f__law_best_ cdv A outer s H E).nox (defBody s__law_best) (upS K (as, ts, nW) t__law_best) :=
  (scons (spar (i := 2) (j := 3) rfl sc__law_best.nd (acons (vstay (vlst anil)) (acons vint anil)))
  (scons (swhile PassesOwn.never (tcmp op_le (opv_I0 fun _ _ _ => .bl _) (vop op_mul' (opv_I fun _ _ _ => .int _) vint (vv 3)) (vcb call_len cv_len T.len_ (by decide +kernel) (acons (vv 0) anil)))
  (sone (sset (i := 3) sc__law_best.nd (vop op_mul' (opv_I fun _ _ _ => .int _) vint (vv 3)))))
  (scons (sfor rfl (irng1 T.range_ (acons (vbits (vcb call_len cv_len T.len_ (by decide +kernel) (acons (vv 0) anil))) anil)) (gset (i := 1) sc__law_best.nd)
  (scons (sif (tcmp op_ge (opv_I0 fun _ _ _ => .bl _) (vop op_sub (opv_I0 fun _ _ _ => .int _) (vcb call_len cv_len T.len_ (by decide +kernel) (acons (vv 0) anil)) (vcb call_len cv_len T.len_ (by decide +kernel) (acons (vv 2) anil))) (vv 3))
  (scons (sset (i := 4) sc__law_best.nd (vstay (vlst (acons (vtup anil) anil))))
  (scons (swhile PassesOwn.never (tcmp op_lt (opv_I0 fun _ _ _ => .bl _) (vcb call_len cv_len T.len_ (by decide +kernel) (acons (vv 4) anil)) (vv 3))
  (scons (sset (i := 5) sc__law_best.nd (vstay (vlst anil)))
  (scons (sfor rfl (iseq (vv 4)) (gset (i := 6) sc__law_best.nd)
  (sone (sset (i := 5) sc__law_best.nd (vop op_add' opv_add (vv 5) (vstay (vlst (acons (vop op_add' opv_add (vv 6) (vtup (acons vint anil))) (acons (vop op_add' opv_add (vv 6) (vtup (acons vint anil))) anil))))))) PassesOwn.never)
  (sone (sset (i := 4) sc__law_best.nd (vv 5))))))
  (sone (sset (i := 2) sc__law_best.nd (vop op_add' opv_add (vv 2) (vv 4))))))
  snil)
  (sone (sset (i := 3) sc__law_best.nd (vcb (call_max2 rfl) (cv_i2 fun _ _ _ => .int _) T.max_ (by decide +kernel) (acons vint (acons (vop op_fdiv' (opv_I fun _ _ _ => .int _) (vv 3) vint) anil)))))) PassesOwn.never)
  (sone (sret (vv 2))))))
abbrev s__law_mean : Stmt := topS 27
theorem sc__law_mean : FnScope ["n", "share", "row", "h", "top", "bottom", "own", "total", "tosses", "output"] ["n", "share"] (defScope s__law_mean) := ⟨rfl, rfl, rfl, by decide +kernel, rfl, by decide +kernel, by decide +kernel⟩
def t__law_mean : WS :=
  (wSeq (wAsg (wVar 1) (wGt [(wSet 4), (wSet 5)]))
  (wSeq (wParNE 6 7 (wOpN oRepN (wStay (wLst (wCons (wC (.int 0)) wNil))) (wOp oAdd (wVar 0) (wC (.int 1)))) (wC (.int 0)))
  (wSeq (wFor (wSeqOf (wCall 1 S__law_rows (wCons (wVar 0) wNil))) (wSet 2)
  (wSetIt 6 (wCB oSumA (wCons (wVar 2) wNil)) (wOp oAdd (wOp itemD (wVar 6) (wCB oSumA (wCons (wVar 2) wNil))) (wC (.int 1)))))
  (wSeq (wFor (wRng1 (wCons (wOp oAdd (wVar 0) (wC (.int 1))) wNil)) (wSet 3)
  (wSeq (wAsg (wCB oSumA (wCons (wStay (wLc (wSeqOf (wCall 1 S__law_best (wCons (wOp oRepL (wStay (wLst (wCons (wTup wNil) wNil))) (wOp itemD (wVar 6) (wVar 3))) wNil))) (wSet 9) wYes (wCB oLen (wCons (wVar 9) wNil)) [9])) wNil)) (wSet 8))
  (wAsg (wOp oAdd (wVar 7) (wOp oMul (wOp oMul (wVar 8) (wCall 2 S__law_power (wCons (wVar 4) (wCons (wVar 3) wNil)))) (wCall 2 S__law_power (wCons (wOp oSub (wVar 5) (wVar 4)) (wCons (wOp oSub (wVar 0) (wVar 3)) wNil))))) (wSet 7))))
  (wRet (wCall 2 S__law_low (wCons (wVar 7) (wCons (wCall 2 S__law_power (wCons (wVar 5) (wCons (wVar 0) wNil))) wNil))))))))
theorem d__law_mean {f__law_mean_ : Addr} {cdv : Value} {A : Around} {outer : List PySem.Env} {s : Shared} {H : Hp} {E : XK} {as : List (Option V)} (T : Tx mg) {f__law_low : Addr} {fd__law_low : FuncData} (c__law_low : FOk P w K ts mg base 1 2 "_law_low" f__law_low fd__law_low ["top", "bottom"] S__law_low) {f__law_rows : Addr} {fd__law_rows : FuncData} (c__law_rows : FOk P w K ts mg base 1 1 "_law_rows" f__law_rows fd__law_rows ["n"] S__law_rows) {f__law_power : Addr} {fd__law_power : FuncData} (c__law_power : FOk P w K ts mg base 1 2 "_law_power" f__law_power fd__law_power ["b", "n"] S__law_power) {f__law_best : Addr} {fd__law_best : FuncData} (c__law_best : FOk P w K ts mg base 1 1 "_law_best" f__law_best fd__law_best ["rows"] S__law_best) (hr : Room 1 (A.deeper (envOfC "_law_mean" (defScope s__law_mean) s.heap.objs.size f__law_mean_ cdv))) :
    PSs (cxOf CX0 P w K mg base ["n", "share", "row", "h", "top", "bottom", "own", "total", "tosses", "output"] "_law_mean" (defScope s__law_mean) f__law_mean_ cdv A outer s H E).nox (defBody s__law_mean) (upS K (as, ts, nW) t__law_mean) :=
  (scons (sasg (vv 1) (gtup rfl (gcons (gset (i := 4) sc__law_mean.nd) (gcons (gset (i := 5) sc__law_mean.nd) gnil))))
  (scons (sparNE (i := 6) (j := 7) rfl sc__law_mean.nd (vopN op_repL opv_repN (vstay (vlst (acons vint anil))) (vop op_add' opv_add (vv 0) vint)) vint)
  (scons (sfor rfl (iseq (vcall ⟨c__law_rows.fn, c__law_rows.g, c__law_rows.kp, c__law_rows.b⟩ hr (acons (vv 0) anil))) (gset (i := 2) sc__law_mean.nd)
  (sone (ssetit 6 (vop op_add' opv_add (vix ix_seq opv_ix (vv 6) (vcb (cr_sumA rfl) cv_sumA T.sum_ (by decide +kernel) (acons (vv 2) anil))) vint) (vcb (cr_sumA rfl) cv_sumA T.sum_ (by decide +kernel) (acons (vv 2) anil)))) PassesOwn.never)
  (scons (sfor rfl (irng1 T.range_ (acons (vop op_add' opv_add (vv 0) vint) anil)) (gset (i := 3) sc__law_mean.nd)
  (scons (sset (i := 8) sc__law_mean.nd (vcb (cr_sumA rfl) cv_sumA T.sum_ (by decide +kernel) (acons (vstay (vlc [("output", 9)] rfl (sc__law_mean.nd) (iseq (vcall ⟨c__law_best.fn, c__law_best.g, c__law_best.kp, c__law_best.b⟩ hr (acons (vop op_repL opv_repL (vstay (vlst (acons (vtup anil) anil))) (vix ix_seq opv_ix (vv 6) (vv 3))) anil))) (fun _ _ _ _ _ => (gup (gset (i := 9) sc__law_mean.nd))) (fun _ _ _ _ _ => tsnil) (fun _ _ _ _ _ => (vcb call_len cv_len T.len_ (by decide +kernel) (acons (vv 9) anil))) (blkOk_by (N := ["n", "share", "row", "h", "top", "bottom", "own", "total", "tosses", "output"]) (sc := defScope s__law_mean) (by decide +kernel)) (by decide))) anil)))
  (sone (sset (i := 7) sc__law_mean.nd (vop op_add' opv_add (vv 7) (vop op_mul' (opv_I fun _ _ _ => .int _) (vop op_mul' (opv_I fun _ _ _ => .int _) (vv 8) (vcall ⟨c__law_power.fn, c__law_power.g, c__law_power.kp, c__law_power.b⟩ hr (acons (vv 4) (acons (vv 3) anil)))) (vcall ⟨c__law_power.fn, c__law_power.g, c__law_power.kp, c__law_power.b⟩ hr (acons (vop op_sub (opv_I0 fun _ _ _ => .int _) (vv 5) (vv 4)) (acons (vop op_sub (opv_I0 fun _ _ _ => .int _) (vv 0) (vv 3)) anil)))))))) PassesOwn.never)
  (sone (sret (vcall ⟨c__law_low.fn, c__law_low.g, c__law_low.kp, c__law_low.b⟩ hr (acons (vv 7) (acons (vcall ⟨c__law_power.fn, c__law_power.g, c__law_power.kp, c__law_power.b⟩ hr (acons (vv 5) (acons (vv 0) anil))) anil)))))))))
abbrev s_is_integer : Stmt := topS 5
theorem sc_is_integer : FnScope ["told"] ["told"] (defScope s_is_integer) := ⟨rfl, rfl, rfl, by decide +kernel, rfl, by decide +kernel, by decide +kernel⟩
def t_is_integer : WS :=
  (wRet (wAnd (wIsi "int" (wVar 0)) (wNot (wIsi "bool" (wVar 0)))))
theorem d_is_integer {f_is_integer_ : Addr} {cdv : Value} {A : Around} {outer : List PySem.Env} {s : Shared} {H : Hp} {E : XK} {as : List (Option V)} (T : Tx mg) (hr : Room 0 (A.deeper (envOfC "is_integer" (defScope s_is_integer) s.heap.objs.size f_is_integer_ cdv))) :
    PSs (cxOf CX0 P w K mg base ["told"] "is_integer" (defScope s_is_integer) f_is_integer_ cdv A outer s H E).nox (defBody s_is_integer) (upS K (as, ts, nW) t_is_integer) :=
  (sone (sret (vand (visi T.isinstance T.int_ (by decide +kernel) (vv 0)) (vone (vnot (visi T.isinstance T.bool_ (by decide +kernel) (vv 0)))))))
abbrev s_is_integer_from : Stmt := topS 6
theorem sc_is_integer_from : FnScope ["told", "least"] ["told", "least"] (defScope s_is_integer_from) := ⟨rfl, rfl, rfl, by decide +kernel, rfl, by decide +kernel, by decide +kernel⟩
def t_is_integer_from : WS :=
  (wRet (wAnd (wCall 1 S_is_integer (wCons (wVar 0) wNil)) (wOp oGe (wVar 0) (wVar 1))))
theorem d_is_integer_from {f_is_integer_from_ : Addr} {cdv : Value} {A : Around} {outer : List PySem.Env} {s : Shared} {H : Hp} {E : XK} {as : List (Option V)} (T : Tx mg) {f_is_integer : Addr} {fd_is_integer : FuncData} (c_is_integer : FOk P w K ts mg base 1 1 "is_integer" f_is_integer fd_is_integer ["told"] S_is_integer) (hr : Room 1 (A.deeper (envOfC "is_integer_from" (defScope s_is_integer_from) s.heap.objs.size f_is_integer_from_ cdv))) :
    PSs (cxOf CX0 P w K mg base ["told", "least"] "is_integer_from" (defScope s_is_integer_from) f_is_integer_from_ cdv A outer s H E).nox (defBody s_is_integer_from) (upS K (as, ts, nW) t_is_integer_from) :=
  (sone (sret (vand (vcall ⟨c_is_integer.fn, c_is_integer.g, c_is_integer.kp, c_is_integer.b⟩ hr (acons (vv 0) anil)) (vone (vcmp op_ge (opv_I0 fun _ _ _ => .bl _) (vv 0) (vv 1))))))
abbrev s_check_count : Stmt := topS 7
theorem sc_check_count : FnScope ["told"] ["told"] (defScope s_check_count) := ⟨rfl, rfl, rfl, by decide +kernel, rfl, by decide +kernel, by decide +kernel⟩
def t_check_count : WS :=
  (wIfS (wNotT (wTest (wCall 2 S_is_integer_from (wCons (wVar 0) (wCons (wC (.int 1)) wNil)))))
  wNever
  wNext)
theorem d_check_count {f_check_count_ : Addr} {cdv : Value} {A : Around} {outer : List PySem.Env} {s : Shared} {H : Hp} {E : XK} {as : List (Option V)} (T : Tx mg) {f_is_integer_from : Addr} {fd_is_integer_from : FuncData} (c_is_integer_from : FOk P w K ts mg base 2 2 "is_integer_from" f_is_integer_from fd_is_integer_from ["told", "least"] S_is_integer_from) (hr : Room 2 (A.deeper (envOfC "check_count" (defScope s_check_count) s.heap.objs.size f_check_count_ cdv))) :
    PSs (cxOf CX0 P w K mg base ["told"] "check_count" (defScope s_check_count) f_check_count_ cdv A outer s H E).nox (defBody s_check_count) (upS K (as, ts, nW) t_check_count) :=
  (sone (sif (tnot (tval (vcall ⟨c_is_integer_from.fn, c_is_integer_from.g, c_is_integer_from.kp, c_is_integer_from.b⟩ hr (acons (vv 0) (acons vint anil)))))
  (sone snever)
  snil))
abbrev s_lowest : Stmt := topS 9
theorem sc_lowest : FnScope ["top", "bottom", "common"] ["top", "bottom"] (defScope s_lowest) := ⟨rfl, rfl, rfl, by decide +kernel, rfl, by decide +kernel, by decide +kernel⟩
def t_lowest : WS :=
  (wSeq (wAsg (wCB oGcd (wCons (wVar 0) (wCons (wVar 1) wNil))) (wSet 2))
  (wRet (wTup (wCons (wOp oFdiv (wVar 0) (wVar 2)) (wCons (wOp oFdiv (wVar 1) (wVar 2)) wNil)))))
theorem d_lowest {f_lowest_ : Addr} {cdv : Value} {A : Around} {outer : List PySem.Env} {s : Shared} {H : Hp} {E : XK} {as : List (Option V)} (T : Tx mg) (hr : Room 0 (A.deeper (envOfC "lowest" (defScope s_lowest) s.heap.objs.size f_lowest_ cdv))) :
    PSs (cxOf CX0 P w K mg base ["top", "bottom", "common"] "lowest" (defScope s_lowest) f_lowest_ cdv A outer s H E).nox (defBody s_lowest) (upS K (as, ts, nW) t_lowest) :=
  (scons (sset (i := 2) sc_lowest.nd (vcm cr_gcd (cv_i2 fun _ _ _ => .int _) T.gcd (acons (vv 0) (acons (vv 1) anil))))
  (sone (sret (vtup (acons (vop op_fdiv' (opv_I fun _ _ _ => .int _) (vv 0) (vv 2)) (acons (vop op_fdiv' (opv_I fun _ _ _ => .int _) (vv 1) (vv 2)) anil))))))
abbrev s_stretches_of : Stmt := topS 13
theorem sc_stretches_of : FnScope ["many", "at"] ["many"] (defScope s_stretches_of) := ⟨rfl, rfl, rfl, by decide +kernel, rfl, by decide +kernel, by decide +kernel⟩
def t_stretches_of : WS :=
  (wRetN (wLc (wRevR (wR1 (wBits (wVar 0)))) (wSet 1) (wTru (wOp oOdd (wOp oShr (wVar 0) (wVar 1)) (wC (.int 1)))) (wVar 1) [1]))
theorem d_stretches_of {f_stretches_of_ : Addr} {cdv : Value} {A : Around} {outer : List PySem.Env} {s : Shared} {H : Hp} {E : XK} {as : List (Option V)} (T : Tx mg) (hr : Room 0 (A.deeper (envOfC "stretches_of" (defScope s_stretches_of) s.heap.objs.size f_stretches_of_ cdv))) :
    PSs (cxOf CX0 P w K mg base ["many", "at"] "stretches_of" (defScope s_stretches_of) f_stretches_of_ cdv A outer s H E).nox (defBody s_stretches_of) (upS K (as, ts, nW) t_stretches_of) :=
  (sone (sretN (vlc [("at", 1)] rfl (sc_stretches_of.nd) (irevR T.reversed_ (rg1 T.range_ (vbits (vv 0)))) (fun _ _ _ _ _ => (gup (gset (i := 1) sc_stretches_of.nd))) (fun _ _ _ _ _ => (tsone (ttru (vop op_odd opv_odd (vop op_shr (opv_I fun _ _ _ => .int _) (vv 0) (vv 1)) vint)))) (fun _ _ _ _ _ => (vv 1)) (blkOk_by (N := ["many", "at"]) (sc := defScope s_stretches_of) (by decide +kernel)) (by decide))))
abbrev s_most : Stmt := topS 14
theorem sc_most : FnScope ["n", "ones", "at"] ["n"] (defScope s_most) := ⟨rfl, rfl, rfl, by decide +kernel, rfl, by decide +kernel, by decide +kernel⟩
def t_most : WS :=
  (wSeq (wDrop (wCall 1 S_check_count (wCons (wVar 0) wNil)))
  (wRet (wGTup (wRng1 (wCons (wOp oAdd (wVar 0) (wC (.int 1))) wNil)) (wSet 1) wYes (wGSum (wSeqOf (wCall 1 S_stretches_of (wCons (wCB oComb (wCons (wVar 0) (wCons (wVar 1) wNil))) wNil))) (wSet 2) wYes (wOp oMul (wVar 2) (wOp oShl' (wC (.int 1)) (wVar 2))) [2]) [1])))
theorem d_most {f_most_ : Addr} {cdv : Value} {A : Around} {outer : List PySem.Env} {s : Shared} {H : Hp} {E : XK} {as : List (Option V)} (T : Tx mg) {c_ P_ : Addr} (G : GxD base mg ts cdv c_ P_) {f_check_count : Addr} {fd_check_count : FuncData} (c_check_count : FOk P w K ts mg base 3 1 "check_count" f_check_count fd_check_count ["told"] S_check_count) {f_stretches_of : Addr} {fd_stretches_of : FuncData} (c_stretches_of : FOk P w K ts mg base 1 1 "stretches_of" f_stretches_of fd_stretches_of ["many"] S_stretches_of) (hr : Room 4 (A.deeper (envOfC "most" (defScope s_most) s.heap.objs.size f_most_ cdv))) :
    PSs (cxOf CX0 P w K mg base ["n", "ones", "at"] "most" (defScope s_most) f_most_ cdv A outer s H E).nox (defBody s_most) (upS K (as, ts, nW) t_most) :=
  (scons (sdrop (vcall ⟨c_check_count.fn, c_check_count.g, c_check_count.kp, c_check_count.b⟩ (hr.mono (by decide)) (acons (vv 0) anil)))
  (sone (sret (vgtup (k := 2) [("ones", 1)] T.tuple_ rfl sc_most.nd hr (gxt0 G.hP G.TB G.hc) (irng1 T.range_ (acons (vop op_add' opv_add (vv 0) vint) anil)) (fun _ _ _ _ _ _ _ _ => (gup (gset (i := 1) sc_most.nd))) (fun _ _ _ _ _ _ _ _ _ hin hr => tsnil) (fun _ _ _ _ _ _ _ _ _ hin hr => (vgsum (k := 0) [("at", 2)] T.sum_ rfl sc_most.nd hr (gxtI G.hP G.TB.bm hin) (iseq (vcall ⟨c_stretches_of.fn, c_stretches_of.g, c_stretches_of.kp, c_stretches_of.b⟩ (hr.mono (by decide)) (acons (vcm cr_comb cv_comb T.comb (acons (vv 0) (acons (vv 1) anil))) anil))) (fun _ _ _ _ _ _ _ _ => (gup (gset (i := 2) sc_most.nd))) (fun _ _ _ _ _ _ _ _ _ hin hr => tsnil) (fun _ _ _ _ _ _ _ _ _ hin hr => (vop op_mul' (opv_I fun _ _ _ => .int _) (vv 2) (vop op_shl' (opv_I fun _ _ _ => .int _) vint (vv 2)))) (blkOk_by (N := ["n", "ones", "at"]) rfl) (by decide +kernel) (by decide))) (blkOk_by (N := ["n", "ones", "at"]) (sc := defScope s_most) (by decide +kernel)) (by decide +kernel) (by decide)))))
abbrev s_power : Stmt := topS 8
theorem sc_power : FnScope ["base", "exponent", "found", "_"] ["base", "exponent"] (defScope s_power) := ⟨rfl, rfl, rfl, by decide +kernel, rfl, by decide +kernel, by decide +kernel⟩
def t_power : WS :=
  (wSeq (wAsg (wC (.int 1)) (wSet 2))
  (wSeq (wFor (wRng1 (wCons (wVar 1) wNil)) (wSet 3)
  (wAsg (wOp oMul (wVar 2) (wVar 0)) (wSet 2)))
  (wRet (wVar 2))))
theorem d_power {f_power_ : Addr} {cdv : Value} {A : Around} {outer : List PySem.Env} {s : Shared} {H : Hp} {E : XK} {as : List (Option V)} (T : Tx mg) (hr : Room 0 (A.deeper (envOfC "power" (defScope s_power) s.heap.objs.size f_power_ cdv))) :
    PSs (cxOf CX0 P w K mg base ["base", "exponent", "found", "_"] "power" (defScope s_power) f_power_ cdv A outer s H E).nox (defBody s_power) (upS K (as, ts, nW) t_power) :=
  (scons (sset (i := 2) sc_power.nd vint)
  (scons (sfor rfl (irng1 T.range_ (acons (vv 1) anil)) (gset (i := 3) sc_power.nd)
  (sone (sset (i := 2) sc_power.nd (vop op_mul' (opv_I fun _ _ _ => .int _) (vv 2) (vv 0)))) PassesOwn.never)
  (sone (sret (vv 2)))))
abbrev s_is_number : Stmt := topS 11
theorem sc_is_number : FnScope ["told", "top", "bottom"] ["told"] (defScope s_is_number) := ⟨rfl, rfl, rfl, by decide +kernel, rfl, by decide +kernel, by decide +kernel⟩
def t_is_number : WS :=
  (wSeq (wIfS (wOrT (wNotT (wTest (wIsi "tuple" (wVar 0)))) (wTest (wOp oNe (wCB oLen (wCons (wVar 0) wNil)) (wC (.int 2)))))
  (wRet (wC (.bool false)))
  wNext)
  (wSeq (wAsg (wVar 0) (wGt [(wSet 1), (wSet 2)]))
  (wRet (wAnd (wCall 1 S_is_integer (wCons (wVar 1) wNil)) (wAnd (wCall 2 S_is_integer_from (wCons (wVar 2) (wCons (wC (.int 1)) wNil))) (wOp oEq (wCall 2 S_lowest (wCons (wVar 1) (wCons (wVar 2) wNil))) (wVar 0)))))))
theorem d_is_number {f_is_number_ : Addr} {cdv : Value} {A : Around} {outer : List PySem.Env} {s : Shared} {H : Hp} {E : XK} {as : List (Option V)} (T : Tx mg) {f_is_integer : Addr} {fd_is_integer : FuncData} (c_is_integer : FOk P w K ts mg base 1 1 "is_integer" f_is_integer fd_is_integer ["told"] S_is_integer) {f_is_integer_from : Addr} {fd_is_integer_from : FuncData} (c_is_integer_from : FOk P w K ts mg base 2 2 "is_integer_from" f_is_integer_from fd_is_integer_from ["told", "least"] S_is_integer_from) {f_lowest : Addr} {fd_lowest : FuncData} (c_lowest : FOk P w K ts mg base 1 2 "lowest" f_lowest fd_lowest ["top", "bottom"] S_lowest) (hr : Room 2 (A.deeper (envOfC "is_number" (defScope s_is_number) s.heap.objs.size f_is_number_ cdv))) :
    PSs (cxOf CX0 P w K mg base ["told", "top", "bottom"] "is_number" (defScope s_is_number) f_is_number_ cdv A outer s H E).nox (defBody s_is_number) (upS K (as, ts, nW) t_is_number) :=
  (scons (sif (L2.PW.pt (wor (tnot (tval (visi T.isinstance T.tuple_ (by decide +kernel) (vv 0)))) (wor1 (tcmp (op_neD hr.units) opv_ne (vcb call_len cv_len T.len_ (by decide +kernel) (acons (vv 0) anil)) vint))))
  (sone (sret vbl))
  snil)
  (scons (sasg (vv 0) (gtup rfl (gcons (gset (i := 1) sc_is_number.nd) (gcons (gset (i := 2) sc_is_number.nd) gnil))))
  (sone (sret (vand (vcall ⟨c_is_integer.fn, c_is_integer.g, c_is_integer.kp, c_is_integer.b⟩ (hr.mono (by decide)) (acons (vv 1) anil)) (vand (vcall ⟨c_is_integer_from.fn, c_is_integer_from.g, c_is_integer_from.kp, c_is_integer_from.b⟩ hr (acons (vv 2) (acons vint anil))) (vone (vcmp (op_eqD hr.units) opv_eq (vcall ⟨c_lowest.fn, c_lowest.g, c_lowest.kp, c_lowest.b⟩ (hr.mono (by decide)) (acons (vv 1) (acons (vv 2) anil))) (vv 0)))))))))
abbrev s_mean_out : Stmt := topS 15
theorem sc_mean_out : FnScope ["n", "share", "found", "top", "bottom", "ones", "many"] ["n", "share"] (defScope s_mean_out) := ⟨rfl, rfl, rfl, by decide +kernel, rfl, by decide +kernel, by decide +kernel⟩
def t_mean_out : WS :=
  (wSeq (wDrop (wCall 1 S_check_count (wCons (wVar 0) wNil)))
  (wSeq (wIfS (wOrT (wNotT (wTest (wCall 1 S_is_number (wCons (wVar 1) wNil)))) (wNotT (wTest (wChain oLt oLt (wC (.int 0)) (wOp itemD (wVar 1) (wC (.int 0))) (wOp itemD (wVar 1) (wC (.int 1)))))))
  wNever
  wNext)
  (wSeq (wAsg (wVar 1) (wGt [(wSet 3), (wSet 4)]))
  (wSeq (wAsg (wC (.int 0)) (wSet 2))
  (wSeq (wFor (wEnum (wCons (wCall 1 S_most (wCons (wVar 0) wNil)) wNil)) (wGt [(wSet 5), (wSet 6)])
  (wAug 2 (oI0 fun i j => .int (i + j)) (wOp oMul (wOp oMul (wVar 6) (wCall 2 S_power (wCons (wVar 3) (wCons (wVar 5) wNil)))) (wCall 2 S_power (wCons (wOp oSub (wVar 4) (wVar 3)) (wCons (wOp oSub (wVar 0) (wVar 5)) wNil))))))
  (wRet (wCall 2 S_lowest (wCons (wVar 2) (wCons (wCall 2 S_power (wCons (wVar 4) (wCons (wVar 0) wNil))) wNil)))))))))
theorem d_mean_out {f_mean_out_ : Addr} {cdv : Value} {A : Around} {outer : List PySem.Env} {s : Shared} {H : Hp} {E : XK} {as : List (Option V)} (T : Tx mg) {f_check_count : Addr} {fd_check_count : FuncData} (c_check_count : FOk P w K ts mg base 3 1 "check_count" f_check_count fd_check_count ["told"] S_check_count) {f_lowest : Addr} {fd_lowest : FuncData} (c_lowest : FOk P w K ts mg base 1 2 "lowest" f_lowest fd_lowest ["top", "bottom"] S_lowest) {f_most : Addr} {fd_most : FuncData} (c_most : FOk P w K ts mg base 5 1 "most" f_most fd_most ["n"] S_most) {f_power : Addr} {fd_power : FuncData} (c_power : FOk P w K ts mg base 1 2 "power" f_power fd_power ["base", "exponent"] S_power) {f_is_number : Addr} {fd_is_number : FuncData} (c_is_number : FOk P w K ts mg base 3 1 "is_number" f_is_number fd_is_number ["told"] S_is_number) (hr : Room 5 (A.deeper (envOfC "mean_out" (defScope s_mean_out) s.heap.objs.size f_mean_out_ cdv))) :
    PSs (cxOf CX0 P w K mg base ["n", "share", "found", "top", "bottom", "ones", "many"] "mean_out" (defScope s_mean_out) f_mean_out_ cdv A outer s H E).nox (defBody s_mean_out) (upS K (as, ts, nW) t_mean_out) :=
  (scons (sdrop (vcall ⟨c_check_count.fn, c_check_count.g, c_check_count.kp, c_check_count.b⟩ (hr.mono (by decide)) (acons (vv 0) anil)))
  (scons (sif (L2.PW.pt (wor (tnot (tval (vcall ⟨c_is_number.fn, c_is_number.g, c_is_number.kp, c_is_number.b⟩ (hr.mono (by decide)) (acons (vv 1) anil)))) (wor1 (tnot (tchain op_lt (opv_I0 fun _ _ _ => .bl _) op_lt (opv_I0 fun _ _ _ => .bl _) vint (vix ix_seq opv_ix (vv 1) vint) (vix ix_seq opv_ix (vv 1) vint))))))
  (sone snever)
  snil)
  (scons (sasg (vv 1) (gtup rfl (gcons (gset (i := 3) sc_mean_out.nd) (gcons (gset (i := 4) sc_mean_out.nd) gnil))))
  (scons (sset (i := 2) sc_mean_out.nd vint)
  (scons (sfor rfl (ienum T.enumerate_ (acons (vcall ⟨c_most.fn, c_most.g, c_most.kp, c_most.b⟩ hr (acons (vv 0) anil)) anil)) (gtup rfl (gcons (gset (i := 5) sc_mean_out.nd) (gcons (gset (i := 6) sc_mean_out.nd) gnil)))
  (sone (saug (i := 2) sc_mean_out.nd (vop op_mul' (opv_I fun _ _ _ => .int _) (vop op_mul' (opv_I fun _ _ _ => .int _) (vv 6) (vcall ⟨c_power.fn, c_power.g, c_power.kp, c_power.b⟩ (hr.mono (by decide)) (acons (vv 3) (acons (vv 5) anil)))) (vcall ⟨c_power.fn, c_power.g, c_power.kp, c_power.b⟩ (hr.mono (by decide)) (acons (vop op_sub (opv_I0 fun _ _ _ => .int _) (vv 4) (vv 3)) (acons (vop op_sub (opv_I0 fun _ _ _ => .int _) (vv 0) (vv 5)) anil)))) ip_add (opv_I0 fun _ _ _ => .int _))) PassesOwn.never)
  (sone (sret (vcall ⟨c_lowest.fn, c_lowest.g, c_lowest.kp, c_lowest.b⟩ (hr.mono (by decide)) (acons (vv 2) (acons (vcall ⟨c_power.fn, c_power.g, c_power.kp, c_power.b⟩ (hr.mono (by decide)) (acons (vv 4) (acons (vv 0) anil))) anil))))))))))
abbrev s__law_same : Stmt := topS 19
theorem sc__law_same : FnScope ["told", "due", "kind", "spot"] ["told", "due"] (defScope s__law_same) := ⟨rfl, rfl, rfl, by decide +kernel, rfl, by decide +kernel, by decide +kernel⟩
def t__law_same (j : Nat) : WS :=
  (wSeq (wIfS (wTest (wOp (oIsN false) (wVar 1) (wC .none)))
  (wRet (wOp (oIsN false) (wVar 0) (wC .none)))
  wNext)
  (wSeq (wIfS (wTest (wIsi "bool" (wVar 1)))
  (wRet (wAnd (wIsi "bool" (wVar 0)) (wOp oEq (wVar 0) (wVar 1))))
  wNext)
  (wSeq (wIfS (wOrT (wTest (wIsi "tuple" (wVar 1))) (wTest (wIsi "list" (wVar 1))))
  (wSeq (wAsg (wIf (wTest (wIsi "tuple" (wVar 1))) (wIsi "tuple" (wVar 0)) (wIsi "list" (wVar 0))) (wSet 2))
  (wSeq (wIfS (wOrT (wNotT (wTest (wVar 2))) (wTest (wOp oNe (wCB oLen (wCons (wVar 0) wNil)) (wCB oLen (wCons (wVar 1) wNil)))))
  (wRet (wC (.bool false)))
  wNext)
  (wSeq (wFor (wRng1 (wCons (wCB oLen (wCons (wVar 1) wNil)) wNil)) (wSet 3)
  (wIfS (wNotT (wTest (wCall 2 (S__law_same j) (wCons (wOp itemD (wVar 0) (wVar 3)) (wCons (wOp itemD (wVar 1) (wVar 3)) wNil)))))
  (wRet (wC (.bool false)))
  wNext))
  (wRet (wC (.bool true))))))
  wNext)
  (wSeq (wIfS (wTest (wIsi "str" (wVar 1)))
  (wRet (wAnd (wIsi "str" (wVar 0)) (wOp oEq (wVar 0) (wVar 1))))
  wNext)
  (wRet (wAnd (wIsi "int" (wVar 0)) (wAnd (wNot (wIsi "bool" (wVar 0))) (wOp oEq (wVar 0) (wVar 1)))))))))
theorem d__law_same {j : Nat} {f__law_same_ : Addr} {cdv : Value} {A : Around} {outer : List PySem.Env} {s : Shared} {H : Hp} {E : XK} {as : List (Option V)} (T : Tx mg) {f__law_same : Addr} {fd__law_same : FuncData} (c__law_same : FOk P w K ts mg base (1 + j) 2 "_law_same" f__law_same fd__law_same ["told", "due"] (S__law_same j)) (hr : Room (1 + j) (A.deeper (envOfC "_law_same" (defScope s__law_same) s.heap.objs.size f__law_same_ cdv))) :
    PSs (cxOf CX0 P w K mg base ["told", "due", "kind", "spot"] "_law_same" (defScope s__law_same) f__law_same_ cdv A outer s H E).nox (defBody s__law_same) (upS K (as, ts, nW) (t__law_same j)) :=
  (scons (sif (tcmp op_isN opv_isN (vv 1) vnon)
  (sone (sret (vcmp op_isN opv_isN (vv 0) vnon)))
  snil)
  (scons (sif (tval (visi T.isinstance T.bool_ (by decide +kernel) (vv 1)))
  (sone (sret (vand (visi T.isinstance T.bool_ (by decide +kernel) (vv 0)) (vone (vcmp (op_eqD hr.units) opv_eq (vv 0) (vv 1))))))
  snil)
  (scons (sif (L2.PW.pt (wor (tval (visi T.isinstance T.tuple_ (by decide +kernel) (vv 1))) (wor1 (tval (visi T.isinstance T.list_ (by decide +kernel) (vv 1))))))
  (scons (sset (i := 2) sc__law_same.nd (vif (tval (visi T.isinstance T.tuple_ (by decide +kernel) (vv 1))) (visi T.isinstance T.tuple_ (by decide +kernel) (vv 0)) (visi T.isinstance T.list_ (by decide +kernel) (vv 0))))
  (scons (sif (L2.PW.pt (wor (tnot (tval (vv 2))) (wor1 (tcmp (op_neD hr.units) opv_ne (vcb call_len cv_len T.len_ (by decide +kernel) (acons (vv 0) anil)) (vcb call_len cv_len T.len_ (by decide +kernel) (acons (vv 1) anil))))))
  (sone (sret vbl))
  snil)
  (scons (sfor rfl (irng1 T.range_ (acons (vcb call_len cv_len T.len_ (by decide +kernel) (acons (vv 1) anil)) anil)) (gset (i := 3) sc__law_same.nd)
  (sone (sif (tnot (tval (vcall ⟨c__law_same.fn, c__law_same.g, c__law_same.kp, c__law_same.b⟩ hr (acons (vix ix_seq opv_ix (vv 0) (vv 3)) (acons (vix ix_seq opv_ix (vv 1) (vv 3)) anil)))))
  (sone (sret vbl))
  snil)) PassesOwn.never)
  (sone (sret vbl)))))
  snil)
  (scons (sif (tval (visi T.isinstance T.str_ (by decide +kernel) (vv 1)))
  (sone (sret (vand (visi T.isinstance T.str_ (by decide +kernel) (vv 0)) (vone (vcmp (op_eqD hr.units) opv_eq (vv 0) (vv 1))))))
  snil)
  (sone (sret (vand (visi T.isinstance T.int_ (by decide +kernel) (vv 0)) (vand (vnot (visi T.isinstance T.bool_ (by decide +kernel) (vv 0))) (vone (vcmp (op_eqD hr.units) opv_eq (vv 0) (vv 1)))))))))))
abbrev s_law : Stmt := topS 28
theorem sc_law : FnScope ["script", "spot", "well", "n", "turn", "bottom", "share", "told", "due", "other"] ["script"] (defScope s_law) := ⟨rfl, rfl, rfl, by decide +kernel, rfl, by decide +kernel, by decide +kernel⟩
def t_law : WS :=
  (wSeq (wFor (wRng1 (wCons (wCB oMax2 (wCons (wC (.int 1)) (wCons (wCB oMin2 (wCons (wC (.int 6)) (wCons (wCB oLen (wCons (wVar 0) wNil)) wNil))) wNil))) wNil)) (wSet 1)
  (wSeq (wNew (wCallN 2 S__law_well (wCons (wVar 0) (wCons (wVar 1) wNil))) 2)
  (wSeq (wAsg (wOp oAdd (wC (.int 1)) (wCallIo 2 S__law_dip (wCons (wVar 2) (wCons (wOp itemD (wStay (wLst (wCons (wC (.int 5)) (wCons (wC (.int 12)) wNil)))) (wCallIo 2 S__law_dip (wCons (wVar 2) (wCons (wC (.int 2)) wNil)))) wNil)))) (wSet 3))
  (wFor (wRng1 (wCons (wC (.int 2)) wNil)) (wSet 4)
  (wSeq (wAsg (wOp oAdd (wC (.int 2)) (wCallIo 2 S__law_dip (wCons (wVar 2) (wCons (wOp itemD (wStay (wLst (wCons (wC (.int 3)) (wCons (wC (.int 59)) wNil)))) (wCallIo 2 S__law_dip (wCons (wVar 2) (wCons (wC (.int 2)) wNil)))) wNil)))) (wSet 5))
  (wSeq (wAsg (wCall 2 S__law_low (wCons (wOp oAdd (wC (.int 1)) (wCallIo 2 S__law_dip (wCons (wVar 2) (wCons (wOp oSub (wVar 5) (wC (.int 1))) wNil)))) (wCons (wVar 5) wNil))) (wSet 6))
  (wSeq (wPar 8 9 (wCons (wCall 2 S__law_mean (wCons (wVar 3) (wCons (wVar 6) wNil))) (wCons (wTup (wCons (wOp oSub (wOp itemD (wVar 6) (wC (.int 1))) (wOp itemD (wVar 6) (wC (.int 0)))) (wCons (wOp itemD (wVar 6) (wC (.int 1))) wNil))) wNil)))
  (wSeq (wAsg (wStay (wLst (wCons (wCall 2 S_mean_out (wCons (wVar 3) (wCons (wVar 6) wNil))) (wCons (wCallK 0 2 [1, 0] S_mean_out wNil (wCons (wVar 6) (wCons (wVar 3) wNil))) (wCons (wCall 2 S_mean_out (wCons (wVar 3) (wCons (wVar 9) wNil))) wNil))))) (wSet 7))
  (wIfS (wNotT (wTest (wCall 2 (S__law_same 8) (wCons (wVar 7) (wCons (wStay (wLst (wCons (wVar 8) (wCons (wVar 8) (wCons (wVar 8) wNil))))) wNil)))))
  (wRet (wC (.bool false)))
  wNext)))))))))
  (wRet (wC (.bool true))))
theorem d_law {f_law_ : Addr} {cdv : Value} {A : Around} {outer : List PySem.Env} {s : Shared} {H : Hp} {E : XK} {as : List (Option V)} (T : Tx mg) {f__law_well : Addr} {fd__law_well : FuncData} (c__law_well : FOk P w K ts mg base 1 2 "_law_well" f__law_well fd__law_well ["script", "place"] S__law_well) {f__law_dip : Addr} {fd__law_dip : FuncData} (c__law_dip : FOk P w K ts mg base 1 2 "_law_dip" f__law_dip fd__law_dip ["well", "upto"] S__law_dip) {f__law_low : Addr} {fd__law_low : FuncData} (c__law_low : FOk P w K ts mg base 1 2 "_law_low" f__law_low fd__law_low ["top", "bottom"] S__law_low) {f__law_mean : Addr} {fd__law_mean : FuncData} (c__law_mean : FOk P w K ts mg base 2 2 "_law_mean" f__law_mean fd__law_mean ["n", "share"] S__law_mean) {f_mean_out : Addr} {fd_mean_out : FuncData} (c_mean_out : FOk P w K ts mg base 6 2 "mean_out" f_mean_out fd_mean_out ["n", "share"] S_mean_out) {f__law_same : Addr} {fd__law_same : FuncData} (c__law_same : FOk P w K ts mg base 9 2 "_law_same" f__law_same fd__law_same ["told", "due"] (S__law_same 8)) (kw_mean_out_0_share_n : KwB K fd_mean_out ["n", "share"] 0 ["share", "n"] [1, 0]) (hr : Room 9 (A.deeper (envOfC "law" (defScope s_law) s.heap.objs.size f_law_ cdv))) :
    PSs (cxOf CX0 P w K mg base ["script", "spot", "well", "n", "turn", "bottom", "share", "told", "due", "other"] "law" (defScope s_law) f_law_ cdv A outer s H E).nox (defBody s_law) (upS K (as, ts, nW) t_law) :=
  (scons (sfor rfl (irng1 T.range_ (acons (vcb (call_max2 rfl) (cv_i2 fun _ _ _ => .int _) T.max_ (by decide +kernel) (acons vint (acons (vcb (call_min2 rfl) (cv_i2 fun _ _ _ => .int _) T.min_ (by decide +kernel) (acons vint (acons (vcb call_len cv_len T.len_ (by decide +kernel) (acons (vv 0) anil)) anil))) anil))) anil)) (gset (i := 1) sc_law.nd)
  (scons (snew (i := 2) sc_law.nd (vcallN ⟨c__law_well.fn, c__law_well.g, c__law_well.kp, c__law_well.b⟩ (hr.mono (by decide)) (acons (vv 0) (acons (vv 1) anil))))
  (scons (sset (i := 3) sc_law.nd (vop op_add' opv_add vint (vcallIo ⟨c__law_dip.fn, c__law_dip.g, c__law_dip.kp, c__law_dip.b⟩ (hr.mono (by decide)) (acons (vv 2) (acons (vix ix_seq opv_ix (vstay (vlst (acons vint (acons vint anil)))) (vcallIo ⟨c__law_dip.fn, c__law_dip.g, c__law_dip.kp, c__law_dip.b⟩ (hr.mono (by decide)) (acons (vv 2) (acons vint anil)))) anil)))))
  (sone (sfor rfl (irng1 T.range_ (acons vint anil)) (gset (i := 4) sc_law.nd)
  (scons (sset (i := 5) sc_law.nd (vop op_add' opv_add vint (vcallIo ⟨c__law_dip.fn, c__law_dip.g, c__law_dip.kp, c__law_dip.b⟩ (hr.mono (by decide)) (acons (vv 2) (acons (vix ix_seq opv_ix (vstay (vlst (acons vint (acons vint anil)))) (vcallIo ⟨c__law_dip.fn, c__law_dip.g, c__law_dip.kp, c__law_dip.b⟩ (hr.mono (by decide)) (acons (vv 2) (acons vint anil)))) anil)))))
  (scons (sset (i := 6) sc_law.nd (vcall ⟨c__law_low.fn, c__law_low.g, c__law_low.kp, c__law_low.b⟩ (hr.mono (by decide)) (acons (vop op_add' opv_add vint (vcallIo ⟨c__law_dip.fn, c__law_dip.g, c__law_dip.kp, c__law_dip.b⟩ (hr.mono (by decide)) (acons (vv 2) (acons (vop op_sub (opv_I0 fun _ _ _ => .int _) (vv 5) vint) anil)))) (acons (vv 5) anil))))
  (scons (spar (i := 8) (j := 9) rfl sc_law.nd (acons (vcall ⟨c__law_mean.fn, c__law_mean.g, c__law_mean.kp, c__law_mean.b⟩ (hr.mono (by decide)) (acons (vv 3) (acons (vv 6) anil))) (acons (vtup (acons (vop op_sub (opv_I0 fun _ _ _ => .int _) (vix ix_seq opv_ix (vv 6) vint) (vix ix_seq opv_ix (vv 6) vint)) (acons (vix ix_seq opv_ix (vv 6) vint) anil))) anil)))
  (scons (sset (i := 7) sc_law.nd (vstay (vlst (acons (vcall ⟨c_mean_out.fn, c_mean_out.g, c_mean_out.kp, c_mean_out.b⟩ (hr.mono (by decide)) (acons (vv 3) (acons (vv 6) anil))) (acons (vcallK0 (pm := [1, 0]) ⟨c_mean_out.fn, c_mean_out.g, c_mean_out.kp, c_mean_out.b⟩ (hr.mono (by decide)) kw_mean_out_0_share_n (akcons (vv 6) (akcons (vv 3) aknil))) (acons (vcall ⟨c_mean_out.fn, c_mean_out.g, c_mean_out.kp, c_mean_out.b⟩ (hr.mono (by decide)) (acons (vv 3) (acons (vv 9) anil))) anil))))))
  (sone (sif (tnot (tval (vcall ⟨c__law_same.fn, c__law_same.g, c__law_same.kp, c__law_same.b⟩ hr (acons (vv 7) (acons (vstay (vlst (acons (vv 8) (acons (vv 8) (acons (vv 8) anil))))) anil)))))
  (sone (sret vbl))
  snil)))))) PassesOwn.never)))) PassesOwn.never)
  (sone (sret vbl)))
end
end K35
end
section
set_option autoImplicit false
set_option maxRecDepth 100000
set_option maxHeartbeats 4000000
set_option exponentiation.threshold 7000
namespace K35
open PySem PySem.Spec PyProof.Rows L2 VL
theorem h_is_integer (ρ : En) (Q : RV → En → Prop) (h : S_is_integer ρ Q) : t_is_integer (endsV 1 Q) (ρ ++ List.replicate (1 - 1) .un) := by
  obtain ⟨d, rfl, h⟩ := h
  unfold t_is_integer
  cases d <;> (simp only [VL.wSeq, VL.wNext, VL.wNever, VL.wAsg, VL.wSet, VL.wVar, VL.wFrz, VL.wC, VL.wOp, VL.wTest, VL.wNotT, VL.wAndT, VL.wOrT, VL.wAnd, VL.wOr, VL.wNot, VL.wIf, VL.wNil, VL.wCons, VL.wTup, VL.wLst, VL.wStay, VL.wNew, VL.wPar, VL.wAug, VL.wDrop, VL.wRet, VL.wRetN, VL.wRet0, VL.wIfS, VL.wBrk, VL.wCnt, VL.wGt, VL.wGs, VL.wCB, VL.wCBN, VL.wCall, VL.wCallN, VL.wCallIo, VL.wCallIoN, VL.wCallK, VL.wIsi, VL.wIsi2, VL.wApp, VL.wExt, VL.wIns, VL.wSetIt, VL.wNoPart, VL.wPart, VL.wSl, VL.wSlN, VL.wChain, VL.wNeg, VL.wDnew, VL.wDput, VL.wDget, VL.wDin, VL.wDnin, VL.wIndex, VL.wRev, VL.wParNE, VL.wParEN, VL.wPar3, VL.wYes, VL.wSeqOf, VL.wRng1, VL.wRng2, VL.oI, VL.oI0, VL.oLt, VL.oLe, VL.oGt, VL.oGe, VL.oSub, VL.oMul, VL.oFdiv, VL.oMod, VL.oPow, VL.oShl', VL.oAbs, VL.oMax2, VL.oMin2, VL.oGcd, VL.atI_0, VL.atI_1, VL.atI_2, VL.ixN_20, VL.ixN_21, and_assoc, VL.shp_int, VL.shp_bool, VL.shp_none, VL.eqv_int, VL.eqv_bool, VL.isiD, VL.tyD, String.reduceBEq, Bool.not_true, Bool.not_false, Bool.and_true, Bool.and_false, Bool.true_and, Bool.false_and, Bool.or_true, Bool.or_false, Bool.true_or, Bool.false_or, decide_true, decide_false, Bool.not_eq_true', Bool.not_eq_eq_eq_not, decide_eq_true_eq, decide_eq_false_iff_not, VL.oInt1, VL.oInt2, VL.oLen, VL.oToInt, VL.oAdd, VL.oEq, VL.oNe, VL.oIsN, VL.oIn, VL.itemD, VL.isN, VL.der, VL.ders, VL.dats, VL.ioA, VL.endsV, VL.retE, VL.keepC, Option.map, List.range_succ, List.range_zero, List.map_cons, List.map_nil, List.map_append, List.nil_append, List.cons_append, List.append_nil, List.replicate_zero, List.replicate_succ, List.length_cons, List.length_nil, Nat.sub_self, List.getElem?_cons_zero, List.getElem?_cons_succ, List.set_cons_zero, List.set_cons_succ, Option.some.injEq, exists_eq_left', exists_eq_left, exists_eq_right, exists_and_left, exists_and_right, and_true, true_and, CV.d.injEq, CV.loc.injEq, Cell.lst.injEq, Cell.dat.injEq, Cell.dic.injEq, PyData.int.injEq, PyData.bool.injEq, PyData.list.injEq, PyData.tuple.injEq, PyData.str.injEq, reduceCtorEq, false_and, and_false, exists_false, false_or, or_false, if_true, if_false, reduceIte, Bool.false_eq_true, Nat.reduceAdd, Nat.reduceSub, Nat.succ_sub_succ, Nat.zero_add, VL.gP, List.filterMap_cons, List.filterMap_nil, List.cons.injEq, VL.wDisp0, VL.wDisp, VL.wPairs, VL.oLcm, VL.wPop, VL.wRevM, VL.wClearM, VL.wTupRg, VL.wListRg, VL.wR1, VL.wR2, VL.wRevN, VL.oRepT, VL.oRepL]; simpa [isiD, tyD, isIntD] using h)
theorem h_is_integer_from (ρ : En) (Q : RV → En → Prop) (h : S_is_integer_from ρ Q) : t_is_integer_from (endsV 2 Q) (ρ ++ List.replicate (2 - 2) .un) := by
  obtain ⟨d, m, rfl, h⟩ := h
  unfold t_is_integer_from
  cases d <;> (simp only [VL.wSeq, VL.wNext, VL.wNever, VL.wAsg, VL.wSet, VL.wVar, VL.wFrz, VL.wC, VL.wOp, VL.wTest, VL.wNotT, VL.wAndT, VL.wOrT, VL.wAnd, VL.wOr, VL.wNot, VL.wIf, VL.wNil, VL.wCons, VL.wTup, VL.wLst, VL.wStay, VL.wNew, VL.wPar, VL.wAug, VL.wDrop, VL.wRet, VL.wRetN, VL.wRet0, VL.wIfS, VL.wBrk, VL.wCnt, VL.wGt, VL.wGs, VL.wCB, VL.wCBN, VL.wCall, VL.wCallN, VL.wCallIo, VL.wCallIoN, VL.wCallK, VL.wIsi, VL.wIsi2, VL.wApp, VL.wExt, VL.wIns, VL.wSetIt, VL.wNoPart, VL.wPart, VL.wSl, VL.wSlN, VL.wChain, VL.wNeg, VL.wDnew, VL.wDput, VL.wDget, VL.wDin, VL.wDnin, VL.wIndex, VL.wRev, VL.wParNE, VL.wParEN, VL.wPar3, VL.wYes, VL.wSeqOf, VL.wRng1, VL.wRng2, VL.oI, VL.oI0, VL.oLt, VL.oLe, VL.oGt, VL.oGe, VL.oSub, VL.oMul, VL.oFdiv, VL.oMod, VL.oPow, VL.oShl', VL.oAbs, VL.oMax2, VL.oMin2, VL.oGcd, VL.atI_0, VL.atI_1, VL.atI_2, VL.ixN_20, VL.ixN_21, and_assoc, VL.shp_int, VL.shp_bool, VL.shp_none, VL.eqv_int, VL.eqv_bool, VL.isiD, VL.tyD, String.reduceBEq, Bool.not_true, Bool.not_false, Bool.and_true, Bool.and_false, Bool.true_and, Bool.false_and, Bool.or_true, Bool.or_false, Bool.true_or, Bool.false_or, decide_true, decide_false, Bool.not_eq_true', Bool.not_eq_eq_eq_not, decide_eq_true_eq, decide_eq_false_iff_not, VL.oInt1, VL.oInt2, VL.oLen, VL.oToInt, VL.oAdd, VL.oEq, VL.oNe, VL.oIsN, VL.oIn, VL.itemD, VL.isN, VL.der, VL.ders, VL.dats, VL.ioA, VL.endsV, VL.retE, VL.keepC, Option.map, List.range_succ, List.range_zero, List.map_cons, List.map_nil, List.map_append, List.nil_append, List.cons_append, List.append_nil, List.replicate_zero, List.replicate_succ, List.length_cons, List.length_nil, Nat.sub_self, List.getElem?_cons_zero, List.getElem?_cons_succ, List.set_cons_zero, List.set_cons_succ, Option.some.injEq, exists_eq_left', exists_eq_left, exists_eq_right, exists_and_left, exists_and_right, and_true, true_and, CV.d.injEq, CV.loc.injEq, Cell.lst.injEq, Cell.dat.injEq, Cell.dic.injEq, PyData.int.injEq, PyData.bool.injEq, PyData.list.injEq, PyData.tuple.injEq, PyData.str.injEq, reduceCtorEq, false_and, and_false, exists_false, false_or, or_false, if_true, if_false, reduceIte, Bool.false_eq_true, Nat.reduceAdd, Nat.reduceSub, Nat.succ_sub_succ, Nat.zero_add, VL.gP, List.filterMap_cons, List.filterMap_nil, List.cons.injEq, VL.wDisp0, VL.wDisp, VL.wPairs, VL.oLcm, VL.wPop, VL.wRevM, VL.wClearM, VL.wTupRg, VL.wListRg, VL.wR1, VL.wR2, VL.wRevN, VL.oRepT, VL.oRepL, S_is_integer]; simpa [isIntD, fromD] using h)
theorem h_lowest (ρ : En) (Q : RV → En → Prop) (h : S_lowest ρ Q) : t_lowest (endsV 2 Q) (ρ ++ List.replicate (3 - 2) .un) := by
  obtain ⟨a, b, rfl, h0, hb, h⟩ := h
  unfold t_lowest
  simp only [VL.wSeq, VL.wNext, VL.wNever, VL.wAsg, VL.wSet, VL.wVar, VL.wFrz, VL.wC, VL.wOp, VL.wTest, VL.wNotT, VL.wAndT, VL.wOrT, VL.wAnd, VL.wOr, VL.wNot, VL.wIf, VL.wNil, VL.wCons, VL.wTup, VL.wLst, VL.wStay, VL.wNew, VL.wPar, VL.wAug, VL.wDrop, VL.wRet, VL.wRetN, VL.wRet0, VL.wIfS, VL.wBrk, VL.wCnt, VL.wGt, VL.wGs, VL.wCB, VL.wCBN, VL.wCall, VL.wCallN, VL.wCallIo, VL.wCallIoN, VL.wCallK, VL.wIsi, VL.wIsi2, VL.wApp, VL.wExt, VL.wIns, VL.wSetIt, VL.wNoPart, VL.wPart, VL.wSl, VL.wSlN, VL.wChain, VL.wNeg, VL.wDnew, VL.wDput, VL.wDget, VL.wDin, VL.wDnin, VL.wIndex, VL.wRev, VL.wParNE, VL.wParEN, VL.wPar3, VL.wYes, VL.wSeqOf, VL.wRng1, VL.wRng2, VL.oI, VL.oI0, VL.oLt, VL.oLe, VL.oGt, VL.oGe, VL.oSub, VL.oMul, VL.oFdiv, VL.oMod, VL.oPow, VL.oShl', VL.oAbs, VL.oMax2, VL.oMin2, VL.oGcd, VL.atI_0, VL.atI_1, VL.atI_2, VL.ixN_20, VL.ixN_21, and_assoc, VL.shp_int, VL.shp_bool, VL.shp_none, VL.eqv_int, VL.eqv_bool, VL.isiD, VL.tyD, String.reduceBEq, Bool.not_true, Bool.not_false, Bool.and_true, Bool.and_false, Bool.true_and, Bool.false_and, Bool.or_true, Bool.or_false, Bool.true_or, Bool.false_or, decide_true, decide_false, Bool.not_eq_true', Bool.not_eq_eq_eq_not, decide_eq_true_eq, decide_eq_false_iff_not, VL.oInt1, VL.oInt2, VL.oLen, VL.oToInt, VL.oAdd, VL.oEq, VL.oNe, VL.oIsN, VL.oIn, VL.itemD, VL.isN, VL.der, VL.ders, VL.dats, VL.ioA, VL.endsV, VL.retE, VL.keepC, Option.map, List.range_succ, List.range_zero, List.map_cons, List.map_nil, List.map_append, List.nil_append, List.cons_append, List.append_nil, List.replicate_zero, List.replicate_succ, List.length_cons, List.length_nil, Nat.sub_self, List.getElem?_cons_zero, List.getElem?_cons_succ, List.set_cons_zero, List.set_cons_succ, Option.some.injEq, exists_eq_left', exists_eq_left, exists_eq_right, exists_and_left, exists_and_right, and_true, true_and, CV.d.injEq, CV.loc.injEq, Cell.lst.injEq, Cell.dat.injEq, Cell.dic.injEq, PyData.int.injEq, PyData.bool.injEq, PyData.list.injEq, PyData.tuple.injEq, PyData.str.injEq, reduceCtorEq, false_and, and_false, exists_false, false_or, or_false, if_true, if_false, reduceIte, Bool.false_eq_true, Nat.reduceAdd, Nat.reduceSub, Nat.succ_sub_succ, Nat.zero_add, VL.gP, List.filterMap_cons, List.filterMap_nil, List.cons.injEq, VL.wDisp0, VL.wDisp, VL.wPairs, VL.oLcm, VL.wPop, VL.wRevM, VL.wClearM, VL.wTupRg, VL.wListRg, VL.wR1, VL.wR2, VL.wRevN, VL.oRepT, VL.oRepL]
  refine ⟨cdv_gcd a a b h0 hb, cdv_gcd b a b h0 hb, by decide, ?_⟩
  rw [low_tup a b h0]
  exact h
theorem h_is_number (ρ : En) (Q : RV → En → Prop) (h : S_is_number ρ Q) : t_is_number (endsV 1 Q) (ρ ++ List.replicate (3 - 1) .un) := by
  obtain ⟨q, rfl, hb, h⟩ := h
  unfold t_is_number rD
  simp only [VL.wSeq, VL.wNext, VL.wNever, VL.wAsg, VL.wSet, VL.wVar, VL.wFrz, VL.wC, VL.wOp, VL.wTest, VL.wNotT, VL.wAndT, VL.wOrT, VL.wAnd, VL.wOr, VL.wNot, VL.wIf, VL.wNil, VL.wCons, VL.wTup, VL.wLst, VL.wStay, VL.wNew, VL.wPar, VL.wAug, VL.wDrop, VL.wRet, VL.wRetN, VL.wRet0, VL.wIfS, VL.wBrk, VL.wCnt, VL.wGt, VL.wGs, VL.wCB, VL.wCBN, VL.wCall, VL.wCallN, VL.wCallIo, VL.wCallIoN, VL.wCallK, VL.wIsi, VL.wIsi2, VL.wApp, VL.wExt, VL.wIns, VL.wSetIt, VL.wNoPart, VL.wPart, VL.wSl, VL.wSlN, VL.wChain, VL.wNeg, VL.wDnew, VL.wDput, VL.wDget, VL.wDin, VL.wDnin, VL.wIndex, VL.wRev, VL.wParNE, VL.wParEN, VL.wPar3, VL.wYes, VL.wSeqOf, VL.wRng1, VL.wRng2, VL.oI, VL.oI0, VL.oLt, VL.oLe, VL.oGt, VL.oGe, VL.oSub, VL.oMul, VL.oFdiv, VL.oMod, VL.oPow, VL.oShl', VL.oAbs, VL.oMax2, VL.oMin2, VL.oGcd, VL.atI_0, VL.atI_1, VL.atI_2, VL.ixN_20, VL.ixN_21, and_assoc, VL.shp_int, VL.shp_bool, VL.shp_none, VL.eqv_int, VL.eqv_bool, VL.isiD, VL.tyD, String.reduceBEq, Bool.not_true, Bool.not_false, Bool.and_true, Bool.and_false, Bool.true_and, Bool.false_and, Bool.or_true, Bool.or_false, Bool.true_or, Bool.false_or, decide_true, decide_false, Bool.not_eq_true', Bool.not_eq_eq_eq_not, decide_eq_true_eq, decide_eq_false_iff_not, VL.oInt1, VL.oInt2, VL.oLen, VL.oToInt, VL.oAdd, VL.oEq, VL.oNe, VL.oIsN, VL.oIn, VL.itemD, VL.isN, VL.der, VL.ders, VL.dats, VL.ioA, VL.endsV, VL.retE, VL.keepC, Option.map, List.range_succ, List.range_zero, List.map_cons, List.map_nil, List.map_append, List.nil_append, List.cons_append, List.append_nil, List.replicate_zero, List.replicate_succ, List.length_cons, List.length_nil, Nat.sub_self, List.getElem?_cons_zero, List.getElem?_cons_succ, List.set_cons_zero, List.set_cons_succ, Option.some.injEq, exists_eq_left', exists_eq_left, exists_eq_right, exists_and_left, exists_and_right, and_true, true_and, CV.d.injEq, CV.loc.injEq, Cell.lst.injEq, Cell.dat.injEq, Cell.dic.injEq, PyData.int.injEq, PyData.bool.injEq, PyData.list.injEq, PyData.tuple.injEq, PyData.str.injEq, reduceCtorEq, false_and, and_false, exists_false, false_or, or_false, if_true, if_false, reduceIte, Bool.false_eq_true, Nat.reduceAdd, Nat.reduceSub, Nat.succ_sub_succ, Nat.zero_add, VL.gP, List.filterMap_cons, List.filterMap_nil, List.cons.injEq, VL.wDisp0, VL.wDisp, VL.wPairs, VL.oLcm, VL.wPop, VL.wRevM, VL.wClearM, VL.wTupRg, VL.wListRg, VL.wR1, VL.wR2, VL.wRevN, VL.oRepT, VL.oRepL, S_lowest, S_is_integer, S_is_integer_from, isIntD, fromD]
  have hp := den_pos q
  rw [if_neg (show ¬ ¬ ((2 : Nat) : Int) = 2 by decide), if_pos (show (1 : Int) ≤ (q.den : Int) by omega)]
  refine ⟨hp, hb, shp_rD _, rfl, ?_⟩
  rw [qdiv]
  have e := eqv_rD q q
  rw [decide_eq_true rfl] at e
  rw [show PyData.eqv (rD q) (PyData.tuple [PyData.int q.num, PyData.int (q.den : Int)]) = true from e]
  exact h
theorem fmod_lt {a m : Int} (h : 0 < m) : ∃ r : Nat, a.fmod m = r ∧ (r : Int) < m := by
  have h1 := Int.fmod_nonneg_of_pos a h
  have h2 := Int.fmod_lt_of_pos a h
  exact ⟨(a.fmod m).toNat, by omega, by omega⟩
theorem atI_ints {ns : List Int} {k : Nat} (h : k < ns.length) : atI (ns.map PyData.int) (k : Int) = some (.int ns[k]) := by
  unfold atI
  rw [show ixN (ns.map PyData.int).length (k : Int) = some k by simp [ixN]; omega]
  simp [h]
theorem int_at {ns : List Int} {i : Nat} {d : D} (h : (ns.map PyData.int)[i]? = some d) : ∃ x, d = .int x ∧ ns[i]? = some x := by
  rw [List.getElem?_map] at h
  cases e : ns[i]? with
  | none =>
    rw [e] at h
    cases h
  | some x =>
    rw [e] at h
    cases h
    exact ⟨x, rfl, rfl⟩
theorem rng_at {n i : Nat} {d : D} (h : (rngD 0 (n : Int))[i]? = some d) : d = .int i ∧ i < n := by
  unfold rngD at h
  rw [List.getElem?_map] at h
  cases e : (List.range ((n : Int) - 0).toNat)[i]? with
  | none =>
    rw [e] at h
    cases h
  | some x =>
    rw [e] at h
    cases h
    obtain ⟨h1, h2⟩ := List.getElem?_eq_some_iff.mp e
    rw [List.getElem_range] at h2
    rw [List.length_range] at h1
    subst h2
    exact ⟨congrArg PyData.int (Int.zero_add _), by omega⟩
theorem rng_len {n : Nat} : (rngD 0 (n : Int)).length = n := by simp [rngD]
theorem seq_gen {t u : WS} {w : WEn} {ρ : En} (h : ∀ k : En → Prop, (∀ ρ', k ρ' = u w ρ') → t { w with nx := k } ρ) : wSeq t u w ρ := h _ (fun _ => rfl)
theorem natAbs_lt {x : Int} {m : Nat} (h0 : 0 ≤ x) (h : x < 2 ^ m) : x.natAbs < 2 ^ m := by
  have e : ((2 ^ m : Nat) : Int) = (2 : Int) ^ m := by simp
  omega
theorem for_body {wi : WN} {g : WG} {tb : WS} {w : WEn} {ρ : En} (h : ∀ B : WS, (∀ w' ρ', B w' ρ' = tb w' ρ') → wFor wi g B w ρ) : wFor wi g tb w ρ := h tb fun _ _ => rfl
theorem ifs_gen {t : WT} {A B : WS} {w : WEn} {ρ : En} (h : ∀ X Y : WS, (∀ w' ρ', X w' ρ' = A w' ρ') → (∀ w' ρ', Y w' ρ' = B w' ρ') → wIfS t X Y w ρ) : wIfS t A B w ρ := h A B (fun _ _ => rfl) fun _ _ => rfl
end K35
end
section
set_option autoImplicit false
set_option maxRecDepth 100000
set_option maxHeartbeats 4000000
set_option exponentiation.threshold 7000
namespace K35
open PySem PySem.Spec PyProof.Rows L2 VL
theorem h_check_count (ρ : En) (Q : RV → En → Prop) (h : S_check_count ρ Q) : t_check_count (endsV 1 Q) (ρ ++ List.replicate (1 - 1) .un) := by
  obtain ⟨n, rfl, h1, h⟩ := h
  unfold t_check_count
  simp only [VL.wSeq, VL.wNext, VL.wNever, VL.wAsg, VL.wSet, VL.wVar, VL.wFrz, VL.wC, VL.wOp, VL.wTest, VL.wNotT, VL.wAndT, VL.wOrT, VL.wAnd, VL.wOr, VL.wNot, VL.wIf, VL.wNil, VL.wCons, VL.wTup, VL.wLst, VL.wStay, VL.wNew, VL.wPar, VL.wAug, VL.wDrop, VL.wRet, VL.wRetN, VL.wRet0, VL.wIfS, VL.wBrk, VL.wCnt, VL.wGt, VL.wGs, VL.wCB, VL.wCBN, VL.wCall, VL.wCallN, VL.wCallIo, VL.wCallIoN, VL.wCallK, VL.wIsi, VL.wIsi2, VL.wApp, VL.wExt, VL.wIns, VL.wSetIt, VL.wNoPart, VL.wPart, VL.wSl, VL.wSlN, VL.wChain, VL.wNeg, VL.wDnew, VL.wDput, VL.wDget, VL.wDin, VL.wDnin, VL.wIndex, VL.wRev, VL.wParNE, VL.wParEN, VL.wPar3, VL.wYes, VL.wSeqOf, VL.wRng1, VL.wRng2, VL.oI, VL.oI0, VL.oLt, VL.oLe, VL.oGt, VL.oGe, VL.oSub, VL.oMul, VL.oFdiv, VL.oMod, VL.oPow, VL.oShl', VL.oAbs, VL.oMax2, VL.oMin2, VL.oGcd, VL.atI_0, VL.atI_1, VL.atI_2, VL.ixN_20, VL.ixN_21, and_assoc, VL.shp_int, VL.shp_bool, VL.shp_none, VL.eqv_int, VL.eqv_bool, VL.isiD, VL.tyD, String.reduceBEq, Bool.not_true, Bool.not_false, Bool.and_true, Bool.and_false, Bool.true_and, Bool.false_and, Bool.or_true, Bool.or_false, Bool.true_or, Bool.false_or, decide_true, decide_false, Bool.not_eq_true', Bool.not_eq_eq_eq_not, decide_eq_true_eq, decide_eq_false_iff_not, VL.oInt1, VL.oInt2, VL.oLen, VL.oToInt, VL.oAdd, VL.oEq, VL.oNe, VL.oIsN, VL.oIn, VL.itemD, VL.isN, VL.der, VL.ders, VL.dats, VL.ioA, VL.endsV, VL.retE, VL.keepC, Option.map, List.range_succ, List.range_zero, List.map_cons, List.map_nil, List.map_append, List.nil_append, List.cons_append, List.append_nil, List.replicate_zero, List.replicate_succ, List.length_cons, List.length_nil, Nat.sub_self, List.getElem?_cons_zero, List.getElem?_cons_succ, List.set_cons_zero, List.set_cons_succ, Option.some.injEq, exists_eq_left', exists_eq_left, exists_eq_right, exists_and_left, exists_and_right, and_true, true_and, CV.d.injEq, CV.loc.injEq, Cell.lst.injEq, Cell.dat.injEq, Cell.dic.injEq, PyData.int.injEq, PyData.bool.injEq, PyData.list.injEq, PyData.tuple.injEq, PyData.str.injEq, reduceCtorEq, false_and, and_false, exists_false, false_or, or_false, if_true, if_false, reduceIte, Bool.false_eq_true, Nat.reduceAdd, Nat.reduceSub, Nat.succ_sub_succ, Nat.zero_add, VL.gP, List.filterMap_cons, List.filterMap_nil, List.cons.injEq, VL.wDisp0, VL.wDisp, VL.wPairs, VL.oLcm, VL.wPop, VL.wRevM, VL.wClearM, VL.wTupRg, VL.wListRg, VL.wR1, VL.wR2, VL.wRevN, VL.oRepT, VL.oRepL, S_is_integer_from, fromD]
  rw [if_neg (by simp; omega)]
  exact h
theorem h__law_low (ρ : En) (Q : RV → En → Prop) (h : S__law_low ρ Q) : t__law_low (endsV 2 Q) (ρ ++ List.replicate (4 - 2) .un) := by
  obtain ⟨a, b, rfl, h0, hb, h⟩ := h
  unfold t__law_low
  have ab : ∀ x : Int, (if x < 0 then -x else x) = (x.natAbs : Int) := fun x => by split <;> omega
  simp only [VL.wSeq, VL.wNext, VL.wNever, VL.wAsg, VL.wSet, VL.wVar, VL.wFrz, VL.wC, VL.wOp, VL.wTest, VL.wNotT, VL.wAndT, VL.wOrT, VL.wAnd, VL.wOr, VL.wNot, VL.wIf, VL.wNil, VL.wCons, VL.wTup, VL.wLst, VL.wStay, VL.wNew, VL.wPar, VL.wAug, VL.wDrop, VL.wRet, VL.wRetN, VL.wRet0, VL.wIfS, VL.wBrk, VL.wCnt, VL.wGt, VL.wGs, VL.wCB, VL.wCBN, VL.wCall, VL.wCallN, VL.wCallIo, VL.wCallIoN, VL.wCallK, VL.wIsi, VL.wIsi2, VL.wApp, VL.wExt, VL.wIns, VL.wSetIt, VL.wNoPart, VL.wPart, VL.wSl, VL.wSlN, VL.wChain, VL.wNeg, VL.wDnew, VL.wDput, VL.wDget, VL.wDin, VL.wDnin, VL.wIndex, VL.wRev, VL.wParNE, VL.wParEN, VL.wPar3, VL.wYes, VL.wSeqOf, VL.wRng1, VL.wRng2, VL.oI, VL.oI0, VL.oLt, VL.oLe, VL.oGt, VL.oGe, VL.oSub, VL.oMul, VL.oFdiv, VL.oMod, VL.oPow, VL.oShl', VL.oAbs, VL.oMax2, VL.oMin2, VL.oGcd, VL.atI_0, VL.atI_1, VL.atI_2, VL.ixN_20, VL.ixN_21, and_assoc, VL.shp_int, VL.shp_bool, VL.shp_none, VL.eqv_int, VL.eqv_bool, VL.isiD, VL.tyD, String.reduceBEq, Bool.not_true, Bool.not_false, Bool.and_true, Bool.and_false, Bool.true_and, Bool.false_and, Bool.or_true, Bool.or_false, Bool.true_or, Bool.false_or, decide_true, decide_false, Bool.not_eq_true', Bool.not_eq_eq_eq_not, decide_eq_true_eq, decide_eq_false_iff_not, VL.oInt1, VL.oInt2, VL.oLen, VL.oToInt, VL.oAdd, VL.oEq, VL.oNe, VL.oIsN, VL.oIn, VL.itemD, VL.isN, VL.der, VL.ders, VL.dats, VL.ioA, VL.endsV, VL.retE, VL.keepC, Option.map, List.range_succ, List.range_zero, List.map_cons, List.map_nil, List.map_append, List.nil_append, List.cons_append, List.append_nil, List.replicate_zero, List.replicate_succ, List.length_cons, List.length_nil, Nat.sub_self, List.getElem?_cons_zero, List.getElem?_cons_succ, List.set_cons_zero, List.set_cons_succ, Option.some.injEq, exists_eq_left', exists_eq_left, exists_eq_right, exists_and_left, exists_and_right, and_true, true_and, CV.d.injEq, CV.loc.injEq, Cell.lst.injEq, Cell.dat.injEq, Cell.dic.injEq, PyData.int.injEq, PyData.bool.injEq, PyData.list.injEq, PyData.tuple.injEq, PyData.str.injEq, reduceCtorEq, false_and, and_false, exists_false, false_or, or_false, if_true, if_false, reduceIte, Bool.false_eq_true, Nat.reduceAdd, Nat.reduceSub, Nat.succ_sub_succ, Nat.zero_add, VL.gP, List.filterMap_cons, List.filterMap_nil, List.cons.injEq, VL.wDisp0, VL.wDisp, VL.wPairs, VL.oLcm, VL.wPop, VL.wRevM, VL.wClearM, VL.wTupRg, VL.wListRg, VL.wR1, VL.wR2, VL.wRevN, VL.oRepT, VL.oRepL, wWhile, ab]
  refine ⟨fun m ρ => ∃ x y : Nat, ρ = [.dat (.int a), .dat (.int b), .dat (.int x), .dat (.int y)] ∧ Nat.gcd x y = Int.gcd a b ∧ m = y, ⟨b.natAbs, a.natAbs, b.natAbs, ?_, rfl, rfl⟩, ?_⟩
  · rw [show ((b.natAbs : Nat) : Int) = b by omega]
  rintro m ρ ⟨x, y, rfl, hg, rfl⟩
  simp only [VL.wSeq, VL.wNext, VL.wNever, VL.wAsg, VL.wSet, VL.wVar, VL.wFrz, VL.wC, VL.wOp, VL.wTest, VL.wNotT, VL.wAndT, VL.wOrT, VL.wAnd, VL.wOr, VL.wNot, VL.wIf, VL.wNil, VL.wCons, VL.wTup, VL.wLst, VL.wStay, VL.wNew, VL.wPar, VL.wAug, VL.wDrop, VL.wRet, VL.wRetN, VL.wRet0, VL.wIfS, VL.wBrk, VL.wCnt, VL.wGt, VL.wGs, VL.wCB, VL.wCBN, VL.wCall, VL.wCallN, VL.wCallIo, VL.wCallIoN, VL.wCallK, VL.wIsi, VL.wIsi2, VL.wApp, VL.wExt, VL.wIns, VL.wSetIt, VL.wNoPart, VL.wPart, VL.wSl, VL.wSlN, VL.wChain, VL.wNeg, VL.wDnew, VL.wDput, VL.wDget, VL.wDin, VL.wDnin, VL.wIndex, VL.wRev, VL.wParNE, VL.wParEN, VL.wPar3, VL.wYes, VL.wSeqOf, VL.wRng1, VL.wRng2, VL.oI, VL.oI0, VL.oLt, VL.oLe, VL.oGt, VL.oGe, VL.oSub, VL.oMul, VL.oFdiv, VL.oMod, VL.oPow, VL.oShl', VL.oAbs, VL.oMax2, VL.oMin2, VL.oGcd, VL.atI_0, VL.atI_1, VL.atI_2, VL.ixN_20, VL.ixN_21, and_assoc, VL.shp_int, VL.shp_bool, VL.shp_none, VL.eqv_int, VL.eqv_bool, VL.isiD, VL.tyD, String.reduceBEq, Bool.not_true, Bool.not_false, Bool.and_true, Bool.and_false, Bool.true_and, Bool.false_and, Bool.or_true, Bool.or_false, Bool.true_or, Bool.false_or, decide_true, decide_false, Bool.not_eq_true', Bool.not_eq_eq_eq_not, decide_eq_true_eq, decide_eq_false_iff_not, VL.oInt1, VL.oInt2, VL.oLen, VL.oToInt, VL.oAdd, VL.oEq, VL.oNe, VL.oIsN, VL.oIn, VL.itemD, VL.isN, VL.der, VL.ders, VL.dats, VL.ioA, VL.endsV, VL.retE, VL.keepC, Option.map, List.range_succ, List.range_zero, List.map_cons, List.map_nil, List.map_append, List.nil_append, List.cons_append, List.append_nil, List.replicate_zero, List.replicate_succ, List.length_cons, List.length_nil, Nat.sub_self, List.getElem?_cons_zero, List.getElem?_cons_succ, List.set_cons_zero, List.set_cons_succ, Option.some.injEq, exists_eq_left', exists_eq_left, exists_eq_right, exists_and_left, exists_and_right, and_true, true_and, CV.d.injEq, CV.loc.injEq, Cell.lst.injEq, Cell.dat.injEq, Cell.dic.injEq, PyData.int.injEq, PyData.bool.injEq, PyData.list.injEq, PyData.tuple.injEq, PyData.str.injEq, reduceCtorEq, false_and, and_false, exists_false, false_or, or_false, if_true, if_false, reduceIte, Bool.false_eq_true, Nat.reduceAdd, Nat.reduceSub, Nat.succ_sub_succ, Nat.zero_add, VL.gP, List.filterMap_cons, List.filterMap_nil, List.cons.injEq, VL.wDisp0, VL.wDisp, VL.wPairs, VL.oLcm, VL.wPop, VL.wRevM, VL.wClearM, VL.wTupRg, VL.wListRg, VL.wR1, VL.wR2, VL.wRevN, VL.oRepT, VL.oRepL]
  by_cases g : m = 0
  · subst g
    rw [if_neg (by simp)]
    rw [Nat.gcd_zero_right] at hg
    rw [hg]
    refine ⟨cdv_gcd a a b h0 hb, cdv_gcd b a b h0 hb, by decide, ?_⟩
    rw [low_tup a b h0]
    exact h
  · rw [if_pos (by omega)]
    refine ⟨by omega, x % m, Nat.mod_lt _ (by omega), m, rfl, x % m, ?_, ?_, rfl⟩
    · rw [Int.fmod_eq_emod_of_nonneg _ (by omega), Int.natCast_emod]
    · rw [← hg, Nat.gcd_comm x m, Nat.gcd_rec m x, Nat.gcd_comm]
theorem h__law_well (ρ : En) (Q : RV → En → Prop) (h : S__law_well ρ Q) : t__law_well (endsV 2 Q) (ρ ++ List.replicate (3 - 2) .un) := by
  obtain ⟨ns, k, rfl, hl, hk, h⟩ := h
  unfold t__law_well intL
  have cp : CPow 10 18 := ⟨by decide, by decide, by decide⟩
  have cp2 : CPow 10 24 := ⟨by decide, by decide, by decide⟩
  have ne : (10 ^ Int.toNat 24 + 7 : Int) ≠ 0 := by decide
  have ck : ∀ x : Int, COk x 48611 := fun x => .inl (.inr ⟨by decide, by decide⟩)
  have ck2 : ∀ x : Int, COk x 6700417 := fun x => .inl (.inr ⟨by decide, by decide⟩)
  have ck3 : ∀ x : Int, COk x 7919 := fun x => .inl (.inr ⟨by decide, by decide⟩)
  have ck4 : ∀ x : Int, COk x 104729 := fun x => .inl (.inr ⟨by decide, by decide⟩)
  have sz : 3 ≤ sizeLine := by decide
  have fin : ∀ (a c : Int), Q (.new [.int a, .int (c.fmod (10 ^ Int.toNat 24 + 7)), .int 0]) [.un, .un] := fun a c => h _ _ (Int.fmod_nonneg_of_pos _ (by decide)) (Int.lt_trans (Int.fmod_lt_of_pos _ (by decide)) (by decide))
  simp only [VL.wSeq, VL.wNext, VL.wNever, VL.wAsg, VL.wSet, VL.wVar, VL.wFrz, VL.wC, VL.wOp, VL.wTest, VL.wNotT, VL.wAndT, VL.wOrT, VL.wAnd, VL.wOr, VL.wNot, VL.wIf, VL.wNil, VL.wCons, VL.wTup, VL.wLst, VL.wStay, VL.wNew, VL.wPar, VL.wAug, VL.wDrop, VL.wRet, VL.wRetN, VL.wRet0, VL.wIfS, VL.wBrk, VL.wCnt, VL.wGt, VL.wGs, VL.wCB, VL.wCBN, VL.wCall, VL.wCallN, VL.wCallIo, VL.wCallIoN, VL.wCallK, VL.wIsi, VL.wIsi2, VL.wApp, VL.wExt, VL.wIns, VL.wSetIt, VL.wNoPart, VL.wPart, VL.wSl, VL.wSlN, VL.wChain, VL.wNeg, VL.wDnew, VL.wDput, VL.wDget, VL.wDin, VL.wDnin, VL.wIndex, VL.wRev, VL.wParNE, VL.wParEN, VL.wPar3, VL.wYes, VL.wSeqOf, VL.wRng1, VL.wRng2, VL.oI, VL.oI0, VL.oLt, VL.oLe, VL.oGt, VL.oGe, VL.oSub, VL.oMul, VL.oFdiv, VL.oMod, VL.oPow, VL.oShl', VL.oAbs, VL.oMax2, VL.oMin2, VL.oGcd, VL.atI_0, VL.atI_1, VL.atI_2, VL.ixN_20, VL.ixN_21, and_assoc, VL.shp_int, VL.shp_bool, VL.shp_none, VL.eqv_int, VL.eqv_bool, VL.isiD, VL.tyD, String.reduceBEq, Bool.not_true, Bool.not_false, Bool.and_true, Bool.and_false, Bool.true_and, Bool.false_and, Bool.or_true, Bool.or_false, Bool.true_or, Bool.false_or, decide_true, decide_false, Bool.not_eq_true', Bool.not_eq_eq_eq_not, decide_eq_true_eq, decide_eq_false_iff_not, VL.oInt1, VL.oInt2, VL.oLen, VL.oToInt, VL.oAdd, VL.oEq, VL.oNe, VL.oIsN, VL.oIn, VL.itemD, VL.isN, VL.der, VL.ders, VL.dats, VL.ioA, VL.endsV, VL.retE, VL.keepC, Option.map, List.range_succ, List.range_zero, List.map_cons, List.map_nil, List.map_append, List.nil_append, List.cons_append, List.append_nil, List.replicate_zero, List.replicate_succ, List.length_cons, List.length_nil, Nat.sub_self, List.getElem?_cons_zero, List.getElem?_cons_succ, List.set_cons_zero, List.set_cons_succ, Option.some.injEq, exists_eq_left', exists_eq_left, exists_eq_right, exists_and_left, exists_and_right, and_true, true_and, CV.d.injEq, CV.loc.injEq, Cell.lst.injEq, Cell.dat.injEq, Cell.dic.injEq, PyData.int.injEq, PyData.bool.injEq, PyData.list.injEq, PyData.tuple.injEq, PyData.str.injEq, reduceCtorEq, false_and, and_false, exists_false, false_or, or_false, if_true, if_false, reduceIte, Bool.false_eq_true, Nat.reduceAdd, Nat.reduceSub, Nat.succ_sub_succ, Nat.zero_add, VL.gP, List.filterMap_cons, List.filterMap_nil, List.cons.injEq, VL.wDisp0, VL.wDisp, VL.wPairs, VL.oLcm, VL.wPop, VL.wRevM, VL.wClearM, VL.wTupRg, VL.wListRg, VL.wR1, VL.wR2, VL.wRevN, VL.oRepT, VL.oRepL, List.length_map]
  by_cases g : k < ns.length
  · rw [if_pos (by omega)]
    simp only [VL.wSeq, VL.wNext, VL.wNever, VL.wAsg, VL.wSet, VL.wVar, VL.wFrz, VL.wC, VL.wOp, VL.wTest, VL.wNotT, VL.wAndT, VL.wOrT, VL.wAnd, VL.wOr, VL.wNot, VL.wIf, VL.wNil, VL.wCons, VL.wTup, VL.wLst, VL.wStay, VL.wNew, VL.wPar, VL.wAug, VL.wDrop, VL.wRet, VL.wRetN, VL.wRet0, VL.wIfS, VL.wBrk, VL.wCnt, VL.wGt, VL.wGs, VL.wCB, VL.wCBN, VL.wCall, VL.wCallN, VL.wCallIo, VL.wCallIoN, VL.wCallK, VL.wIsi, VL.wIsi2, VL.wApp, VL.wExt, VL.wIns, VL.wSetIt, VL.wNoPart, VL.wPart, VL.wSl, VL.wSlN, VL.wChain, VL.wNeg, VL.wDnew, VL.wDput, VL.wDget, VL.wDin, VL.wDnin, VL.wIndex, VL.wRev, VL.wParNE, VL.wParEN, VL.wPar3, VL.wYes, VL.wSeqOf, VL.wRng1, VL.wRng2, VL.oI, VL.oI0, VL.oLt, VL.oLe, VL.oGt, VL.oGe, VL.oSub, VL.oMul, VL.oFdiv, VL.oMod, VL.oPow, VL.oShl', VL.oAbs, VL.oMax2, VL.oMin2, VL.oGcd, VL.atI_0, VL.atI_1, VL.atI_2, VL.ixN_20, VL.ixN_21, and_assoc, VL.shp_int, VL.shp_bool, VL.shp_none, VL.eqv_int, VL.eqv_bool, VL.isiD, VL.tyD, String.reduceBEq, Bool.not_true, Bool.not_false, Bool.and_true, Bool.and_false, Bool.true_and, Bool.false_and, Bool.or_true, Bool.or_false, Bool.true_or, Bool.false_or, decide_true, decide_false, Bool.not_eq_true', Bool.not_eq_eq_eq_not, decide_eq_true_eq, decide_eq_false_iff_not, VL.oInt1, VL.oInt2, VL.oLen, VL.oToInt, VL.oAdd, VL.oEq, VL.oNe, VL.oIsN, VL.oIn, VL.itemD, VL.isN, VL.der, VL.ders, VL.dats, VL.ioA, VL.endsV, VL.retE, VL.keepC, Option.map, List.range_succ, List.range_zero, List.map_cons, List.map_nil, List.map_append, List.nil_append, List.cons_append, List.append_nil, List.replicate_zero, List.replicate_succ, List.length_cons, List.length_nil, Nat.sub_self, List.getElem?_cons_zero, List.getElem?_cons_succ, List.set_cons_zero, List.set_cons_succ, Option.some.injEq, exists_eq_left', exists_eq_left, exists_eq_right, exists_and_left, exists_and_right, and_true, true_and, CV.d.injEq, CV.loc.injEq, Cell.lst.injEq, Cell.dat.injEq, Cell.dic.injEq, PyData.int.injEq, PyData.bool.injEq, PyData.list.injEq, PyData.tuple.injEq, PyData.str.injEq, reduceCtorEq, false_and, and_false, exists_false, false_or, or_false, if_true, if_false, reduceIte, Bool.false_eq_true, Nat.reduceAdd, Nat.reduceSub, Nat.succ_sub_succ, Nat.zero_add, VL.gP, List.filterMap_cons, List.filterMap_nil, List.cons.injEq, VL.wDisp0, VL.wDisp, VL.wPairs, VL.oLcm, VL.wPop, VL.wRevM, VL.wClearM, VL.wTupRg, VL.wListRg, VL.wR1, VL.wR2, VL.wRevN, VL.oRepT, VL.oRepL, atI_ints g]
    exact ⟨cp, ck _, ck2 _, cp2, ne, sz, fin _ _⟩
  · rw [if_neg (by omega)]
    exact ⟨ck3 _, ck4 _, cp, ck _, ck2 _, cp2, ne, sz, fin _ _⟩
theorem cpw {x : Int} {j : Nat} (h0 : 0 ≤ x) (h : x < 2 ^ 120) (hj : j ≤ 10) : CPowW x (j : Int) := by
  have l := log2_lt (natAbs_lt h0 h) (by decide)
  refine ⟨by omega, ?_⟩
  have : ((x.natAbs.log2 : Int) + 1) * (j : Int) ≤ 121 * 10 := Int.mul_le_mul (by omega) (by omega) (by omega) (by omega)
  omega
theorem ix30 : ixN 3 0 = some 0 := rfl
theorem ix31 : ixN 3 1 = some 1 := rfl
theorem ix32 : ixN 3 2 = some 2 := rfl
theorem h__law_dip (ρ : En) (Q : RV → En → Prop) (h : S__law_dip ρ Q) : t__law_dip (endsV 2 Q) (ρ ++ List.replicate (4 - 2) .un) := by
  obtain ⟨a, b, m, c, rfl, b0, b1, hc0, hc, h0, h1, h⟩ := h
  unfold t__law_dip
  have hm : m ≠ 0 := by omega
  have bm : Bd m := small_bd (by omega) (by omega)
  simp only [VL.wSeq, VL.wNext, VL.wNever, VL.wAsg, VL.wSet, VL.wVar, VL.wFrz, VL.wC, VL.wOp, VL.wTest, VL.wNotT, VL.wAndT, VL.wOrT, VL.wAnd, VL.wOr, VL.wNot, VL.wIf, VL.wNil, VL.wCons, VL.wTup, VL.wLst, VL.wStay, VL.wNew, VL.wPar, VL.wAug, VL.wDrop, VL.wRet, VL.wRetN, VL.wRet0, VL.wIfS, VL.wBrk, VL.wCnt, VL.wGt, VL.wGs, VL.wCB, VL.wCBN, VL.wCall, VL.wCallN, VL.wCallIo, VL.wCallIoN, VL.wCallK, VL.wIsi, VL.wIsi2, VL.wApp, VL.wExt, VL.wIns, VL.wSetIt, VL.wNoPart, VL.wPart, VL.wSl, VL.wSlN, VL.wChain, VL.wNeg, VL.wDnew, VL.wDput, VL.wDget, VL.wDin, VL.wDnin, VL.wIndex, VL.wRev, VL.wParNE, VL.wParEN, VL.wPar3, VL.wYes, VL.wSeqOf, VL.wRng1, VL.wRng2, VL.oI, VL.oI0, VL.oLt, VL.oLe, VL.oGt, VL.oGe, VL.oSub, VL.oMul, VL.oFdiv, VL.oMod, VL.oPow, VL.oShl', VL.oAbs, VL.oMax2, VL.oMin2, VL.oGcd, VL.atI_0, VL.atI_1, VL.atI_2, VL.ixN_20, VL.ixN_21, and_assoc, VL.shp_int, VL.shp_bool, VL.shp_none, VL.eqv_int, VL.eqv_bool, VL.isiD, VL.tyD, String.reduceBEq, Bool.not_true, Bool.not_false, Bool.and_true, Bool.and_false, Bool.true_and, Bool.false_and, Bool.or_true, Bool.or_false, Bool.true_or, Bool.false_or, decide_true, decide_false, Bool.not_eq_true', Bool.not_eq_eq_eq_not, decide_eq_true_eq, decide_eq_false_iff_not, VL.oInt1, VL.oInt2, VL.oLen, VL.oToInt, VL.oAdd, VL.oEq, VL.oNe, VL.oIsN, VL.oIn, VL.itemD, VL.isN, VL.der, VL.ders, VL.dats, VL.ioA, VL.endsV, VL.retE, VL.keepC, Option.map, List.range_succ, List.range_zero, List.map_cons, List.map_nil, List.map_append, List.nil_append, List.cons_append, List.append_nil, List.replicate_zero, List.replicate_succ, List.length_cons, List.length_nil, Nat.sub_self, List.getElem?_cons_zero, List.getElem?_cons_succ, List.set_cons_zero, List.set_cons_succ, Option.some.injEq, exists_eq_left', exists_eq_left, exists_eq_right, exists_and_left, exists_and_right, and_true, true_and, CV.d.injEq, CV.loc.injEq, Cell.lst.injEq, Cell.dat.injEq, Cell.dic.injEq, PyData.int.injEq, PyData.bool.injEq, PyData.list.injEq, PyData.tuple.injEq, PyData.str.injEq, reduceCtorEq, false_and, and_false, exists_false, false_or, or_false, if_true, if_false, reduceIte, Bool.false_eq_true, Nat.reduceAdd, Nat.reduceSub, Nat.succ_sub_succ, Nat.zero_add, VL.gP, List.filterMap_cons, List.filterMap_nil, List.cons.injEq, VL.wDisp0, VL.wDisp, VL.wPairs, VL.oLcm, VL.wPop, VL.wRevM, VL.wClearM, VL.wTupRg, VL.wListRg, VL.wR1, VL.wR2, VL.wRevN, VL.oRepT, VL.oRepL, ix30, ix31, ix32, oPowW]
  by_cases g : 0 < a
  · rw [if_pos g]
    obtain ⟨r, e, l⟩ := fmod_lt (a := a) h0
    rw [e]
    exact ⟨hm, cdv_pos h0 bm, ⟨_, rfl⟩, h r _ c l hc0 (by omega)⟩
  · rw [if_neg g]
    generalize hx : ((b + 1000003 * (c + 1)) ^ Int.toNat 3).fmod (10 ^ Int.toNat 25 + 13) = x
    have x0 : 0 ≤ x := by
      rw [← hx]
      exact Int.fmod_nonneg_of_pos _ (by decide)
    have x1 : x < 10 ^ Int.toNat 25 + 13 := by
      rw [← hx]
      exact Int.fmod_lt_of_pos _ (by decide)
    have e25 : (10 : Int) ^ Int.toNat 25 = 10000000000000000000000000 := by decide
    generalize (((x + 77347 * (c + 1)) ^ Int.toNat 2).fmod (10 ^ Int.toNat 24 + 7)).fdiv 4096 = z
    obtain ⟨r, e, l⟩ := fmod_lt (a := z) h0
    rw [e]
    exact ⟨⟨_, rfl⟩, .inl (.inl ⟨by decide, by decide⟩), cpw (j := 3) (by omega) (by omega) (by decide), ⟨by decide, by decide, by decide⟩, by decide, .inl (.inl ⟨by decide, by decide⟩), cpw (j := 2) (by omega) (by omega) (by decide), ⟨by decide, by decide, by decide⟩, by decide, cdv_pos (by decide) (small_bd (by decide) (by decide)), hm, h r a (c + 1) l (by omega) (by omega)⟩
theorem z__law_same {ρ : En} {Q : RV → En → Prop} (h : S__law_same 0 ρ Q) : False := by
  obtain ⟨d, _, h, _⟩ := h
  cases h
theorem atI_at {ds : List D} {i : Nat} (hi : i < ds.length) : atI ds (i : Int) = some ds[i] := by
  unfold atI
  rw [show ixN ds.length (i : Int) = some i by simp [ixN]; omega]
  simp [hi]
theorem h__law_same (j : Nat) (ρ : En) (Q : RV → En → Prop) (h : S__law_same (j + 1) ρ Q) : t__law_same j (endsV 2 Q) (ρ ++ List.replicate (4 - 2) .un) := by
  obtain ⟨d, rfl, ok, h⟩ := h
  unfold t__law_same
  cases ok with
  | int _ i =>
    simp only [VL.wSeq, VL.wNext, VL.wNever, VL.wAsg, VL.wSet, VL.wVar, VL.wFrz, VL.wC, VL.wOp, VL.wTest, VL.wNotT, VL.wAndT, VL.wOrT, VL.wAnd, VL.wOr, VL.wNot, VL.wIf, VL.wNil, VL.wCons, VL.wTup, VL.wLst, VL.wStay, VL.wNew, VL.wPar, VL.wAug, VL.wDrop, VL.wRet, VL.wRetN, VL.wRet0, VL.wIfS, VL.wBrk, VL.wCnt, VL.wGt, VL.wGs, VL.wCB, VL.wCBN, VL.wCall, VL.wCallN, VL.wCallIo, VL.wCallIoN, VL.wCallK, VL.wIsi, VL.wIsi2, VL.wApp, VL.wExt, VL.wIns, VL.wSetIt, VL.wNoPart, VL.wPart, VL.wSl, VL.wSlN, VL.wChain, VL.wNeg, VL.wDnew, VL.wDput, VL.wDget, VL.wDin, VL.wDnin, VL.wIndex, VL.wRev, VL.wParNE, VL.wParEN, VL.wPar3, VL.wYes, VL.wSeqOf, VL.wRng1, VL.wRng2, VL.oI, VL.oI0, VL.oLt, VL.oLe, VL.oGt, VL.oGe, VL.oSub, VL.oMul, VL.oFdiv, VL.oMod, VL.oPow, VL.oShl', VL.oAbs, VL.oMax2, VL.oMin2, VL.oGcd, VL.atI_0, VL.atI_1, VL.atI_2, VL.ixN_20, VL.ixN_21, and_assoc, VL.shp_int, VL.shp_bool, VL.shp_none, VL.eqv_int, VL.eqv_bool, VL.isiD, VL.tyD, String.reduceBEq, Bool.not_true, Bool.not_false, Bool.and_true, Bool.and_false, Bool.true_and, Bool.false_and, Bool.or_true, Bool.or_false, Bool.true_or, Bool.false_or, decide_true, decide_false, Bool.not_eq_true', Bool.not_eq_eq_eq_not, decide_eq_true_eq, decide_eq_false_iff_not, VL.oInt1, VL.oInt2, VL.oLen, VL.oToInt, VL.oAdd, VL.oEq, VL.oNe, VL.oIsN, VL.oIn, VL.itemD, VL.isN, VL.der, VL.ders, VL.dats, VL.ioA, VL.endsV, VL.retE, VL.keepC, Option.map, List.range_succ, List.range_zero, List.map_cons, List.map_nil, List.map_append, List.nil_append, List.cons_append, List.append_nil, List.replicate_zero, List.replicate_succ, List.length_cons, List.length_nil, Nat.sub_self, List.getElem?_cons_zero, List.getElem?_cons_succ, List.set_cons_zero, List.set_cons_succ, Option.some.injEq, exists_eq_left', exists_eq_left, exists_eq_right, exists_and_left, exists_and_right, and_true, true_and, CV.d.injEq, CV.loc.injEq, Cell.lst.injEq, Cell.dat.injEq, Cell.dic.injEq, PyData.int.injEq, PyData.bool.injEq, PyData.list.injEq, PyData.tuple.injEq, PyData.str.injEq, reduceCtorEq, false_and, and_false, exists_false, false_or, or_false, if_true, if_false, reduceIte, Bool.false_eq_true, Nat.reduceAdd, Nat.reduceSub, Nat.succ_sub_succ, Nat.zero_add, VL.gP, List.filterMap_cons, List.filterMap_nil, List.cons.injEq, VL.wDisp0, VL.wDisp, VL.wPairs, VL.oLcm, VL.wPop, VL.wRevM, VL.wClearM, VL.wTupRg, VL.wListRg, VL.wR1, VL.wR2, VL.wRevN, VL.oRepT, VL.oRepL, tyD]
    exact h
  | lst _ ds hl hd =>
    simp only [VL.wSeq, VL.wNext, VL.wNever, VL.wAsg, VL.wSet, VL.wVar, VL.wFrz, VL.wC, VL.wOp, VL.wTest, VL.wNotT, VL.wAndT, VL.wOrT, VL.wAnd, VL.wOr, VL.wNot, VL.wIf, VL.wNil, VL.wCons, VL.wTup, VL.wLst, VL.wStay, VL.wNew, VL.wPar, VL.wAug, VL.wDrop, VL.wRet, VL.wRetN, VL.wRet0, VL.wIfS, VL.wBrk, VL.wCnt, VL.wGt, VL.wGs, VL.wCB, VL.wCBN, VL.wCall, VL.wCallN, VL.wCallIo, VL.wCallIoN, VL.wCallK, VL.wIsi, VL.wIsi2, VL.wApp, VL.wExt, VL.wIns, VL.wSetIt, VL.wNoPart, VL.wPart, VL.wSl, VL.wSlN, VL.wChain, VL.wNeg, VL.wDnew, VL.wDput, VL.wDget, VL.wDin, VL.wDnin, VL.wIndex, VL.wRev, VL.wParNE, VL.wParEN, VL.wPar3, VL.wYes, VL.wSeqOf, VL.wRng1, VL.wRng2, VL.oI, VL.oI0, VL.oLt, VL.oLe, VL.oGt, VL.oGe, VL.oSub, VL.oMul, VL.oFdiv, VL.oMod, VL.oPow, VL.oShl', VL.oAbs, VL.oMax2, VL.oMin2, VL.oGcd, VL.atI_0, VL.atI_1, VL.atI_2, VL.ixN_20, VL.ixN_21, and_assoc, VL.shp_int, VL.shp_bool, VL.shp_none, VL.eqv_int, VL.eqv_bool, VL.isiD, VL.tyD, String.reduceBEq, Bool.not_true, Bool.not_false, Bool.and_true, Bool.and_false, Bool.true_and, Bool.false_and, Bool.or_true, Bool.or_false, Bool.true_or, Bool.false_or, decide_true, decide_false, Bool.not_eq_true', Bool.not_eq_eq_eq_not, decide_eq_true_eq, decide_eq_false_iff_not, VL.oInt1, VL.oInt2, VL.oLen, VL.oToInt, VL.oAdd, VL.oEq, VL.oNe, VL.oIsN, VL.oIn, VL.itemD, VL.isN, VL.der, VL.ders, VL.dats, VL.ioA, VL.endsV, VL.retE, VL.keepC, Option.map, List.range_succ, List.range_zero, List.map_cons, List.map_nil, List.map_append, List.nil_append, List.cons_append, List.append_nil, List.replicate_zero, List.replicate_succ, List.length_cons, List.length_nil, Nat.sub_self, List.getElem?_cons_zero, List.getElem?_cons_succ, List.set_cons_zero, List.set_cons_succ, Option.some.injEq, exists_eq_left', exists_eq_left, exists_eq_right, exists_and_left, exists_and_right, and_true, true_and, CV.d.injEq, CV.loc.injEq, Cell.lst.injEq, Cell.dat.injEq, Cell.dic.injEq, PyData.int.injEq, PyData.bool.injEq, PyData.list.injEq, PyData.tuple.injEq, PyData.str.injEq, reduceCtorEq, false_and, and_false, exists_false, false_or, or_false, if_true, if_false, reduceIte, Bool.false_eq_true, Nat.reduceAdd, Nat.reduceSub, Nat.succ_sub_succ, Nat.zero_add, VL.gP, List.filterMap_cons, List.filterMap_nil, List.cons.injEq, VL.wDisp0, VL.wDisp, VL.wPairs, VL.oLcm, VL.wPop, VL.wRevM, VL.wClearM, VL.wTupRg, VL.wListRg, VL.wR1, VL.wR2, VL.wRevN, VL.oRepT, VL.oRepL, tyD]
    unfold wFor
    simp only [VL.wSeq, VL.wNext, VL.wNever, VL.wAsg, VL.wSet, VL.wVar, VL.wFrz, VL.wC, VL.wOp, VL.wTest, VL.wNotT, VL.wAndT, VL.wOrT, VL.wAnd, VL.wOr, VL.wNot, VL.wIf, VL.wNil, VL.wCons, VL.wTup, VL.wLst, VL.wStay, VL.wNew, VL.wPar, VL.wAug, VL.wDrop, VL.wRet, VL.wRetN, VL.wRet0, VL.wIfS, VL.wBrk, VL.wCnt, VL.wGt, VL.wGs, VL.wCB, VL.wCBN, VL.wCall, VL.wCallN, VL.wCallIo, VL.wCallIoN, VL.wCallK, VL.wIsi, VL.wIsi2, VL.wApp, VL.wExt, VL.wIns, VL.wSetIt, VL.wNoPart, VL.wPart, VL.wSl, VL.wSlN, VL.wChain, VL.wNeg, VL.wDnew, VL.wDput, VL.wDget, VL.wDin, VL.wDnin, VL.wIndex, VL.wRev, VL.wParNE, VL.wParEN, VL.wPar3, VL.wYes, VL.wSeqOf, VL.wRng1, VL.wRng2, VL.oI, VL.oI0, VL.oLt, VL.oLe, VL.oGt, VL.oGe, VL.oSub, VL.oMul, VL.oFdiv, VL.oMod, VL.oPow, VL.oShl', VL.oAbs, VL.oMax2, VL.oMin2, VL.oGcd, VL.atI_0, VL.atI_1, VL.atI_2, VL.ixN_20, VL.ixN_21, and_assoc, VL.shp_int, VL.shp_bool, VL.shp_none, VL.eqv_int, VL.eqv_bool, VL.isiD, VL.tyD, String.reduceBEq, Bool.not_true, Bool.not_false, Bool.and_true, Bool.and_false, Bool.true_and, Bool.false_and, Bool.or_true, Bool.or_false, Bool.true_or, Bool.false_or, decide_true, decide_false, Bool.not_eq_true', Bool.not_eq_eq_eq_not, decide_eq_true_eq, decide_eq_false_iff_not, VL.oInt1, VL.oInt2, VL.oLen, VL.oToInt, VL.oAdd, VL.oEq, VL.oNe, VL.oIsN, VL.oIn, VL.itemD, VL.isN, VL.der, VL.ders, VL.dats, VL.ioA, VL.endsV, VL.retE, VL.keepC, Option.map, List.range_succ, List.range_zero, List.map_cons, List.map_nil, List.map_append, List.nil_append, List.cons_append, List.append_nil, List.replicate_zero, List.replicate_succ, List.length_cons, List.length_nil, Nat.sub_self, List.getElem?_cons_zero, List.getElem?_cons_succ, List.set_cons_zero, List.set_cons_succ, Option.some.injEq, exists_eq_left', exists_eq_left, exists_eq_right, exists_and_left, exists_and_right, and_true, true_and, CV.d.injEq, CV.loc.injEq, Cell.lst.injEq, Cell.dat.injEq, Cell.dic.injEq, PyData.int.injEq, PyData.bool.injEq, PyData.list.injEq, PyData.tuple.injEq, PyData.str.injEq, reduceCtorEq, false_and, and_false, exists_false, false_or, or_false, if_true, if_false, reduceIte, Bool.false_eq_true, Nat.reduceAdd, Nat.reduceSub, Nat.succ_sub_succ, Nat.zero_add, VL.gP, List.filterMap_cons, List.filterMap_nil, List.cons.injEq, VL.wDisp0, VL.wDisp, VL.wPairs, VL.oLcm, VL.wPop, VL.wRevM, VL.wClearM, VL.wTupRg, VL.wListRg, VL.wR1, VL.wR2, VL.wRevN, VL.oRepT, VL.oRepL]
    refine ⟨⟨by omega, by omega⟩, fun i ρ => ∃ c, ρ = [.dat (.list ds), .dat (.list ds), .dat (.bool true), c], ⟨_, rfl⟩, ?_, ?_⟩
    · rintro i ρ d ⟨c, rfl⟩ hx
      obtain ⟨rfl, hi⟩ := rng_at hx
      simp only [VL.wSeq, VL.wNext, VL.wNever, VL.wAsg, VL.wSet, VL.wVar, VL.wFrz, VL.wC, VL.wOp, VL.wTest, VL.wNotT, VL.wAndT, VL.wOrT, VL.wAnd, VL.wOr, VL.wNot, VL.wIf, VL.wNil, VL.wCons, VL.wTup, VL.wLst, VL.wStay, VL.wNew, VL.wPar, VL.wAug, VL.wDrop, VL.wRet, VL.wRetN, VL.wRet0, VL.wIfS, VL.wBrk, VL.wCnt, VL.wGt, VL.wGs, VL.wCB, VL.wCBN, VL.wCall, VL.wCallN, VL.wCallIo, VL.wCallIoN, VL.wCallK, VL.wIsi, VL.wIsi2, VL.wApp, VL.wExt, VL.wIns, VL.wSetIt, VL.wNoPart, VL.wPart, VL.wSl, VL.wSlN, VL.wChain, VL.wNeg, VL.wDnew, VL.wDput, VL.wDget, VL.wDin, VL.wDnin, VL.wIndex, VL.wRev, VL.wParNE, VL.wParEN, VL.wPar3, VL.wYes, VL.wSeqOf, VL.wRng1, VL.wRng2, VL.oI, VL.oI0, VL.oLt, VL.oLe, VL.oGt, VL.oGe, VL.oSub, VL.oMul, VL.oFdiv, VL.oMod, VL.oPow, VL.oShl', VL.oAbs, VL.oMax2, VL.oMin2, VL.oGcd, VL.atI_0, VL.atI_1, VL.atI_2, VL.ixN_20, VL.ixN_21, and_assoc, VL.shp_int, VL.shp_bool, VL.shp_none, VL.eqv_int, VL.eqv_bool, VL.isiD, VL.tyD, String.reduceBEq, Bool.not_true, Bool.not_false, Bool.and_true, Bool.and_false, Bool.true_and, Bool.false_and, Bool.or_true, Bool.or_false, Bool.true_or, Bool.false_or, decide_true, decide_false, Bool.not_eq_true', Bool.not_eq_eq_eq_not, decide_eq_true_eq, decide_eq_false_iff_not, VL.oInt1, VL.oInt2, VL.oLen, VL.oToInt, VL.oAdd, VL.oEq, VL.oNe, VL.oIsN, VL.oIn, VL.itemD, VL.isN, VL.der, VL.ders, VL.dats, VL.ioA, VL.endsV, VL.retE, VL.keepC, Option.map, List.range_succ, List.range_zero, List.map_cons, List.map_nil, List.map_append, List.nil_append, List.cons_append, List.append_nil, List.replicate_zero, List.replicate_succ, List.length_cons, List.length_nil, Nat.sub_self, List.getElem?_cons_zero, List.getElem?_cons_succ, List.set_cons_zero, List.set_cons_succ, Option.some.injEq, exists_eq_left', exists_eq_left, exists_eq_right, exists_and_left, exists_and_right, and_true, true_and, CV.d.injEq, CV.loc.injEq, Cell.lst.injEq, Cell.dat.injEq, Cell.dic.injEq, PyData.int.injEq, PyData.bool.injEq, PyData.list.injEq, PyData.tuple.injEq, PyData.str.injEq, reduceCtorEq, false_and, and_false, exists_false, false_or, or_false, if_true, if_false, reduceIte, Bool.false_eq_true, Nat.reduceAdd, Nat.reduceSub, Nat.succ_sub_succ, Nat.zero_add, VL.gP, List.filterMap_cons, List.filterMap_nil, List.cons.injEq, VL.wDisp0, VL.wDisp, VL.wPairs, VL.oLcm, VL.wPop, VL.wRevM, VL.wClearM, VL.wTupRg, VL.wListRg, VL.wR1, VL.wR2, VL.wRevN, VL.oRepT, VL.oRepL, S__law_same, atI_at hi]
      exact ⟨hd _ (List.getElem_mem hi), _, rfl⟩
    · rintro ρ ⟨c, rfl⟩
      simp only [VL.wSeq, VL.wNext, VL.wNever, VL.wAsg, VL.wSet, VL.wVar, VL.wFrz, VL.wC, VL.wOp, VL.wTest, VL.wNotT, VL.wAndT, VL.wOrT, VL.wAnd, VL.wOr, VL.wNot, VL.wIf, VL.wNil, VL.wCons, VL.wTup, VL.wLst, VL.wStay, VL.wNew, VL.wPar, VL.wAug, VL.wDrop, VL.wRet, VL.wRetN, VL.wRet0, VL.wIfS, VL.wBrk, VL.wCnt, VL.wGt, VL.wGs, VL.wCB, VL.wCBN, VL.wCall, VL.wCallN, VL.wCallIo, VL.wCallIoN, VL.wCallK, VL.wIsi, VL.wIsi2, VL.wApp, VL.wExt, VL.wIns, VL.wSetIt, VL.wNoPart, VL.wPart, VL.wSl, VL.wSlN, VL.wChain, VL.wNeg, VL.wDnew, VL.wDput, VL.wDget, VL.wDin, VL.wDnin, VL.wIndex, VL.wRev, VL.wParNE, VL.wParEN, VL.wPar3, VL.wYes, VL.wSeqOf, VL.wRng1, VL.wRng2, VL.oI, VL.oI0, VL.oLt, VL.oLe, VL.oGt, VL.oGe, VL.oSub, VL.oMul, VL.oFdiv, VL.oMod, VL.oPow, VL.oShl', VL.oAbs, VL.oMax2, VL.oMin2, VL.oGcd, VL.atI_0, VL.atI_1, VL.atI_2, VL.ixN_20, VL.ixN_21, and_assoc, VL.shp_int, VL.shp_bool, VL.shp_none, VL.eqv_int, VL.eqv_bool, VL.isiD, VL.tyD, String.reduceBEq, Bool.not_true, Bool.not_false, Bool.and_true, Bool.and_false, Bool.true_and, Bool.false_and, Bool.or_true, Bool.or_false, Bool.true_or, Bool.false_or, decide_true, decide_false, Bool.not_eq_true', Bool.not_eq_eq_eq_not, decide_eq_true_eq, decide_eq_false_iff_not, VL.oInt1, VL.oInt2, VL.oLen, VL.oToInt, VL.oAdd, VL.oEq, VL.oNe, VL.oIsN, VL.oIn, VL.itemD, VL.isN, VL.der, VL.ders, VL.dats, VL.ioA, VL.endsV, VL.retE, VL.keepC, Option.map, List.range_succ, List.range_zero, List.map_cons, List.map_nil, List.map_append, List.nil_append, List.cons_append, List.append_nil, List.replicate_zero, List.replicate_succ, List.length_cons, List.length_nil, Nat.sub_self, List.getElem?_cons_zero, List.getElem?_cons_succ, List.set_cons_zero, List.set_cons_succ, Option.some.injEq, exists_eq_left', exists_eq_left, exists_eq_right, exists_and_left, exists_and_right, and_true, true_and, CV.d.injEq, CV.loc.injEq, Cell.lst.injEq, Cell.dat.injEq, Cell.dic.injEq, PyData.int.injEq, PyData.bool.injEq, PyData.list.injEq, PyData.tuple.injEq, PyData.str.injEq, reduceCtorEq, false_and, and_false, exists_false, false_or, or_false, if_true, if_false, reduceIte, Bool.false_eq_true, Nat.reduceAdd, Nat.reduceSub, Nat.succ_sub_succ, Nat.zero_add, VL.gP, List.filterMap_cons, List.filterMap_nil, List.cons.injEq, VL.wDisp0, VL.wDisp, VL.wPairs, VL.oLcm, VL.wPop, VL.wRevM, VL.wClearM, VL.wTupRg, VL.wListRg, VL.wR1, VL.wR2, VL.wRevN, VL.oRepT, VL.oRepL]
      exact h
  | tup _ ds hl hd =>
    simp only [VL.wSeq, VL.wNext, VL.wNever, VL.wAsg, VL.wSet, VL.wVar, VL.wFrz, VL.wC, VL.wOp, VL.wTest, VL.wNotT, VL.wAndT, VL.wOrT, VL.wAnd, VL.wOr, VL.wNot, VL.wIf, VL.wNil, VL.wCons, VL.wTup, VL.wLst, VL.wStay, VL.wNew, VL.wPar, VL.wAug, VL.wDrop, VL.wRet, VL.wRetN, VL.wRet0, VL.wIfS, VL.wBrk, VL.wCnt, VL.wGt, VL.wGs, VL.wCB, VL.wCBN, VL.wCall, VL.wCallN, VL.wCallIo, VL.wCallIoN, VL.wCallK, VL.wIsi, VL.wIsi2, VL.wApp, VL.wExt, VL.wIns, VL.wSetIt, VL.wNoPart, VL.wPart, VL.wSl, VL.wSlN, VL.wChain, VL.wNeg, VL.wDnew, VL.wDput, VL.wDget, VL.wDin, VL.wDnin, VL.wIndex, VL.wRev, VL.wParNE, VL.wParEN, VL.wPar3, VL.wYes, VL.wSeqOf, VL.wRng1, VL.wRng2, VL.oI, VL.oI0, VL.oLt, VL.oLe, VL.oGt, VL.oGe, VL.oSub, VL.oMul, VL.oFdiv, VL.oMod, VL.oPow, VL.oShl', VL.oAbs, VL.oMax2, VL.oMin2, VL.oGcd, VL.atI_0, VL.atI_1, VL.atI_2, VL.ixN_20, VL.ixN_21, and_assoc, VL.shp_int, VL.shp_bool, VL.shp_none, VL.eqv_int, VL.eqv_bool, VL.isiD, VL.tyD, String.reduceBEq, Bool.not_true, Bool.not_false, Bool.and_true, Bool.and_false, Bool.true_and, Bool.false_and, Bool.or_true, Bool.or_false, Bool.true_or, Bool.false_or, decide_true, decide_false, Bool.not_eq_true', Bool.not_eq_eq_eq_not, decide_eq_true_eq, decide_eq_false_iff_not, VL.oInt1, VL.oInt2, VL.oLen, VL.oToInt, VL.oAdd, VL.oEq, VL.oNe, VL.oIsN, VL.oIn, VL.itemD, VL.isN, VL.der, VL.ders, VL.dats, VL.ioA, VL.endsV, VL.retE, VL.keepC, Option.map, List.range_succ, List.range_zero, List.map_cons, List.map_nil, List.map_append, List.nil_append, List.cons_append, List.append_nil, List.replicate_zero, List.replicate_succ, List.length_cons, List.length_nil, Nat.sub_self, List.getElem?_cons_zero, List.getElem?_cons_succ, List.set_cons_zero, List.set_cons_succ, Option.some.injEq, exists_eq_left', exists_eq_left, exists_eq_right, exists_and_left, exists_and_right, and_true, true_and, CV.d.injEq, CV.loc.injEq, Cell.lst.injEq, Cell.dat.injEq, Cell.dic.injEq, PyData.int.injEq, PyData.bool.injEq, PyData.list.injEq, PyData.tuple.injEq, PyData.str.injEq, reduceCtorEq, false_and, and_false, exists_false, false_or, or_false, if_true, if_false, reduceIte, Bool.false_eq_true, Nat.reduceAdd, Nat.reduceSub, Nat.succ_sub_succ, Nat.zero_add, VL.gP, List.filterMap_cons, List.filterMap_nil, List.cons.injEq, VL.wDisp0, VL.wDisp, VL.wPairs, VL.oLcm, VL.wPop, VL.wRevM, VL.wClearM, VL.wTupRg, VL.wListRg, VL.wR1, VL.wR2, VL.wRevN, VL.oRepT, VL.oRepL, tyD]
    unfold wFor
    simp only [VL.wSeq, VL.wNext, VL.wNever, VL.wAsg, VL.wSet, VL.wVar, VL.wFrz, VL.wC, VL.wOp, VL.wTest, VL.wNotT, VL.wAndT, VL.wOrT, VL.wAnd, VL.wOr, VL.wNot, VL.wIf, VL.wNil, VL.wCons, VL.wTup, VL.wLst, VL.wStay, VL.wNew, VL.wPar, VL.wAug, VL.wDrop, VL.wRet, VL.wRetN, VL.wRet0, VL.wIfS, VL.wBrk, VL.wCnt, VL.wGt, VL.wGs, VL.wCB, VL.wCBN, VL.wCall, VL.wCallN, VL.wCallIo, VL.wCallIoN, VL.wCallK, VL.wIsi, VL.wIsi2, VL.wApp, VL.wExt, VL.wIns, VL.wSetIt, VL.wNoPart, VL.wPart, VL.wSl, VL.wSlN, VL.wChain, VL.wNeg, VL.wDnew, VL.wDput, VL.wDget, VL.wDin, VL.wDnin, VL.wIndex, VL.wRev, VL.wParNE, VL.wParEN, VL.wPar3, VL.wYes, VL.wSeqOf, VL.wRng1, VL.wRng2, VL.oI, VL.oI0, VL.oLt, VL.oLe, VL.oGt, VL.oGe, VL.oSub, VL.oMul, VL.oFdiv, VL.oMod, VL.oPow, VL.oShl', VL.oAbs, VL.oMax2, VL.oMin2, VL.oGcd, VL.atI_0, VL.atI_1, VL.atI_2, VL.ixN_20, VL.ixN_21, and_assoc, VL.shp_int, VL.shp_bool, VL.shp_none, VL.eqv_int, VL.eqv_bool, VL.isiD, VL.tyD, String.reduceBEq, Bool.not_true, Bool.not_false, Bool.and_true, Bool.and_false, Bool.true_and, Bool.false_and, Bool.or_true, Bool.or_false, Bool.true_or, Bool.false_or, decide_true, decide_false, Bool.not_eq_true', Bool.not_eq_eq_eq_not, decide_eq_true_eq, decide_eq_false_iff_not, VL.oInt1, VL.oInt2, VL.oLen, VL.oToInt, VL.oAdd, VL.oEq, VL.oNe, VL.oIsN, VL.oIn, VL.itemD, VL.isN, VL.der, VL.ders, VL.dats, VL.ioA, VL.endsV, VL.retE, VL.keepC, Option.map, List.range_succ, List.range_zero, List.map_cons, List.map_nil, List.map_append, List.nil_append, List.cons_append, List.append_nil, List.replicate_zero, List.replicate_succ, List.length_cons, List.length_nil, Nat.sub_self, List.getElem?_cons_zero, List.getElem?_cons_succ, List.set_cons_zero, List.set_cons_succ, Option.some.injEq, exists_eq_left', exists_eq_left, exists_eq_right, exists_and_left, exists_and_right, and_true, true_and, CV.d.injEq, CV.loc.injEq, Cell.lst.injEq, Cell.dat.injEq, Cell.dic.injEq, PyData.int.injEq, PyData.bool.injEq, PyData.list.injEq, PyData.tuple.injEq, PyData.str.injEq, reduceCtorEq, false_and, and_false, exists_false, false_or, or_false, if_true, if_false, reduceIte, Bool.false_eq_true, Nat.reduceAdd, Nat.reduceSub, Nat.succ_sub_succ, Nat.zero_add, VL.gP, List.filterMap_cons, List.filterMap_nil, List.cons.injEq, VL.wDisp0, VL.wDisp, VL.wPairs, VL.oLcm, VL.wPop, VL.wRevM, VL.wClearM, VL.wTupRg, VL.wListRg, VL.wR1, VL.wR2, VL.wRevN, VL.oRepT, VL.oRepL]
    refine ⟨⟨by omega, by omega⟩, fun i ρ => ∃ c, ρ = [.dat (.tuple ds), .dat (.tuple ds), .dat (.bool true), c], ⟨_, rfl⟩, ?_, ?_⟩
    · rintro i ρ d ⟨c, rfl⟩ hx
      obtain ⟨rfl, hi⟩ := rng_at hx
      simp only [VL.wSeq, VL.wNext, VL.wNever, VL.wAsg, VL.wSet, VL.wVar, VL.wFrz, VL.wC, VL.wOp, VL.wTest, VL.wNotT, VL.wAndT, VL.wOrT, VL.wAnd, VL.wOr, VL.wNot, VL.wIf, VL.wNil, VL.wCons, VL.wTup, VL.wLst, VL.wStay, VL.wNew, VL.wPar, VL.wAug, VL.wDrop, VL.wRet, VL.wRetN, VL.wRet0, VL.wIfS, VL.wBrk, VL.wCnt, VL.wGt, VL.wGs, VL.wCB, VL.wCBN, VL.wCall, VL.wCallN, VL.wCallIo, VL.wCallIoN, VL.wCallK, VL.wIsi, VL.wIsi2, VL.wApp, VL.wExt, VL.wIns, VL.wSetIt, VL.wNoPart, VL.wPart, VL.wSl, VL.wSlN, VL.wChain, VL.wNeg, VL.wDnew, VL.wDput, VL.wDget, VL.wDin, VL.wDnin, VL.wIndex, VL.wRev, VL.wParNE, VL.wParEN, VL.wPar3, VL.wYes, VL.wSeqOf, VL.wRng1, VL.wRng2, VL.oI, VL.oI0, VL.oLt, VL.oLe, VL.oGt, VL.oGe, VL.oSub, VL.oMul, VL.oFdiv, VL.oMod, VL.oPow, VL.oShl', VL.oAbs, VL.oMax2, VL.oMin2, VL.oGcd, VL.atI_0, VL.atI_1, VL.atI_2, VL.ixN_20, VL.ixN_21, and_assoc, VL.shp_int, VL.shp_bool, VL.shp_none, VL.eqv_int, VL.eqv_bool, VL.isiD, VL.tyD, String.reduceBEq, Bool.not_true, Bool.not_false, Bool.and_true, Bool.and_false, Bool.true_and, Bool.false_and, Bool.or_true, Bool.or_false, Bool.true_or, Bool.false_or, decide_true, decide_false, Bool.not_eq_true', Bool.not_eq_eq_eq_not, decide_eq_true_eq, decide_eq_false_iff_not, VL.oInt1, VL.oInt2, VL.oLen, VL.oToInt, VL.oAdd, VL.oEq, VL.oNe, VL.oIsN, VL.oIn, VL.itemD, VL.isN, VL.der, VL.ders, VL.dats, VL.ioA, VL.endsV, VL.retE, VL.keepC, Option.map, List.range_succ, List.range_zero, List.map_cons, List.map_nil, List.map_append, List.nil_append, List.cons_append, List.append_nil, List.replicate_zero, List.replicate_succ, List.length_cons, List.length_nil, Nat.sub_self, List.getElem?_cons_zero, List.getElem?_cons_succ, List.set_cons_zero, List.set_cons_succ, Option.some.injEq, exists_eq_left', exists_eq_left, exists_eq_right, exists_and_left, exists_and_right, and_true, true_and, CV.d.injEq, CV.loc.injEq, Cell.lst.injEq, Cell.dat.injEq, Cell.dic.injEq, PyData.int.injEq, PyData.bool.injEq, PyData.list.injEq, PyData.tuple.injEq, PyData.str.injEq, reduceCtorEq, false_and, and_false, exists_false, false_or, or_false, if_true, if_false, reduceIte, Bool.false_eq_true, Nat.reduceAdd, Nat.reduceSub, Nat.succ_sub_succ, Nat.zero_add, VL.gP, List.filterMap_cons, List.filterMap_nil, List.cons.injEq, VL.wDisp0, VL.wDisp, VL.wPairs, VL.oLcm, VL.wPop, VL.wRevM, VL.wClearM, VL.wTupRg, VL.wListRg, VL.wR1, VL.wR2, VL.wRevN, VL.oRepT, VL.oRepL, S__law_same, atI_at hi]
      exact ⟨hd _ (List.getElem_mem hi), _, rfl⟩
    · rintro ρ ⟨c, rfl⟩
      simp only [VL.wSeq, VL.wNext, VL.wNever, VL.wAsg, VL.wSet, VL.wVar, VL.wFrz, VL.wC, VL.wOp, VL.wTest, VL.wNotT, VL.wAndT, VL.wOrT, VL.wAnd, VL.wOr, VL.wNot, VL.wIf, VL.wNil, VL.wCons, VL.wTup, VL.wLst, VL.wStay, VL.wNew, VL.wPar, VL.wAug, VL.wDrop, VL.wRet, VL.wRetN, VL.wRet0, VL.wIfS, VL.wBrk, VL.wCnt, VL.wGt, VL.wGs, VL.wCB, VL.wCBN, VL.wCall, VL.wCallN, VL.wCallIo, VL.wCallIoN, VL.wCallK, VL.wIsi, VL.wIsi2, VL.wApp, VL.wExt, VL.wIns, VL.wSetIt, VL.wNoPart, VL.wPart, VL.wSl, VL.wSlN, VL.wChain, VL.wNeg, VL.wDnew, VL.wDput, VL.wDget, VL.wDin, VL.wDnin, VL.wIndex, VL.wRev, VL.wParNE, VL.wParEN, VL.wPar3, VL.wYes, VL.wSeqOf, VL.wRng1, VL.wRng2, VL.oI, VL.oI0, VL.oLt, VL.oLe, VL.oGt, VL.oGe, VL.oSub, VL.oMul, VL.oFdiv, VL.oMod, VL.oPow, VL.oShl', VL.oAbs, VL.oMax2, VL.oMin2, VL.oGcd, VL.atI_0, VL.atI_1, VL.atI_2, VL.ixN_20, VL.ixN_21, and_assoc, VL.shp_int, VL.shp_bool, VL.shp_none, VL.eqv_int, VL.eqv_bool, VL.isiD, VL.tyD, String.reduceBEq, Bool.not_true, Bool.not_false, Bool.and_true, Bool.and_false, Bool.true_and, Bool.false_and, Bool.or_true, Bool.or_false, Bool.true_or, Bool.false_or, decide_true, decide_false, Bool.not_eq_true', Bool.not_eq_eq_eq_not, decide_eq_true_eq, decide_eq_false_iff_not, VL.oInt1, VL.oInt2, VL.oLen, VL.oToInt, VL.oAdd, VL.oEq, VL.oNe, VL.oIsN, VL.oIn, VL.itemD, VL.isN, VL.der, VL.ders, VL.dats, VL.ioA, VL.endsV, VL.retE, VL.keepC, Option.map, List.range_succ, List.range_zero, List.map_cons, List.map_nil, List.map_append, List.nil_append, List.cons_append, List.append_nil, List.replicate_zero, List.replicate_succ, List.length_cons, List.length_nil, Nat.sub_self, List.getElem?_cons_zero, List.getElem?_cons_succ, List.set_cons_zero, List.set_cons_succ, Option.some.injEq, exists_eq_left', exists_eq_left, exists_eq_right, exists_and_left, exists_and_right, and_true, true_and, CV.d.injEq, CV.loc.injEq, Cell.lst.injEq, Cell.dat.injEq, Cell.dic.injEq, PyData.int.injEq, PyData.bool.injEq, PyData.list.injEq, PyData.tuple.injEq, PyData.str.injEq, reduceCtorEq, false_and, and_false, exists_false, false_or, or_false, if_true, if_false, reduceIte, Bool.false_eq_true, Nat.reduceAdd, Nat.reduceSub, Nat.succ_sub_succ, Nat.zero_add, VL.gP, List.filterMap_cons, List.filterMap_nil, List.cons.injEq, VL.wDisp0, VL.wDisp, VL.wPairs, VL.oLcm, VL.wPop, VL.wRevM, VL.wClearM, VL.wTupRg, VL.wListRg, VL.wR1, VL.wR2, VL.wRevN, VL.oRepT, VL.oRepL]
      exact h
end K35
end
section
set_option autoImplicit false
set_option maxRecDepth 100000
set_option maxHeartbeats 4000000
set_option exponentiation.threshold 7000
namespace K35
open PySem PySem.Spec PyProof.Rows L2 VL
theorem pw_bd {b : Int} (b0 : 0 ≤ b) (b1 : b ≤ 60) : ∀ i : Nat, 0 ≤ b ^ i ∧ b ^ i ≤ 60 ^ i
  | 0 => by rw [Int.pow_zero, Int.pow_zero]; exact ⟨by decide, by decide⟩
  | i + 1 => by
    obtain ⟨h0, h1⟩ := pw_bd b0 b1 i
    rw [Int.pow_succ, Int.pow_succ]
    exact ⟨Int.mul_nonneg h0 b0, Int.mul_le_mul h1 b1 b0 (by exact Int.le_trans h0 h1)⟩
theorem pw_bd12 {b : Int} (b0 : 0 ≤ b) (b1 : b ≤ 60) {i : Nat} (hi : i ≤ 12) : 0 ≤ b ^ i ∧ b ^ i < 2 ^ 80 := by
  obtain ⟨h0, h1⟩ := pw_bd b0 b1 i
  refine ⟨h0, Int.lt_of_le_of_lt h1 ?_⟩
  have : ∀ i : Fin 13, (60 : Int) ^ (i : Nat) < 2 ^ 80 := by decide
  exact this ⟨i, by omega⟩
theorem cokn {x y : Int} (x0 : 0 ≤ x) (x1 : x < 2 ^ 400) (y0 : 0 ≤ y) (y1 : y < 2 ^ 400) : COk x y :=
  cok_bd (bd_big (Nat.lt_of_lt_of_le (natAbs_lt x0 x1) (Nat.pow_le_pow_right (by decide) (by decide)))) (bd_big (Nat.lt_of_lt_of_le (natAbs_lt y0 y1) (Nat.pow_le_pow_right (by decide) (by decide))))
theorem up400 {x : Int} (h : x < 2 ^ 80) : x < 2 ^ 400 := Int.lt_trans h (by decide)
theorem h_power (ρ : En) (Q : RV → En → Prop) (h : S_power ρ Q) : t_power (endsV 2 Q) (ρ ++ List.replicate (4 - 2) .un) := by
  obtain ⟨b, e, rfl, b0, b1, he, h⟩ := h
  unfold t_power
  refine seq_gen fun k hk => ?_
  simp only [VL.wSeq, VL.wNext, VL.wNever, VL.wAsg, VL.wSet, VL.wVar, VL.wFrz, VL.wC, VL.wOp, VL.wTest, VL.wNotT, VL.wAndT, VL.wOrT, VL.wAnd, VL.wOr, VL.wNot, VL.wIf, VL.wNil, VL.wCons, VL.wTup, VL.wLst, VL.wStay, VL.wNew, VL.wPar, VL.wAug, VL.wDrop, VL.wRet, VL.wRetN, VL.wRet0, VL.wIfS, VL.wBrk, VL.wCnt, VL.wGt, VL.wGs, VL.wCB, VL.wCBN, VL.wCall, VL.wCallN, VL.wCallIo, VL.wCallIoN, VL.wCallK, VL.wIsi, VL.wIsi2, VL.wApp, VL.wExt, VL.wIns, VL.wSetIt, VL.wNoPart, VL.wPart, VL.wSl, VL.wSlN, VL.wChain, VL.wNeg, VL.wDnew, VL.wDput, VL.wDget, VL.wDin, VL.wDnin, VL.wIndex, VL.wRev, VL.wParNE, VL.wParEN, VL.wPar3, VL.wYes, VL.wSeqOf, VL.wRng1, VL.wRng2, VL.oI, VL.oI0, VL.oLt, VL.oLe, VL.oGt, VL.oGe, VL.oSub, VL.oMul, VL.oFdiv, VL.oMod, VL.oPow, VL.oShl', VL.oAbs, VL.oMax2, VL.oMin2, VL.oGcd, VL.atI_0, VL.atI_1, VL.atI_2, VL.ixN_20, VL.ixN_21, and_assoc, VL.shp_int, VL.shp_bool, VL.shp_none, VL.eqv_int, VL.eqv_bool, VL.isiD, VL.tyD, String.reduceBEq, Bool.not_true, Bool.not_false, Bool.and_true, Bool.and_false, Bool.true_and, Bool.false_and, Bool.or_true, Bool.or_false, Bool.true_or, Bool.false_or, decide_true, decide_false, Bool.not_eq_true', Bool.not_eq_eq_eq_not, decide_eq_true_eq, decide_eq_false_iff_not, VL.oInt1, VL.oInt2, VL.oLen, VL.oToInt, VL.oAdd, VL.oEq, VL.oNe, VL.oIsN, VL.oIn, VL.itemD, VL.isN, VL.der, VL.ders, VL.dats, VL.ioA, VL.endsV, VL.retE, VL.keepC, Option.map, List.range_succ, List.range_zero, List.map_cons, List.map_nil, List.map_append, List.nil_append, List.cons_append, List.append_nil, List.replicate_zero, List.replicate_succ, List.length_cons, List.length_nil, Nat.sub_self, List.getElem?_cons_zero, List.getElem?_cons_succ, List.set_cons_zero, List.set_cons_succ, Option.some.injEq, exists_eq_left', exists_eq_left, exists_eq_right, exists_and_left, exists_and_right, and_true, true_and, CV.d.injEq, CV.loc.injEq, Cell.lst.injEq, Cell.dat.injEq, Cell.dic.injEq, PyData.int.injEq, PyData.bool.injEq, PyData.list.injEq, PyData.tuple.injEq, PyData.str.injEq, reduceCtorEq, false_and, and_false, exists_false, false_or, or_false, if_true, if_false, reduceIte, Bool.false_eq_true, Nat.reduceAdd, Nat.reduceSub, Nat.succ_sub_succ, Nat.zero_add, VL.gP, List.filterMap_cons, List.filterMap_nil, List.cons.injEq, VL.wDisp0, VL.wDisp, VL.wPairs, VL.oLcm, VL.wPop, VL.wRevM, VL.wClearM, VL.wTupRg, VL.wListRg, VL.wR1, VL.wR2, VL.wRevN, VL.oRepT, VL.oRepL]
  rw [hk]
  clear hk k
  refine seq_gen fun k hk => ?_
  unfold wFor
  simp only [VL.wSeq, VL.wNext, VL.wNever, VL.wAsg, VL.wSet, VL.wVar, VL.wFrz, VL.wC, VL.wOp, VL.wTest, VL.wNotT, VL.wAndT, VL.wOrT, VL.wAnd, VL.wOr, VL.wNot, VL.wIf, VL.wNil, VL.wCons, VL.wTup, VL.wLst, VL.wStay, VL.wNew, VL.wPar, VL.wAug, VL.wDrop, VL.wRet, VL.wRetN, VL.wRet0, VL.wIfS, VL.wBrk, VL.wCnt, VL.wGt, VL.wGs, VL.wCB, VL.wCBN, VL.wCall, VL.wCallN, VL.wCallIo, VL.wCallIoN, VL.wCallK, VL.wIsi, VL.wIsi2, VL.wApp, VL.wExt, VL.wIns, VL.wSetIt, VL.wNoPart, VL.wPart, VL.wSl, VL.wSlN, VL.wChain, VL.wNeg, VL.wDnew, VL.wDput, VL.wDget, VL.wDin, VL.wDnin, VL.wIndex, VL.wRev, VL.wParNE, VL.wParEN, VL.wPar3, VL.wYes, VL.wSeqOf, VL.wRng1, VL.wRng2, VL.oI, VL.oI0, VL.oLt, VL.oLe, VL.oGt, VL.oGe, VL.oSub, VL.oMul, VL.oFdiv, VL.oMod, VL.oPow, VL.oShl', VL.oAbs, VL.oMax2, VL.oMin2, VL.oGcd, VL.atI_0, VL.atI_1, VL.atI_2, VL.ixN_20, VL.ixN_21, and_assoc, VL.shp_int, VL.shp_bool, VL.shp_none, VL.eqv_int, VL.eqv_bool, VL.isiD, VL.tyD, String.reduceBEq, Bool.not_true, Bool.not_false, Bool.and_true, Bool.and_false, Bool.true_and, Bool.false_and, Bool.or_true, Bool.or_false, Bool.true_or, Bool.false_or, decide_true, decide_false, Bool.not_eq_true', Bool.not_eq_eq_eq_not, decide_eq_true_eq, decide_eq_false_iff_not, VL.oInt1, VL.oInt2, VL.oLen, VL.oToInt, VL.oAdd, VL.oEq, VL.oNe, VL.oIsN, VL.oIn, VL.itemD, VL.isN, VL.der, VL.ders, VL.dats, VL.ioA, VL.endsV, VL.retE, VL.keepC, Option.map, List.range_succ, List.range_zero, List.map_cons, List.map_nil, List.map_append, List.nil_append, List.cons_append, List.append_nil, List.replicate_zero, List.replicate_succ, List.length_cons, List.length_nil, Nat.sub_self, List.getElem?_cons_zero, List.getElem?_cons_succ, List.set_cons_zero, List.set_cons_succ, Option.some.injEq, exists_eq_left', exists_eq_left, exists_eq_right, exists_and_left, exists_and_right, and_true, true_and, CV.d.injEq, CV.loc.injEq, Cell.lst.injEq, Cell.dat.injEq, Cell.dic.injEq, PyData.int.injEq, PyData.bool.injEq, PyData.list.injEq, PyData.tuple.injEq, PyData.str.injEq, reduceCtorEq, false_and, and_false, exists_false, false_or, or_false, if_true, if_false, reduceIte, Bool.false_eq_true, Nat.reduceAdd, Nat.reduceSub, Nat.succ_sub_succ, Nat.zero_add, VL.gP, List.filterMap_cons, List.filterMap_nil, List.cons.injEq, VL.wDisp0, VL.wDisp, VL.wPairs, VL.oLcm, VL.wPop, VL.wRevM, VL.wClearM, VL.wTupRg, VL.wListRg, VL.wR1, VL.wR2, VL.wRevN, VL.oRepT, VL.oRepL]
  refine ⟨⟨by omega, by omega⟩, fun i ρ => ∃ c, ρ = [.dat (.int b), .dat (.int e), .dat (.int (b ^ i)), c], ⟨_, by rw [Int.pow_zero]⟩, ?_, ?_⟩
  · rintro i ρ d ⟨c, rfl⟩ hx
    obtain ⟨rfl, hi⟩ := rng_at hx
    simp only [VL.wSeq, VL.wNext, VL.wNever, VL.wAsg, VL.wSet, VL.wVar, VL.wFrz, VL.wC, VL.wOp, VL.wTest, VL.wNotT, VL.wAndT, VL.wOrT, VL.wAnd, VL.wOr, VL.wNot, VL.wIf, VL.wNil, VL.wCons, VL.wTup, VL.wLst, VL.wStay, VL.wNew, VL.wPar, VL.wAug, VL.wDrop, VL.wRet, VL.wRetN, VL.wRet0, VL.wIfS, VL.wBrk, VL.wCnt, VL.wGt, VL.wGs, VL.wCB, VL.wCBN, VL.wCall, VL.wCallN, VL.wCallIo, VL.wCallIoN, VL.wCallK, VL.wIsi, VL.wIsi2, VL.wApp, VL.wExt, VL.wIns, VL.wSetIt, VL.wNoPart, VL.wPart, VL.wSl, VL.wSlN, VL.wChain, VL.wNeg, VL.wDnew, VL.wDput, VL.wDget, VL.wDin, VL.wDnin, VL.wIndex, VL.wRev, VL.wParNE, VL.wParEN, VL.wPar3, VL.wYes, VL.wSeqOf, VL.wRng1, VL.wRng2, VL.oI, VL.oI0, VL.oLt, VL.oLe, VL.oGt, VL.oGe, VL.oSub, VL.oMul, VL.oFdiv, VL.oMod, VL.oPow, VL.oShl', VL.oAbs, VL.oMax2, VL.oMin2, VL.oGcd, VL.atI_0, VL.atI_1, VL.atI_2, VL.ixN_20, VL.ixN_21, and_assoc, VL.shp_int, VL.shp_bool, VL.shp_none, VL.eqv_int, VL.eqv_bool, VL.isiD, VL.tyD, String.reduceBEq, Bool.not_true, Bool.not_false, Bool.and_true, Bool.and_false, Bool.true_and, Bool.false_and, Bool.or_true, Bool.or_false, Bool.true_or, Bool.false_or, decide_true, decide_false, Bool.not_eq_true', Bool.not_eq_eq_eq_not, decide_eq_true_eq, decide_eq_false_iff_not, VL.oInt1, VL.oInt2, VL.oLen, VL.oToInt, VL.oAdd, VL.oEq, VL.oNe, VL.oIsN, VL.oIn, VL.itemD, VL.isN, VL.der, VL.ders, VL.dats, VL.ioA, VL.endsV, VL.retE, VL.keepC, Option.map, List.range_succ, List.range_zero, List.map_cons, List.map_nil, List.map_append, List.nil_append, List.cons_append, List.append_nil, List.replicate_zero, List.replicate_succ, List.length_cons, List.length_nil, Nat.sub_self, List.getElem?_cons_zero, List.getElem?_cons_succ, List.set_cons_zero, List.set_cons_succ, Option.some.injEq, exists_eq_left', exists_eq_left, exists_eq_right, exists_and_left, exists_and_right, and_true, true_and, CV.d.injEq, CV.loc.injEq, Cell.lst.injEq, Cell.dat.injEq, Cell.dic.injEq, PyData.int.injEq, PyData.bool.injEq, PyData.list.injEq, PyData.tuple.injEq, PyData.str.injEq, reduceCtorEq, false_and, and_false, exists_false, false_or, or_false, if_true, if_false, reduceIte, Bool.false_eq_true, Nat.reduceAdd, Nat.reduceSub, Nat.succ_sub_succ, Nat.zero_add, VL.gP, List.filterMap_cons, List.filterMap_nil, List.cons.injEq, VL.wDisp0, VL.wDisp, VL.wPairs, VL.oLcm, VL.wPop, VL.wRevM, VL.wClearM, VL.wTupRg, VL.wListRg, VL.wR1, VL.wR2, VL.wRevN, VL.oRepT, VL.oRepL]
    obtain ⟨p0, p1⟩ := pw_bd12 b0 b1 (i := i) (by omega)
    refine ⟨cokn p0 (up400 p1) b0 (by omega), Int.pow_succ .. |>.symm, _, rfl⟩
  · rintro ρ ⟨c, rfl⟩
    rw [rng_len, hk]
    simp only [VL.wSeq, VL.wNext, VL.wNever, VL.wAsg, VL.wSet, VL.wVar, VL.wFrz, VL.wC, VL.wOp, VL.wTest, VL.wNotT, VL.wAndT, VL.wOrT, VL.wAnd, VL.wOr, VL.wNot, VL.wIf, VL.wNil, VL.wCons, VL.wTup, VL.wLst, VL.wStay, VL.wNew, VL.wPar, VL.wAug, VL.wDrop, VL.wRet, VL.wRetN, VL.wRet0, VL.wIfS, VL.wBrk, VL.wCnt, VL.wGt, VL.wGs, VL.wCB, VL.wCBN, VL.wCall, VL.wCallN, VL.wCallIo, VL.wCallIoN, VL.wCallK, VL.wIsi, VL.wIsi2, VL.wApp, VL.wExt, VL.wIns, VL.wSetIt, VL.wNoPart, VL.wPart, VL.wSl, VL.wSlN, VL.wChain, VL.wNeg, VL.wDnew, VL.wDput, VL.wDget, VL.wDin, VL.wDnin, VL.wIndex, VL.wRev, VL.wParNE, VL.wParEN, VL.wPar3, VL.wYes, VL.wSeqOf, VL.wRng1, VL.wRng2, VL.oI, VL.oI0, VL.oLt, VL.oLe, VL.oGt, VL.oGe, VL.oSub, VL.oMul, VL.oFdiv, VL.oMod, VL.oPow, VL.oShl', VL.oAbs, VL.oMax2, VL.oMin2, VL.oGcd, VL.atI_0, VL.atI_1, VL.atI_2, VL.ixN_20, VL.ixN_21, and_assoc, VL.shp_int, VL.shp_bool, VL.shp_none, VL.eqv_int, VL.eqv_bool, VL.isiD, VL.tyD, String.reduceBEq, Bool.not_true, Bool.not_false, Bool.and_true, Bool.and_false, Bool.true_and, Bool.false_and, Bool.or_true, Bool.or_false, Bool.true_or, Bool.false_or, decide_true, decide_false, Bool.not_eq_true', Bool.not_eq_eq_eq_not, decide_eq_true_eq, decide_eq_false_iff_not, VL.oInt1, VL.oInt2, VL.oLen, VL.oToInt, VL.oAdd, VL.oEq, VL.oNe, VL.oIsN, VL.oIn, VL.itemD, VL.isN, VL.der, VL.ders, VL.dats, VL.ioA, VL.endsV, VL.retE, VL.keepC, Option.map, List.range_succ, List.range_zero, List.map_cons, List.map_nil, List.map_append, List.nil_append, List.cons_append, List.append_nil, List.replicate_zero, List.replicate_succ, List.length_cons, List.length_nil, Nat.sub_self, List.getElem?_cons_zero, List.getElem?_cons_succ, List.set_cons_zero, List.set_cons_succ, Option.some.injEq, exists_eq_left', exists_eq_left, exists_eq_right, exists_and_left, exists_and_right, and_true, true_and, CV.d.injEq, CV.loc.injEq, Cell.lst.injEq, Cell.dat.injEq, Cell.dic.injEq, PyData.int.injEq, PyData.bool.injEq, PyData.list.injEq, PyData.tuple.injEq, PyData.str.injEq, reduceCtorEq, false_and, and_false, exists_false, false_or, or_false, if_true, if_false, reduceIte, Bool.false_eq_true, Nat.reduceAdd, Nat.reduceSub, Nat.succ_sub_succ, Nat.zero_add, VL.gP, List.filterMap_cons, List.filterMap_nil, List.cons.injEq, VL.wDisp0, VL.wDisp, VL.wPairs, VL.oLcm, VL.wPop, VL.wRevM, VL.wClearM, VL.wTupRg, VL.wListRg, VL.wR1, VL.wR2, VL.wRevN, VL.oRepT, VL.oRepL]
    exact h
theorem h__law_power (ρ : En) (Q : RV → En → Prop) (h : S__law_power ρ Q) : t__law_power (endsV 2 Q) (ρ ++ List.replicate (4 - 2) .un) := h_power ρ Q h
theorem sqs_len (m : Nat) : (sqs m).length = bitsN m := by simp [sqs]
theorem sqs_at {m i : Nat} (h : i < bitsN m) : (sqs m)[i]'(by rw [sqs_len]; exact h) = bitsN m - 1 - i := by simp [sqs]
theorem filter_take {l : List Nat} {p : Nat → Bool} {i : Nat} (h : i < l.length) : (l.take (i + 1)).filter p = if p l[i] = true then (l.take i).filter p ++ [l[i]] else (l.take i).filter p := by
  rw [List.take_succ_eq_append_getElem h, List.filter_append]
  by_cases q : p l[i] = true
  · rw [if_pos q]
    simp [q]
  · rw [if_neg q]
    simp [q]
theorem bits_le {m : Nat} (h : m ≤ 1000) : bitsN m ≤ 10 := by
  unfold bitsN
  split
  · omega
  · have := log2_lt (n := m) (k := 10) (by omega) (by decide)
    omega
theorem rngR_at {n i : Nat} {d : D} (h : (rngR 0 (n : Int))[i]? = some d) : d = .int ((n - 1 - i : Nat) : Int) ∧ i < n := by
  unfold rngR at h
  rw [List.getElem?_map] at h
  cases q : (List.range ((n : Int) - 0).toNat)[i]? with
  | none => rw [q] at h; cases h
  | some j =>
    obtain ⟨l, e⟩ := List.getElem?_eq_some_iff.mp q
    rw [q] at h
    rw [List.getElem_range] at e
    rw [List.length_range] at l
    cases h
    subst e
    have l2 : i < n := by omega
    have e2 : (0 + ((((n : Int) - 0).toNat : Nat) : Int) - 1 + (i : Int) * (-1)) = ((n - 1 - i : Nat) : Int) := by omega
    exact ⟨congrArg PyData.int e2, l2⟩
theorem rngR_len {n : Nat} : (rngR 0 (n : Int)).length = n := by simp [rngR]
theorem shr_nat (m a : Nat) : (m : Int) / 2 ^ ((a : Nat) : Int).toNat = ((m / 2 ^ a : Nat) : Int) := by
  rw [Int.toNat_natCast, Int.natCast_ediv]
  simp
theorem h_stretches_of (ρ : En) (Q : RV → En → Prop) (h : S_stretches_of ρ Q) : t_stretches_of (endsV 1 Q) (ρ ++ List.replicate (2 - 1) .un) := by
  obtain ⟨m, rfl, hm, h⟩ := h
  unfold t_stretches_of
  simp only [VL.wSeq, VL.wNext, VL.wNever, VL.wAsg, VL.wSet, VL.wVar, VL.wFrz, VL.wC, VL.wOp, VL.wTest, VL.wNotT, VL.wAndT, VL.wOrT, VL.wAnd, VL.wOr, VL.wNot, VL.wIf, VL.wNil, VL.wCons, VL.wTup, VL.wLst, VL.wStay, VL.wNew, VL.wPar, VL.wAug, VL.wDrop, VL.wRet, VL.wRetN, VL.wRet0, VL.wIfS, VL.wBrk, VL.wCnt, VL.wGt, VL.wGs, VL.wCB, VL.wCBN, VL.wCall, VL.wCallN, VL.wCallIo, VL.wCallIoN, VL.wCallK, VL.wIsi, VL.wIsi2, VL.wApp, VL.wExt, VL.wIns, VL.wSetIt, VL.wNoPart, VL.wPart, VL.wSl, VL.wSlN, VL.wChain, VL.wNeg, VL.wDnew, VL.wDput, VL.wDget, VL.wDin, VL.wDnin, VL.wIndex, VL.wRev, VL.wParNE, VL.wParEN, VL.wPar3, VL.wYes, VL.wSeqOf, VL.wRng1, VL.wRng2, VL.oI, VL.oI0, VL.oLt, VL.oLe, VL.oGt, VL.oGe, VL.oSub, VL.oMul, VL.oFdiv, VL.oMod, VL.oPow, VL.oShl', VL.oAbs, VL.oMax2, VL.oMin2, VL.oGcd, VL.atI_0, VL.atI_1, VL.atI_2, VL.ixN_20, VL.ixN_21, and_assoc, VL.shp_int, VL.shp_bool, VL.shp_none, VL.eqv_int, VL.eqv_bool, VL.isiD, VL.tyD, String.reduceBEq, Bool.not_true, Bool.not_false, Bool.and_true, Bool.and_false, Bool.true_and, Bool.false_and, Bool.or_true, Bool.or_false, Bool.true_or, Bool.false_or, decide_true, decide_false, Bool.not_eq_true', Bool.not_eq_eq_eq_not, decide_eq_true_eq, decide_eq_false_iff_not, VL.oInt1, VL.oInt2, VL.oLen, VL.oToInt, VL.oAdd, VL.oEq, VL.oNe, VL.oIsN, VL.oIn, VL.itemD, VL.isN, VL.der, VL.ders, VL.dats, VL.ioA, VL.endsV, VL.retE, VL.keepC, Option.map, List.range_succ, List.range_zero, List.map_cons, List.map_nil, List.map_append, List.nil_append, List.cons_append, List.append_nil, List.replicate_zero, List.replicate_succ, List.length_cons, List.length_nil, Nat.sub_self, List.getElem?_cons_zero, List.getElem?_cons_succ, List.set_cons_zero, List.set_cons_succ, Option.some.injEq, exists_eq_left', exists_eq_left, exists_eq_right, exists_and_left, exists_and_right, and_true, true_and, CV.d.injEq, CV.loc.injEq, Cell.lst.injEq, Cell.dat.injEq, Cell.dic.injEq, PyData.int.injEq, PyData.bool.injEq, PyData.list.injEq, PyData.tuple.injEq, PyData.str.injEq, reduceCtorEq, false_and, and_false, exists_false, false_or, or_false, if_true, if_false, reduceIte, Bool.false_eq_true, Nat.reduceAdd, Nat.reduceSub, Nat.succ_sub_succ, Nat.zero_add, VL.gP, List.filterMap_cons, List.filterMap_nil, List.cons.injEq, VL.wDisp0, VL.wDisp, VL.wPairs, VL.oLcm, VL.wPop, VL.wRevM, VL.wClearM, VL.wTupRg, VL.wListRg, VL.wR1, VL.wR2, VL.wRevN, VL.oRepT, VL.oRepL]
  unfold wLc
  simp only [VL.wSeq, VL.wNext, VL.wNever, VL.wAsg, VL.wSet, VL.wVar, VL.wFrz, VL.wC, VL.wOp, VL.wTest, VL.wNotT, VL.wAndT, VL.wOrT, VL.wAnd, VL.wOr, VL.wNot, VL.wIf, VL.wNil, VL.wCons, VL.wTup, VL.wLst, VL.wStay, VL.wNew, VL.wPar, VL.wAug, VL.wDrop, VL.wRet, VL.wRetN, VL.wRet0, VL.wIfS, VL.wBrk, VL.wCnt, VL.wGt, VL.wGs, VL.wCB, VL.wCBN, VL.wCall, VL.wCallN, VL.wCallIo, VL.wCallIoN, VL.wCallK, VL.wIsi, VL.wIsi2, VL.wApp, VL.wExt, VL.wIns, VL.wSetIt, VL.wNoPart, VL.wPart, VL.wSl, VL.wSlN, VL.wChain, VL.wNeg, VL.wDnew, VL.wDput, VL.wDget, VL.wDin, VL.wDnin, VL.wIndex, VL.wRev, VL.wParNE, VL.wParEN, VL.wPar3, VL.wYes, VL.wSeqOf, VL.wRng1, VL.wRng2, VL.oI, VL.oI0, VL.oLt, VL.oLe, VL.oGt, VL.oGe, VL.oSub, VL.oMul, VL.oFdiv, VL.oMod, VL.oPow, VL.oShl', VL.oAbs, VL.oMax2, VL.oMin2, VL.oGcd, VL.atI_0, VL.atI_1, VL.atI_2, VL.ixN_20, VL.ixN_21, and_assoc, VL.shp_int, VL.shp_bool, VL.shp_none, VL.eqv_int, VL.eqv_bool, VL.isiD, VL.tyD, String.reduceBEq, Bool.not_true, Bool.not_false, Bool.and_true, Bool.and_false, Bool.true_and, Bool.false_and, Bool.or_true, Bool.or_false, Bool.true_or, Bool.false_or, decide_true, decide_false, Bool.not_eq_true', Bool.not_eq_eq_eq_not, decide_eq_true_eq, decide_eq_false_iff_not, VL.oInt1, VL.oInt2, VL.oLen, VL.oToInt, VL.oAdd, VL.oEq, VL.oNe, VL.oIsN, VL.oIn, VL.itemD, VL.isN, VL.der, VL.ders, VL.dats, VL.ioA, VL.endsV, VL.retE, VL.keepC, Option.map, List.range_succ, List.range_zero, List.map_cons, List.map_nil, List.map_append, List.nil_append, List.cons_append, List.append_nil, List.replicate_zero, List.replicate_succ, List.length_cons, List.length_nil, Nat.sub_self, List.getElem?_cons_zero, List.getElem?_cons_succ, List.set_cons_zero, List.set_cons_succ, Option.some.injEq, exists_eq_left', exists_eq_left, exists_eq_right, exists_and_left, exists_and_right, and_true, true_and, CV.d.injEq, CV.loc.injEq, Cell.lst.injEq, Cell.dat.injEq, Cell.dic.injEq, PyData.int.injEq, PyData.bool.injEq, PyData.list.injEq, PyData.tuple.injEq, PyData.str.injEq, reduceCtorEq, false_and, and_false, exists_false, false_or, or_false, if_true, if_false, reduceIte, Bool.false_eq_true, Nat.reduceAdd, Nat.reduceSub, Nat.succ_sub_succ, Nat.zero_add, VL.gP, List.filterMap_cons, List.filterMap_nil, List.cons.injEq, VL.wDisp0, VL.wDisp, VL.wPairs, VL.oLcm, VL.wPop, VL.wRevM, VL.wClearM, VL.wTupRg, VL.wListRg, VL.wR1, VL.wR2, VL.wRevN, VL.oRepT, VL.oRepL, wRevR, wBits, VL.wTru, wipeE]
  have bl := bits_le hm
  refine ⟨m, rfl, ⟨by decide, by decide⟩, ⟨by omega, by omega⟩, fun i acc ρ => i ≤ bitsN m ∧ acc = (((sqs m).take i).filter (bit m)).map (fun a => PyData.int (a : Nat)) ∧ ρ = [.dat (.int m), .un], ⟨by omega, rfl, rfl⟩, ?_, ?_⟩
  · rintro i acc ρ d ⟨hi, rfl, rfl⟩ hx
    obtain ⟨rfl, l⟩ := rngR_at hx
    have ll : i < (sqs m).length := by rw [sqs_len]; exact l
    have ft := filter_take (p := bit m) ll
    rw [sqs_at l] at ft
    have fl : (List.filter (bit m) (List.take i (sqs m))).length ≤ 10 := by
      have := List.length_filter_le (bit m) (List.take i (sqs m))
      rw [List.length_take] at this
      omega
    have sz : 100 ≤ sizeLine := by decide
    simp only [VL.wSeq, VL.wNext, VL.wNever, VL.wAsg, VL.wSet, VL.wVar, VL.wFrz, VL.wC, VL.wOp, VL.wTest, VL.wNotT, VL.wAndT, VL.wOrT, VL.wAnd, VL.wOr, VL.wNot, VL.wIf, VL.wNil, VL.wCons, VL.wTup, VL.wLst, VL.wStay, VL.wNew, VL.wPar, VL.wAug, VL.wDrop, VL.wRet, VL.wRetN, VL.wRet0, VL.wIfS, VL.wBrk, VL.wCnt, VL.wGt, VL.wGs, VL.wCB, VL.wCBN, VL.wCall, VL.wCallN, VL.wCallIo, VL.wCallIoN, VL.wCallK, VL.wIsi, VL.wIsi2, VL.wApp, VL.wExt, VL.wIns, VL.wSetIt, VL.wNoPart, VL.wPart, VL.wSl, VL.wSlN, VL.wChain, VL.wNeg, VL.wDnew, VL.wDput, VL.wDget, VL.wDin, VL.wDnin, VL.wIndex, VL.wRev, VL.wParNE, VL.wParEN, VL.wPar3, VL.wYes, VL.wSeqOf, VL.wRng1, VL.wRng2, VL.oI, VL.oI0, VL.oLt, VL.oLe, VL.oGt, VL.oGe, VL.oSub, VL.oMul, VL.oFdiv, VL.oMod, VL.oPow, VL.oShl', VL.oAbs, VL.oMax2, VL.oMin2, VL.oGcd, VL.atI_0, VL.atI_1, VL.atI_2, VL.ixN_20, VL.ixN_21, and_assoc, VL.shp_int, VL.shp_bool, VL.shp_none, VL.eqv_int, VL.eqv_bool, VL.isiD, VL.tyD, String.reduceBEq, Bool.not_true, Bool.not_false, Bool.and_true, Bool.and_false, Bool.true_and, Bool.false_and, Bool.or_true, Bool.or_false, Bool.true_or, Bool.false_or, decide_true, decide_false, Bool.not_eq_true', Bool.not_eq_eq_eq_not, decide_eq_true_eq, decide_eq_false_iff_not, VL.oInt1, VL.oInt2, VL.oLen, VL.oToInt, VL.oAdd, VL.oEq, VL.oNe, VL.oIsN, VL.oIn, VL.itemD, VL.isN, VL.der, VL.ders, VL.dats, VL.ioA, VL.endsV, VL.retE, VL.keepC, Option.map, List.range_succ, List.range_zero, List.map_cons, List.map_nil, List.map_append, List.nil_append, List.cons_append, List.append_nil, List.replicate_zero, List.replicate_succ, List.length_cons, List.length_nil, Nat.sub_self, List.getElem?_cons_zero, List.getElem?_cons_succ, List.set_cons_zero, List.set_cons_succ, Option.some.injEq, exists_eq_left', exists_eq_left, exists_eq_right, exists_and_left, exists_and_right, and_true, true_and, CV.d.injEq, CV.loc.injEq, Cell.lst.injEq, Cell.dat.injEq, Cell.dic.injEq, PyData.int.injEq, PyData.bool.injEq, PyData.list.injEq, PyData.tuple.injEq, PyData.str.injEq, reduceCtorEq, false_and, and_false, exists_false, false_or, or_false, if_true, if_false, reduceIte, Bool.false_eq_true, Nat.reduceAdd, Nat.reduceSub, Nat.succ_sub_succ, Nat.zero_add, VL.gP, List.filterMap_cons, List.filterMap_nil, List.cons.injEq, VL.wDisp0, VL.wDisp, VL.wPairs, VL.oLcm, VL.wPop, VL.wRevM, VL.wClearM, VL.wTupRg, VL.wListRg, VL.wR1, VL.wR2, VL.wRevN, VL.oRepT, VL.oRepL, truD, oOdd, shr_nat]
    refine ⟨Int.natCast_nonneg _, _, rfl, ?_⟩
    by_cases q : bit m (bitsN m - 1 - i) = true
    · have q' : m / 2 ^ (bitsN m - 1 - i) % 2 = 1 := by simpa [bit] using q
      rw [if_pos q] at ft
      rw [if_pos (by rw [q']; decide), ft]
      refine ⟨by rw [List.length_map]; omega, by omega, ?_⟩
      rw [List.map_append]
      rfl
    · have q' : m / 2 ^ (bitsN m - 1 - i) % 2 = 0 := by
        have : ¬ m / 2 ^ (bitsN m - 1 - i) % 2 = 1 := by simpa [bit] using q
        omega
      rw [if_neg q] at ft
      rw [if_neg (by rw [q']; decide), ft]
      exact ⟨by omega, rfl⟩
  · rintro acc ρ ⟨hi, rfl, rfl⟩
    rw [rngR_len, List.take_of_length_le (by rw [sqs_len]; exact Nat.le_refl _)]
    exact h
end K35
end
section
set_option autoImplicit false
set_option maxRecDepth 100000
set_option maxHeartbeats 4000000
set_option exponentiation.threshold 7000
namespace K35
open PySem PySem.Spec PyProof.Rows L2 VL
theorem rows_len : ∀ n : Nat, (rows n).length = 2 ^ n
  | 0 => rfl
  | n + 1 => by
    show ((rows n).flatMap fun r => [r ++ [0], r ++ [1]]).length = _
    have : ∀ l : List (List Int), (l.flatMap fun r => [r ++ [0], r ++ [1]]).length = 2 * l.length := fun l => by
      induction l with
      | nil => rfl
      | cons a r ih => rw [List.flatMap_cons, List.length_append, ih]; simp; omega
    rw [this, rows_len n, Nat.pow_succ]
    omega
theorem rows_each : ∀ n : Nat, ∀ r ∈ rows n, r.length = n ∧ ∀ x ∈ r, x = 0 ∨ x = 1
  | 0, r, h => by
    rw [List.mem_singleton.mp h]
    exact ⟨rfl, fun x hx => by cases hx⟩
  | n + 1, r, h => by
    obtain ⟨s, hs, hr⟩ := List.mem_flatMap.mp h
    obtain ⟨l, b⟩ := rows_each n s hs
    simp only [List.mem_cons, List.not_mem_nil, or_false] at hr
    rcases hr with rfl | rfl <;> refine ⟨by simp [l], fun x hx => ?_⟩ <;> (rcases List.mem_append.mp hx with z | z; exact b x z; simp at z; omega)
theorem snoc_ext {r : List Int} {x : Int} : (PyData.tuple (r.map PyData.int ++ [PyData.int x])) = intT (r ++ [x]) := by
  unfold intT
  rw [List.map_append]
  rfl
def nxt (l : List (List Int)) : List (List Int) := l.flatMap fun r => [r ++ [0], r ++ [1]]
theorem nxt_take {l : List (List Int)} {i : Nat} (h : i < l.length) : nxt (l.take (i + 1)) = nxt (l.take i) ++ [l[i] ++ [0], l[i] ++ [1]] := by
  unfold nxt
  rw [List.take_succ_eq_append_getElem h, List.flatMap_append]
  simp
theorem nxt_len (l : List (List Int)) : (nxt l).length = 2 * l.length := by
  unfold nxt
  induction l with
  | nil => rfl
  | cons a r ih => rw [List.flatMap_cons, List.length_append, ih]; simp; omega
theorem nxt_rows (n : Nat) : nxt (rows n) = rows (n + 1) := rfl
theorem rowsD_at {l : List (List Int)} {i : Nat} {d : D} (h : (rowsD l)[i]? = some d) : ∃ hi : i < l.length, d = intT l[i] := by
  unfold rowsD at h
  rw [List.getElem?_map] at h
  cases q : l[i]? with
  | none => rw [q] at h; cases h
  | some r =>
    obtain ⟨hi, e⟩ := List.getElem?_eq_some_iff.mp q
    rw [q] at h
    cases h
    exact ⟨hi, by rw [e]⟩
theorem rowsD_len (l : List (List Int)) : (rowsD l).length = l.length := by simp [rowsD]
theorem nxt_snocD {l : List (List Int)} {j : Nat} (h : j < l.length) : rowsD (nxt (l.take j)) ++ [PyData.tuple (l[j].map PyData.int ++ [PyData.int 0]), PyData.tuple (l[j].map PyData.int ++ [PyData.int 1])] = rowsD (nxt (l.take (j + 1))) := by
  rw [nxt_take h, snoc_ext, snoc_ext]
  unfold rowsD
  rw [List.map_append]
  rfl
theorem sz16 : 2 ^ 24 ≤ sizeLine := by decide
theorem h__law_rows (ρ : En) (Q : RV → En → Prop) (h : S__law_rows ρ Q) : t__law_rows (endsV 1 Q) (ρ ++ List.replicate (5 - 1) .un) := by
  obtain ⟨n, rfl, hn, h⟩ := h
  unfold t__law_rows
  refine seq_gen fun k hk => ?_
  simp only [VL.wSeq, VL.wNext, VL.wNever, VL.wAsg, VL.wSet, VL.wVar, VL.wFrz, VL.wC, VL.wOp, VL.wTest, VL.wNotT, VL.wAndT, VL.wOrT, VL.wAnd, VL.wOr, VL.wNot, VL.wIf, VL.wNil, VL.wCons, VL.wTup, VL.wLst, VL.wStay, VL.wNew, VL.wPar, VL.wAug, VL.wDrop, VL.wRet, VL.wRetN, VL.wRet0, VL.wIfS, VL.wBrk, VL.wCnt, VL.wGt, VL.wGs, VL.wCB, VL.wCBN, VL.wCall, VL.wCallN, VL.wCallIo, VL.wCallIoN, VL.wCallK, VL.wIsi, VL.wIsi2, VL.wApp, VL.wExt, VL.wIns, VL.wSetIt, VL.wNoPart, VL.wPart, VL.wSl, VL.wSlN, VL.wChain, VL.wNeg, VL.wDnew, VL.wDput, VL.wDget, VL.wDin, VL.wDnin, VL.wIndex, VL.wRev, VL.wParNE, VL.wParEN, VL.wPar3, VL.wYes, VL.wSeqOf, VL.wRng1, VL.wRng2, VL.oI, VL.oI0, VL.oLt, VL.oLe, VL.oGt, VL.oGe, VL.oSub, VL.oMul, VL.oFdiv, VL.oMod, VL.oPow, VL.oShl', VL.oAbs, VL.oMax2, VL.oMin2, VL.oGcd, VL.atI_0, VL.atI_1, VL.atI_2, VL.ixN_20, VL.ixN_21, and_assoc, VL.shp_int, VL.shp_bool, VL.shp_none, VL.eqv_int, VL.eqv_bool, VL.isiD, VL.tyD, String.reduceBEq, Bool.not_true, Bool.not_false, Bool.and_true, Bool.and_false, Bool.true_and, Bool.false_and, Bool.or_true, Bool.or_false, Bool.true_or, Bool.false_or, decide_true, decide_false, Bool.not_eq_true', Bool.not_eq_eq_eq_not, decide_eq_true_eq, decide_eq_false_iff_not, VL.oInt1, VL.oInt2, VL.oLen, VL.oToInt, VL.oAdd, VL.oEq, VL.oNe, VL.oIsN, VL.oIn, VL.itemD, VL.isN, VL.der, VL.ders, VL.dats, VL.ioA, VL.endsV, VL.retE, VL.keepC, Option.map, List.range_succ, List.range_zero, List.map_cons, List.map_nil, List.map_append, List.nil_append, List.cons_append, List.append_nil, List.replicate_zero, List.replicate_succ, List.length_cons, List.length_nil, Nat.sub_self, List.getElem?_cons_zero, List.getElem?_cons_succ, List.set_cons_zero, List.set_cons_succ, Option.some.injEq, exists_eq_left', exists_eq_left, exists_eq_right, exists_and_left, exists_and_right, and_true, true_and, CV.d.injEq, CV.loc.injEq, Cell.lst.injEq, Cell.dat.injEq, Cell.dic.injEq, PyData.int.injEq, PyData.bool.injEq, PyData.list.injEq, PyData.tuple.injEq, PyData.str.injEq, reduceCtorEq, false_and, and_false, exists_false, false_or, or_false, if_true, if_false, reduceIte, Bool.false_eq_true, Nat.reduceAdd, Nat.reduceSub, Nat.succ_sub_succ, Nat.zero_add, VL.gP, List.filterMap_cons, List.filterMap_nil, List.cons.injEq, VL.wDisp0, VL.wDisp, VL.wPairs, VL.oLcm, VL.wPop, VL.wRevM, VL.wClearM, VL.wTupRg, VL.wListRg, VL.wR1, VL.wR2, VL.wRevN, VL.oRepT, VL.oRepL]
  have sz := sz16
  refine ⟨by omega, by decide, ?_⟩
  rw [hk]
  clear hk k
  refine seq_gen fun k hk => ?_
  refine for_body fun B hB => ?_
  unfold wFor
  simp only [VL.wSeq, VL.wNext, VL.wNever, VL.wAsg, VL.wSet, VL.wVar, VL.wFrz, VL.wC, VL.wOp, VL.wTest, VL.wNotT, VL.wAndT, VL.wOrT, VL.wAnd, VL.wOr, VL.wNot, VL.wIf, VL.wNil, VL.wCons, VL.wTup, VL.wLst, VL.wStay, VL.wNew, VL.wPar, VL.wAug, VL.wDrop, VL.wRet, VL.wRetN, VL.wRet0, VL.wIfS, VL.wBrk, VL.wCnt, VL.wGt, VL.wGs, VL.wCB, VL.wCBN, VL.wCall, VL.wCallN, VL.wCallIo, VL.wCallIoN, VL.wCallK, VL.wIsi, VL.wIsi2, VL.wApp, VL.wExt, VL.wIns, VL.wSetIt, VL.wNoPart, VL.wPart, VL.wSl, VL.wSlN, VL.wChain, VL.wNeg, VL.wDnew, VL.wDput, VL.wDget, VL.wDin, VL.wDnin, VL.wIndex, VL.wRev, VL.wParNE, VL.wParEN, VL.wPar3, VL.wYes, VL.wSeqOf, VL.wRng1, VL.wRng2, VL.oI, VL.oI0, VL.oLt, VL.oLe, VL.oGt, VL.oGe, VL.oSub, VL.oMul, VL.oFdiv, VL.oMod, VL.oPow, VL.oShl', VL.oAbs, VL.oMax2, VL.oMin2, VL.oGcd, VL.atI_0, VL.atI_1, VL.atI_2, VL.ixN_20, VL.ixN_21, and_assoc, VL.shp_int, VL.shp_bool, VL.shp_none, VL.eqv_int, VL.eqv_bool, VL.isiD, VL.tyD, String.reduceBEq, Bool.not_true, Bool.not_false, Bool.and_true, Bool.and_false, Bool.true_and, Bool.false_and, Bool.or_true, Bool.or_false, Bool.true_or, Bool.false_or, decide_true, decide_false, Bool.not_eq_true', Bool.not_eq_eq_eq_not, decide_eq_true_eq, decide_eq_false_iff_not, VL.oInt1, VL.oInt2, VL.oLen, VL.oToInt, VL.oAdd, VL.oEq, VL.oNe, VL.oIsN, VL.oIn, VL.itemD, VL.isN, VL.der, VL.ders, VL.dats, VL.ioA, VL.endsV, VL.retE, VL.keepC, Option.map, List.range_succ, List.range_zero, List.map_cons, List.map_nil, List.map_append, List.nil_append, List.cons_append, List.append_nil, List.replicate_zero, List.replicate_succ, List.length_cons, List.length_nil, Nat.sub_self, List.getElem?_cons_zero, List.getElem?_cons_succ, List.set_cons_zero, List.set_cons_succ, Option.some.injEq, exists_eq_left', exists_eq_left, exists_eq_right, exists_and_left, exists_and_right, and_true, true_and, CV.d.injEq, CV.loc.injEq, Cell.lst.injEq, Cell.dat.injEq, Cell.dic.injEq, PyData.int.injEq, PyData.bool.injEq, PyData.list.injEq, PyData.tuple.injEq, PyData.str.injEq, reduceCtorEq, false_and, and_false, exists_false, false_or, or_false, if_true, if_false, reduceIte, Bool.false_eq_true, Nat.reduceAdd, Nat.reduceSub, Nat.succ_sub_succ, Nat.zero_add, VL.gP, List.filterMap_cons, List.filterMap_nil, List.cons.injEq, VL.wDisp0, VL.wDisp, VL.wPairs, VL.oLcm, VL.wPop, VL.wRevM, VL.wClearM, VL.wTupRg, VL.wListRg, VL.wR1, VL.wR2, VL.wRevN, VL.oRepT, VL.oRepL]
  refine ⟨⟨by omega, by omega⟩, fun i ρ => ∃ c1 c2 c3, ρ = [.dat (.int n), .dat (.list (rowsD (rows i))), c1, c2, c3], ⟨_, _, _, rfl⟩, ?_, ?_⟩
  · rintro i ρ d ⟨c1, c2, c3, rfl⟩ hx
    obtain ⟨rfl, hi⟩ := rng_at hx
    simp only [VL.wSeq, VL.wNext, VL.wNever, VL.wAsg, VL.wSet, VL.wVar, VL.wFrz, VL.wC, VL.wOp, VL.wTest, VL.wNotT, VL.wAndT, VL.wOrT, VL.wAnd, VL.wOr, VL.wNot, VL.wIf, VL.wNil, VL.wCons, VL.wTup, VL.wLst, VL.wStay, VL.wNew, VL.wPar, VL.wAug, VL.wDrop, VL.wRet, VL.wRetN, VL.wRet0, VL.wIfS, VL.wBrk, VL.wCnt, VL.wGt, VL.wGs, VL.wCB, VL.wCBN, VL.wCall, VL.wCallN, VL.wCallIo, VL.wCallIoN, VL.wCallK, VL.wIsi, VL.wIsi2, VL.wApp, VL.wExt, VL.wIns, VL.wSetIt, VL.wNoPart, VL.wPart, VL.wSl, VL.wSlN, VL.wChain, VL.wNeg, VL.wDnew, VL.wDput, VL.wDget, VL.wDin, VL.wDnin, VL.wIndex, VL.wRev, VL.wParNE, VL.wParEN, VL.wPar3, VL.wYes, VL.wSeqOf, VL.wRng1, VL.wRng2, VL.oI, VL.oI0, VL.oLt, VL.oLe, VL.oGt, VL.oGe, VL.oSub, VL.oMul, VL.oFdiv, VL.oMod, VL.oPow, VL.oShl', VL.oAbs, VL.oMax2, VL.oMin2, VL.oGcd, VL.atI_0, VL.atI_1, VL.atI_2, VL.ixN_20, VL.ixN_21, and_assoc, VL.shp_int, VL.shp_bool, VL.shp_none, VL.eqv_int, VL.eqv_bool, VL.isiD, VL.tyD, String.reduceBEq, Bool.not_true, Bool.not_false, Bool.and_true, Bool.and_false, Bool.true_and, Bool.false_and, Bool.or_true, Bool.or_false, Bool.true_or, Bool.false_or, decide_true, decide_false, Bool.not_eq_true', Bool.not_eq_eq_eq_not, decide_eq_true_eq, decide_eq_false_iff_not, VL.oInt1, VL.oInt2, VL.oLen, VL.oToInt, VL.oAdd, VL.oEq, VL.oNe, VL.oIsN, VL.oIn, VL.itemD, VL.isN, VL.der, VL.ders, VL.dats, VL.ioA, VL.endsV, VL.retE, VL.keepC, Option.map, List.range_succ, List.range_zero, List.map_cons, List.map_nil, List.map_append, List.nil_append, List.cons_append, List.append_nil, List.replicate_zero, List.replicate_succ, List.length_cons, List.length_nil, Nat.sub_self, List.getElem?_cons_zero, List.getElem?_cons_succ, List.set_cons_zero, List.set_cons_succ, Option.some.injEq, exists_eq_left', exists_eq_left, exists_eq_right, exists_and_left, exists_and_right, and_true, true_and, CV.d.injEq, CV.loc.injEq, Cell.lst.injEq, Cell.dat.injEq, Cell.dic.injEq, PyData.int.injEq, PyData.bool.injEq, PyData.list.injEq, PyData.tuple.injEq, PyData.str.injEq, reduceCtorEq, false_and, and_false, exists_false, false_or, or_false, if_true, if_false, reduceIte, Bool.false_eq_true, Nat.reduceAdd, Nat.reduceSub, Nat.succ_sub_succ, Nat.zero_add, VL.gP, List.filterMap_cons, List.filterMap_nil, List.cons.injEq, VL.wDisp0, VL.wDisp, VL.wPairs, VL.oLcm, VL.wPop, VL.wRevM, VL.wClearM, VL.wTupRg, VL.wListRg, VL.wR1, VL.wR2, VL.wRevN, VL.oRepT, VL.oRepL]
    rw [hB]
    refine seq_gen fun k hk => ?_
    simp only [VL.wSeq, VL.wNext, VL.wNever, VL.wAsg, VL.wSet, VL.wVar, VL.wFrz, VL.wC, VL.wOp, VL.wTest, VL.wNotT, VL.wAndT, VL.wOrT, VL.wAnd, VL.wOr, VL.wNot, VL.wIf, VL.wNil, VL.wCons, VL.wTup, VL.wLst, VL.wStay, VL.wNew, VL.wPar, VL.wAug, VL.wDrop, VL.wRet, VL.wRetN, VL.wRet0, VL.wIfS, VL.wBrk, VL.wCnt, VL.wGt, VL.wGs, VL.wCB, VL.wCBN, VL.wCall, VL.wCallN, VL.wCallIo, VL.wCallIoN, VL.wCallK, VL.wIsi, VL.wIsi2, VL.wApp, VL.wExt, VL.wIns, VL.wSetIt, VL.wNoPart, VL.wPart, VL.wSl, VL.wSlN, VL.wChain, VL.wNeg, VL.wDnew, VL.wDput, VL.wDget, VL.wDin, VL.wDnin, VL.wIndex, VL.wRev, VL.wParNE, VL.wParEN, VL.wPar3, VL.wYes, VL.wSeqOf, VL.wRng1, VL.wRng2, VL.oI, VL.oI0, VL.oLt, VL.oLe, VL.oGt, VL.oGe, VL.oSub, VL.oMul, VL.oFdiv, VL.oMod, VL.oPow, VL.oShl', VL.oAbs, VL.oMax2, VL.oMin2, VL.oGcd, VL.atI_0, VL.atI_1, VL.atI_2, VL.ixN_20, VL.ixN_21, and_assoc, VL.shp_int, VL.shp_bool, VL.shp_none, VL.eqv_int, VL.eqv_bool, VL.isiD, VL.tyD, String.reduceBEq, Bool.not_true, Bool.not_false, Bool.and_true, Bool.and_false, Bool.true_and, Bool.false_and, Bool.or_true, Bool.or_false, Bool.true_or, Bool.false_or, decide_true, decide_false, Bool.not_eq_true', Bool.not_eq_eq_eq_not, decide_eq_true_eq, decide_eq_false_iff_not, VL.oInt1, VL.oInt2, VL.oLen, VL.oToInt, VL.oAdd, VL.oEq, VL.oNe, VL.oIsN, VL.oIn, VL.itemD, VL.isN, VL.der, VL.ders, VL.dats, VL.ioA, VL.endsV, VL.retE, VL.keepC, Option.map, List.range_succ, List.range_zero, List.map_cons, List.map_nil, List.map_append, List.nil_append, List.cons_append, List.append_nil, List.replicate_zero, List.replicate_succ, List.length_cons, List.length_nil, Nat.sub_self, List.getElem?_cons_zero, List.getElem?_cons_succ, List.set_cons_zero, List.set_cons_succ, Option.some.injEq, exists_eq_left', exists_eq_left, exists_eq_right, exists_and_left, exists_and_right, and_true, true_and, CV.d.injEq, CV.loc.injEq, Cell.lst.injEq, Cell.dat.injEq, Cell.dic.injEq, PyData.int.injEq, PyData.bool.injEq, PyData.list.injEq, PyData.tuple.injEq, PyData.str.injEq, reduceCtorEq, false_and, and_false, exists_false, false_or, or_false, if_true, if_false, reduceIte, Bool.false_eq_true, Nat.reduceAdd, Nat.reduceSub, Nat.succ_sub_succ, Nat.zero_add, VL.gP, List.filterMap_cons, List.filterMap_nil, List.cons.injEq, VL.wDisp0, VL.wDisp, VL.wPairs, VL.oLcm, VL.wPop, VL.wRevM, VL.wClearM, VL.wTupRg, VL.wListRg, VL.wR1, VL.wR2, VL.wRevN, VL.oRepT, VL.oRepL]
    refine ⟨by omega, ?_⟩
    rw [hk]
    clear hk k
    refine seq_gen fun k hk => ?_
    unfold wFor
    simp only [VL.wSeq, VL.wNext, VL.wNever, VL.wAsg, VL.wSet, VL.wVar, VL.wFrz, VL.wC, VL.wOp, VL.wTest, VL.wNotT, VL.wAndT, VL.wOrT, VL.wAnd, VL.wOr, VL.wNot, VL.wIf, VL.wNil, VL.wCons, VL.wTup, VL.wLst, VL.wStay, VL.wNew, VL.wPar, VL.wAug, VL.wDrop, VL.wRet, VL.wRetN, VL.wRet0, VL.wIfS, VL.wBrk, VL.wCnt, VL.wGt, VL.wGs, VL.wCB, VL.wCBN, VL.wCall, VL.wCallN, VL.wCallIo, VL.wCallIoN, VL.wCallK, VL.wIsi, VL.wIsi2, VL.wApp, VL.wExt, VL.wIns, VL.wSetIt, VL.wNoPart, VL.wPart, VL.wSl, VL.wSlN, VL.wChain, VL.wNeg, VL.wDnew, VL.wDput, VL.wDget, VL.wDin, VL.wDnin, VL.wIndex, VL.wRev, VL.wParNE, VL.wParEN, VL.wPar3, VL.wYes, VL.wSeqOf, VL.wRng1, VL.wRng2, VL.oI, VL.oI0, VL.oLt, VL.oLe, VL.oGt, VL.oGe, VL.oSub, VL.oMul, VL.oFdiv, VL.oMod, VL.oPow, VL.oShl', VL.oAbs, VL.oMax2, VL.oMin2, VL.oGcd, VL.atI_0, VL.atI_1, VL.atI_2, VL.ixN_20, VL.ixN_21, and_assoc, VL.shp_int, VL.shp_bool, VL.shp_none, VL.eqv_int, VL.eqv_bool, VL.isiD, VL.tyD, String.reduceBEq, Bool.not_true, Bool.not_false, Bool.and_true, Bool.and_false, Bool.true_and, Bool.false_and, Bool.or_true, Bool.or_false, Bool.true_or, Bool.false_or, decide_true, decide_false, Bool.not_eq_true', Bool.not_eq_eq_eq_not, decide_eq_true_eq, decide_eq_false_iff_not, VL.oInt1, VL.oInt2, VL.oLen, VL.oToInt, VL.oAdd, VL.oEq, VL.oNe, VL.oIsN, VL.oIn, VL.itemD, VL.isN, VL.der, VL.ders, VL.dats, VL.ioA, VL.endsV, VL.retE, VL.keepC, Option.map, List.range_succ, List.range_zero, List.map_cons, List.map_nil, List.map_append, List.nil_append, List.cons_append, List.append_nil, List.replicate_zero, List.replicate_succ, List.length_cons, List.length_nil, Nat.sub_self, List.getElem?_cons_zero, List.getElem?_cons_succ, List.set_cons_zero, List.set_cons_succ, Option.some.injEq, exists_eq_left', exists_eq_left, exists_eq_right, exists_and_left, exists_and_right, and_true, true_and, CV.d.injEq, CV.loc.injEq, Cell.lst.injEq, Cell.dat.injEq, Cell.dic.injEq, PyData.int.injEq, PyData.bool.injEq, PyData.list.injEq, PyData.tuple.injEq, PyData.str.injEq, reduceCtorEq, false_and, and_false, exists_false, false_or, or_false, if_true, if_false, reduceIte, Bool.false_eq_true, Nat.reduceAdd, Nat.reduceSub, Nat.succ_sub_succ, Nat.zero_add, VL.gP, List.filterMap_cons, List.filterMap_nil, List.cons.injEq, VL.wDisp0, VL.wDisp, VL.wPairs, VL.oLcm, VL.wPop, VL.wRevM, VL.wClearM, VL.wTupRg, VL.wListRg, VL.wR1, VL.wR2, VL.wRevN, VL.oRepT, VL.oRepL]
    refine ⟨fun j ρ => ∃ c3, ρ = [.dat (.int n), .dat (.list (rowsD (rows i))), .dat (.int i), .dat (.list (rowsD (nxt ((rows i).take j)))), c3], ⟨_, rfl⟩, ?_, ?_⟩
    · rintro j ρ d ⟨c3, rfl⟩ hy
      obtain ⟨hj, rfl⟩ := rowsD_at hy
      have rl := rows_len i
      have pl : (2 : Nat) ^ i ≤ 2 ^ 12 := Nat.pow_le_pow_right (by decide) (by omega)
      have wl := (rows_each i _ (List.getElem_mem hj)).1
      have ml : ((rows i).take j).length ≤ j := by rw [List.length_take]; omega
      unfold intT
      simp only [VL.wSeq, VL.wNext, VL.wNever, VL.wAsg, VL.wSet, VL.wVar, VL.wFrz, VL.wC, VL.wOp, VL.wTest, VL.wNotT, VL.wAndT, VL.wOrT, VL.wAnd, VL.wOr, VL.wNot, VL.wIf, VL.wNil, VL.wCons, VL.wTup, VL.wLst, VL.wStay, VL.wNew, VL.wPar, VL.wAug, VL.wDrop, VL.wRet, VL.wRetN, VL.wRet0, VL.wIfS, VL.wBrk, VL.wCnt, VL.wGt, VL.wGs, VL.wCB, VL.wCBN, VL.wCall, VL.wCallN, VL.wCallIo, VL.wCallIoN, VL.wCallK, VL.wIsi, VL.wIsi2, VL.wApp, VL.wExt, VL.wIns, VL.wSetIt, VL.wNoPart, VL.wPart, VL.wSl, VL.wSlN, VL.wChain, VL.wNeg, VL.wDnew, VL.wDput, VL.wDget, VL.wDin, VL.wDnin, VL.wIndex, VL.wRev, VL.wParNE, VL.wParEN, VL.wPar3, VL.wYes, VL.wSeqOf, VL.wRng1, VL.wRng2, VL.oI, VL.oI0, VL.oLt, VL.oLe, VL.oGt, VL.oGe, VL.oSub, VL.oMul, VL.oFdiv, VL.oMod, VL.oPow, VL.oShl', VL.oAbs, VL.oMax2, VL.oMin2, VL.oGcd, VL.atI_0, VL.atI_1, VL.atI_2, VL.ixN_20, VL.ixN_21, and_assoc, VL.shp_int, VL.shp_bool, VL.shp_none, VL.eqv_int, VL.eqv_bool, VL.isiD, VL.tyD, String.reduceBEq, Bool.not_true, Bool.not_false, Bool.and_true, Bool.and_false, Bool.true_and, Bool.false_and, Bool.or_true, Bool.or_false, Bool.true_or, Bool.false_or, decide_true, decide_false, Bool.not_eq_true', Bool.not_eq_eq_eq_not, decide_eq_true_eq, decide_eq_false_iff_not, VL.oInt1, VL.oInt2, VL.oLen, VL.oToInt, VL.oAdd, VL.oEq, VL.oNe, VL.oIsN, VL.oIn, VL.itemD, VL.isN, VL.der, VL.ders, VL.dats, VL.ioA, VL.endsV, VL.retE, VL.keepC, Option.map, List.range_succ, List.range_zero, List.map_cons, List.map_nil, List.map_append, List.nil_append, List.cons_append, List.append_nil, List.replicate_zero, List.replicate_succ, List.length_cons, List.length_nil, Nat.sub_self, List.getElem?_cons_zero, List.getElem?_cons_succ, List.set_cons_zero, List.set_cons_succ, Option.some.injEq, exists_eq_left', exists_eq_left, exists_eq_right, exists_and_left, exists_and_right, and_true, true_and, CV.d.injEq, CV.loc.injEq, Cell.lst.injEq, Cell.dat.injEq, Cell.dic.injEq, PyData.int.injEq, PyData.bool.injEq, PyData.list.injEq, PyData.tuple.injEq, PyData.str.injEq, reduceCtorEq, false_and, and_false, exists_false, false_or, or_false, if_true, if_false, reduceIte, Bool.false_eq_true, Nat.reduceAdd, Nat.reduceSub, Nat.succ_sub_succ, Nat.zero_add, VL.gP, List.filterMap_cons, List.filterMap_nil, List.cons.injEq, VL.wDisp0, VL.wDisp, VL.wPairs, VL.oLcm, VL.wPop, VL.wRevM, VL.wClearM, VL.wTupRg, VL.wListRg, VL.wR1, VL.wR2, VL.wRevN, VL.oRepT, VL.oRepL]
      rw [rowsD_len, nxt_len, List.length_map, wl]
      exact ⟨by omega, by omega, by omega, by omega, by omega, by omega, nxt_snocD hj, _, rfl⟩
    · rintro ρ ⟨c3, rfl⟩
      rw [rowsD_len, List.take_of_length_le (Nat.le_refl _), nxt_rows, hk]
      simp only [VL.wSeq, VL.wNext, VL.wNever, VL.wAsg, VL.wSet, VL.wVar, VL.wFrz, VL.wC, VL.wOp, VL.wTest, VL.wNotT, VL.wAndT, VL.wOrT, VL.wAnd, VL.wOr, VL.wNot, VL.wIf, VL.wNil, VL.wCons, VL.wTup, VL.wLst, VL.wStay, VL.wNew, VL.wPar, VL.wAug, VL.wDrop, VL.wRet, VL.wRetN, VL.wRet0, VL.wIfS, VL.wBrk, VL.wCnt, VL.wGt, VL.wGs, VL.wCB, VL.wCBN, VL.wCall, VL.wCallN, VL.wCallIo, VL.wCallIoN, VL.wCallK, VL.wIsi, VL.wIsi2, VL.wApp, VL.wExt, VL.wIns, VL.wSetIt, VL.wNoPart, VL.wPart, VL.wSl, VL.wSlN, VL.wChain, VL.wNeg, VL.wDnew, VL.wDput, VL.wDget, VL.wDin, VL.wDnin, VL.wIndex, VL.wRev, VL.wParNE, VL.wParEN, VL.wPar3, VL.wYes, VL.wSeqOf, VL.wRng1, VL.wRng2, VL.oI, VL.oI0, VL.oLt, VL.oLe, VL.oGt, VL.oGe, VL.oSub, VL.oMul, VL.oFdiv, VL.oMod, VL.oPow, VL.oShl', VL.oAbs, VL.oMax2, VL.oMin2, VL.oGcd, VL.atI_0, VL.atI_1, VL.atI_2, VL.ixN_20, VL.ixN_21, and_assoc, VL.shp_int, VL.shp_bool, VL.shp_none, VL.eqv_int, VL.eqv_bool, VL.isiD, VL.tyD, String.reduceBEq, Bool.not_true, Bool.not_false, Bool.and_true, Bool.and_false, Bool.true_and, Bool.false_and, Bool.or_true, Bool.or_false, Bool.true_or, Bool.false_or, decide_true, decide_false, Bool.not_eq_true', Bool.not_eq_eq_eq_not, decide_eq_true_eq, decide_eq_false_iff_not, VL.oInt1, VL.oInt2, VL.oLen, VL.oToInt, VL.oAdd, VL.oEq, VL.oNe, VL.oIsN, VL.oIn, VL.itemD, VL.isN, VL.der, VL.ders, VL.dats, VL.ioA, VL.endsV, VL.retE, VL.keepC, Option.map, List.range_succ, List.range_zero, List.map_cons, List.map_nil, List.map_append, List.nil_append, List.cons_append, List.append_nil, List.replicate_zero, List.replicate_succ, List.length_cons, List.length_nil, Nat.sub_self, List.getElem?_cons_zero, List.getElem?_cons_succ, List.set_cons_zero, List.set_cons_succ, Option.some.injEq, exists_eq_left', exists_eq_left, exists_eq_right, exists_and_left, exists_and_right, and_true, true_and, CV.d.injEq, CV.loc.injEq, Cell.lst.injEq, Cell.dat.injEq, Cell.dic.injEq, PyData.int.injEq, PyData.bool.injEq, PyData.list.injEq, PyData.tuple.injEq, PyData.str.injEq, reduceCtorEq, false_and, and_false, exists_false, false_or, or_false, if_true, if_false, reduceIte, Bool.false_eq_true, Nat.reduceAdd, Nat.reduceSub, Nat.succ_sub_succ, Nat.zero_add, VL.gP, List.filterMap_cons, List.filterMap_nil, List.cons.injEq, VL.wDisp0, VL.wDisp, VL.wPairs, VL.oLcm, VL.wPop, VL.wRevM, VL.wClearM, VL.wTupRg, VL.wListRg, VL.wR1, VL.wR2, VL.wRevN, VL.oRepT, VL.oRepL]
      exact ⟨_, rfl⟩
  · rintro ρ ⟨c1, c2, c3, rfl⟩
    rw [rng_len, hk]
    simp only [VL.wSeq, VL.wNext, VL.wNever, VL.wAsg, VL.wSet, VL.wVar, VL.wFrz, VL.wC, VL.wOp, VL.wTest, VL.wNotT, VL.wAndT, VL.wOrT, VL.wAnd, VL.wOr, VL.wNot, VL.wIf, VL.wNil, VL.wCons, VL.wTup, VL.wLst, VL.wStay, VL.wNew, VL.wPar, VL.wAug, VL.wDrop, VL.wRet, VL.wRetN, VL.wRet0, VL.wIfS, VL.wBrk, VL.wCnt, VL.wGt, VL.wGs, VL.wCB, VL.wCBN, VL.wCall, VL.wCallN, VL.wCallIo, VL.wCallIoN, VL.wCallK, VL.wIsi, VL.wIsi2, VL.wApp, VL.wExt, VL.wIns, VL.wSetIt, VL.wNoPart, VL.wPart, VL.wSl, VL.wSlN, VL.wChain, VL.wNeg, VL.wDnew, VL.wDput, VL.wDget, VL.wDin, VL.wDnin, VL.wIndex, VL.wRev, VL.wParNE, VL.wParEN, VL.wPar3, VL.wYes, VL.wSeqOf, VL.wRng1, VL.wRng2, VL.oI, VL.oI0, VL.oLt, VL.oLe, VL.oGt, VL.oGe, VL.oSub, VL.oMul, VL.oFdiv, VL.oMod, VL.oPow, VL.oShl', VL.oAbs, VL.oMax2, VL.oMin2, VL.oGcd, VL.atI_0, VL.atI_1, VL.atI_2, VL.ixN_20, VL.ixN_21, and_assoc, VL.shp_int, VL.shp_bool, VL.shp_none, VL.eqv_int, VL.eqv_bool, VL.isiD, VL.tyD, String.reduceBEq, Bool.not_true, Bool.not_false, Bool.and_true, Bool.and_false, Bool.true_and, Bool.false_and, Bool.or_true, Bool.or_false, Bool.true_or, Bool.false_or, decide_true, decide_false, Bool.not_eq_true', Bool.not_eq_eq_eq_not, decide_eq_true_eq, decide_eq_false_iff_not, VL.oInt1, VL.oInt2, VL.oLen, VL.oToInt, VL.oAdd, VL.oEq, VL.oNe, VL.oIsN, VL.oIn, VL.itemD, VL.isN, VL.der, VL.ders, VL.dats, VL.ioA, VL.endsV, VL.retE, VL.keepC, Option.map, List.range_succ, List.range_zero, List.map_cons, List.map_nil, List.map_append, List.nil_append, List.cons_append, List.append_nil, List.replicate_zero, List.replicate_succ, List.length_cons, List.length_nil, Nat.sub_self, List.getElem?_cons_zero, List.getElem?_cons_succ, List.set_cons_zero, List.set_cons_succ, Option.some.injEq, exists_eq_left', exists_eq_left, exists_eq_right, exists_and_left, exists_and_right, and_true, true_and, CV.d.injEq, CV.loc.injEq, Cell.lst.injEq, Cell.dat.injEq, Cell.dic.injEq, PyData.int.injEq, PyData.bool.injEq, PyData.list.injEq, PyData.tuple.injEq, PyData.str.injEq, reduceCtorEq, false_and, and_false, exists_false, false_or, or_false, if_true, if_false, reduceIte, Bool.false_eq_true, Nat.reduceAdd, Nat.reduceSub, Nat.succ_sub_succ, Nat.zero_add, VL.gP, List.filterMap_cons, List.filterMap_nil, List.cons.injEq, VL.wDisp0, VL.wDisp, VL.wPairs, VL.oLcm, VL.wPop, VL.wRevM, VL.wClearM, VL.wTupRg, VL.wListRg, VL.wR1, VL.wR2, VL.wRevN, VL.oRepT, VL.oRepL]
    exact h
theorem bits_eq {m k : Nat} (h1 : 2 ^ k ≤ m) (h2 : m < 2 ^ (k + 1)) : bitsN m = k + 1 := by
  have mp : m ≠ 0 := by
    have := Nat.two_pow_pos k
    omega
  unfold bitsN
  rw [if_neg mp]
  congr 1
  exact (Nat.log2_eq_iff mp).mpr ⟨h1, h2⟩
theorem lt_bits (m : Nat) : m < 2 ^ bitsN m := by
  unfold bitsN
  split
  · omega
  · exact Nat.lt_log2_self
/-- what the stretches ahead take -/
def tkn (m i : Nat) : List (List Int) := (((sqs m).take i).filter (bit m)).flatMap rows
theorem bit_iff {m a : Nat} : bit m a = true ↔ m / 2 ^ a % 2 = 1 := by simp [bit]
theorem tkn_succ {m i : Nat} (h : i < bitsN m) : tkn m (i + 1) = if bit m (bitsN m - 1 - i) = true then tkn m i ++ rows (bitsN m - 1 - i) else tkn m i := by
  have ll : i < (sqs m).length := by rw [sqs_len]; exact h
  have ft := filter_take (p := bit m) ll
  rw [sqs_at h] at ft
  unfold tkn
  rw [ft]
  split
  · rw [List.flatMap_append]
    simp
  · rfl
theorem tkn_len (m : Nat) : ∀ i : Nat, i ≤ bitsN m → (tkn m i).length + m % 2 ^ (bitsN m - i) = m
  | 0, _ => by
    show 0 + m % 2 ^ (bitsN m) = m
    rw [Nat.mod_eq_of_lt (lt_bits m), Nat.zero_add]
  | i + 1, h => by
    have ih := tkn_len m i (by omega)
    rw [tkn_succ (by omega)]
    have e : bitsN m - i = bitsN m - 1 - i + 1 := by omega
    have e2 : bitsN m - (i + 1) = bitsN m - 1 - i := by omega
    rw [e, Nat.mod_pow_succ] at ih
    rw [e2]
    split
    · rename_i q
      rw [bit_iff.mp q] at ih
      rw [List.length_append, rows_len]
      omega
    · rename_i q
      have : m / 2 ^ (bitsN m - 1 - i) % 2 = 0 := by
        have : ¬ m / 2 ^ (bitsN m - 1 - i) % 2 = 1 := fun z => q (bit_iff.mpr z)
        omega
      rw [this] at ih
      omega
theorem tkn_test {m i : Nat} (h : i < bitsN m) : (2 ^ (bitsN m - 1 - i) ≤ m - (tkn m i).length) ↔ bit m (bitsN m - 1 - i) = true := by
  have e0 := tkn_len m i (by omega)
  have e : bitsN m - i = bitsN m - 1 - i + 1 := by omega
  rw [e, Nat.mod_pow_succ] at e0
  have l : m % 2 ^ (bitsN m - 1 - i) < 2 ^ (bitsN m - 1 - i) := Nat.mod_lt _ (Nat.two_pow_pos _)
  rw [bit_iff]
  have c : m / 2 ^ (bitsN m - 1 - i) % 2 = 0 ∨ m / 2 ^ (bitsN m - 1 - i) % 2 = 1 := by omega
  rcases c with c | c <;> rw [c] at e0 ⊢ <;> omega
theorem tkn_all (m : Nat) : tkn m (bitsN m) = best m := by
  unfold tkn best stps
  rw [List.take_of_length_le (by rw [sqs_len]; exact Nat.le_refl _)]
theorem half_pow (a : Nat) : (if (2 ^ a : Nat) / 2 > 1 then (2 ^ a : Nat) / 2 else 1) = 2 ^ (a - 1) := by
  cases a with
  | zero => rfl
  | succ a =>
    rw [Nat.pow_succ, Nat.mul_div_cancel _ (by decide), Nat.add_sub_cancel]
    have := Nat.two_pow_pos a
    split <;> omega
theorem whi_body {c : WT} {tb : WS} {w : WEn} {ρ : En} (h : ∀ B : WS, (∀ w' ρ', B w' ρ' = tb w' ρ') → wWhile c B w ρ) : wWhile c tb w ρ := h tb fun _ _ => rfl
theorem h__law_best (ρ : En) (Q : RV → En → Prop) (h : S__law_best ρ Q) : t__law_best (endsV 1 Q) (ρ ++ List.replicate (7 - 1) .un) := by
  obtain ⟨ds, rfl, h0, h1, h⟩ := h
  unfold t__law_best
  generalize hm : ds.length = m at *
  have sz := sz16
  refine seq_gen fun k hk => ?_
  simp only [VL.wSeq, VL.wNext, VL.wNever, VL.wAsg, VL.wSet, VL.wVar, VL.wFrz, VL.wC, VL.wOp, VL.wTest, VL.wNotT, VL.wAndT, VL.wOrT, VL.wAnd, VL.wOr, VL.wNot, VL.wIf, VL.wNil, VL.wCons, VL.wTup, VL.wLst, VL.wStay, VL.wNew, VL.wPar, VL.wAug, VL.wDrop, VL.wRet, VL.wRetN, VL.wRet0, VL.wIfS, VL.wBrk, VL.wCnt, VL.wGt, VL.wGs, VL.wCB, VL.wCBN, VL.wCall, VL.wCallN, VL.wCallIo, VL.wCallIoN, VL.wCallK, VL.wIsi, VL.wIsi2, VL.wApp, VL.wExt, VL.wIns, VL.wSetIt, VL.wNoPart, VL.wPart, VL.wSl, VL.wSlN, VL.wChain, VL.wNeg, VL.wDnew, VL.wDput, VL.wDget, VL.wDin, VL.wDnin, VL.wIndex, VL.wRev, VL.wParNE, VL.wParEN, VL.wPar3, VL.wYes, VL.wSeqOf, VL.wRng1, VL.wRng2, VL.oI, VL.oI0, VL.oLt, VL.oLe, VL.oGt, VL.oGe, VL.oSub, VL.oMul, VL.oFdiv, VL.oMod, VL.oPow, VL.oShl', VL.oAbs, VL.oMax2, VL.oMin2, VL.oGcd, VL.atI_0, VL.atI_1, VL.atI_2, VL.ixN_20, VL.ixN_21, and_assoc, VL.shp_int, VL.shp_bool, VL.shp_none, VL.eqv_int, VL.eqv_bool, VL.isiD, VL.tyD, String.reduceBEq, Bool.not_true, Bool.not_false, Bool.and_true, Bool.and_false, Bool.true_and, Bool.false_and, Bool.or_true, Bool.or_false, Bool.true_or, Bool.false_or, decide_true, decide_false, Bool.not_eq_true', Bool.not_eq_eq_eq_not, decide_eq_true_eq, decide_eq_false_iff_not, VL.oInt1, VL.oInt2, VL.oLen, VL.oToInt, VL.oAdd, VL.oEq, VL.oNe, VL.oIsN, VL.oIn, VL.itemD, VL.isN, VL.der, VL.ders, VL.dats, VL.ioA, VL.endsV, VL.retE, VL.keepC, Option.map, List.range_succ, List.range_zero, List.map_cons, List.map_nil, List.map_append, List.nil_append, List.cons_append, List.append_nil, List.replicate_zero, List.replicate_succ, List.length_cons, List.length_nil, Nat.sub_self, List.getElem?_cons_zero, List.getElem?_cons_succ, List.set_cons_zero, List.set_cons_succ, Option.some.injEq, exists_eq_left', exists_eq_left, exists_eq_right, exists_and_left, exists_and_right, and_true, true_and, CV.d.injEq, CV.loc.injEq, Cell.lst.injEq, Cell.dat.injEq, Cell.dic.injEq, PyData.int.injEq, PyData.bool.injEq, PyData.list.injEq, PyData.tuple.injEq, PyData.str.injEq, reduceCtorEq, false_and, and_false, exists_false, false_or, or_false, if_true, if_false, reduceIte, Bool.false_eq_true, Nat.reduceAdd, Nat.reduceSub, Nat.succ_sub_succ, Nat.zero_add, VL.gP, List.filterMap_cons, List.filterMap_nil, List.cons.injEq, VL.wDisp0, VL.wDisp, VL.wPairs, VL.oLcm, VL.wPop, VL.wRevM, VL.wClearM, VL.wTupRg, VL.wListRg, VL.wR1, VL.wR2, VL.wRevN, VL.oRepT, VL.oRepL]
  refine ⟨by omega, ?_⟩
  rw [hk]
  clear hk k
  refine seq_gen fun k hk => ?_
  simp only [VL.wSeq, VL.wNext, VL.wNever, VL.wAsg, VL.wSet, VL.wVar, VL.wFrz, VL.wC, VL.wOp, VL.wTest, VL.wNotT, VL.wAndT, VL.wOrT, VL.wAnd, VL.wOr, VL.wNot, VL.wIf, VL.wNil, VL.wCons, VL.wTup, VL.wLst, VL.wStay, VL.wNew, VL.wPar, VL.wAug, VL.wDrop, VL.wRet, VL.wRetN, VL.wRet0, VL.wIfS, VL.wBrk, VL.wCnt, VL.wGt, VL.wGs, VL.wCB, VL.wCBN, VL.wCall, VL.wCallN, VL.wCallIo, VL.wCallIoN, VL.wCallK, VL.wIsi, VL.wIsi2, VL.wApp, VL.wExt, VL.wIns, VL.wSetIt, VL.wNoPart, VL.wPart, VL.wSl, VL.wSlN, VL.wChain, VL.wNeg, VL.wDnew, VL.wDput, VL.wDget, VL.wDin, VL.wDnin, VL.wIndex, VL.wRev, VL.wParNE, VL.wParEN, VL.wPar3, VL.wYes, VL.wSeqOf, VL.wRng1, VL.wRng2, VL.oI, VL.oI0, VL.oLt, VL.oLe, VL.oGt, VL.oGe, VL.oSub, VL.oMul, VL.oFdiv, VL.oMod, VL.oPow, VL.oShl', VL.oAbs, VL.oMax2, VL.oMin2, VL.oGcd, VL.atI_0, VL.atI_1, VL.atI_2, VL.ixN_20, VL.ixN_21, and_assoc, VL.shp_int, VL.shp_bool, VL.shp_none, VL.eqv_int, VL.eqv_bool, VL.isiD, VL.tyD, String.reduceBEq, Bool.not_true, Bool.not_false, Bool.and_true, Bool.and_false, Bool.true_and, Bool.false_and, Bool.or_true, Bool.or_false, Bool.true_or, Bool.false_or, decide_true, decide_false, Bool.not_eq_true', Bool.not_eq_eq_eq_not, decide_eq_true_eq, decide_eq_false_iff_not, VL.oInt1, VL.oInt2, VL.oLen, VL.oToInt, VL.oAdd, VL.oEq, VL.oNe, VL.oIsN, VL.oIn, VL.itemD, VL.isN, VL.der, VL.ders, VL.dats, VL.ioA, VL.endsV, VL.retE, VL.keepC, Option.map, List.range_succ, List.range_zero, List.map_cons, List.map_nil, List.map_append, List.nil_append, List.cons_append, List.append_nil, List.replicate_zero, List.replicate_succ, List.length_cons, List.length_nil, Nat.sub_self, List.getElem?_cons_zero, List.getElem?_cons_succ, List.set_cons_zero, List.set_cons_succ, Option.some.injEq, exists_eq_left', exists_eq_left, exists_eq_right, exists_and_left, exists_and_right, and_true, true_and, CV.d.injEq, CV.loc.injEq, Cell.lst.injEq, Cell.dat.injEq, Cell.dic.injEq, PyData.int.injEq, PyData.bool.injEq, PyData.list.injEq, PyData.tuple.injEq, PyData.str.injEq, reduceCtorEq, false_and, and_false, exists_false, false_or, or_false, if_true, if_false, reduceIte, Bool.false_eq_true, Nat.reduceAdd, Nat.reduceSub, Nat.succ_sub_succ, Nat.zero_add, VL.gP, List.filterMap_cons, List.filterMap_nil, List.cons.injEq, VL.wDisp0, VL.wDisp, VL.wPairs, VL.oLcm, VL.wPop, VL.wRevM, VL.wClearM, VL.wTupRg, VL.wListRg, VL.wR1, VL.wR2, VL.wRevN, VL.oRepT, VL.oRepL, wWhile]
  refine ⟨fun z ρ => ∃ j : Nat, ρ = [.dat (.list ds), .un, .dat (.list []), .dat (.int (2 ^ j : Nat)), .un, .un, .un] ∧ 2 ^ j ≤ m ∧ z = m - 2 ^ j, ⟨_, 0, rfl, by rw [Nat.pow_zero]; omega, rfl⟩, ?_⟩
  rintro z ρ ⟨j, rfl, hj, rfl⟩
  simp only [VL.wSeq, VL.wNext, VL.wNever, VL.wAsg, VL.wSet, VL.wVar, VL.wFrz, VL.wC, VL.wOp, VL.wTest, VL.wNotT, VL.wAndT, VL.wOrT, VL.wAnd, VL.wOr, VL.wNot, VL.wIf, VL.wNil, VL.wCons, VL.wTup, VL.wLst, VL.wStay, VL.wNew, VL.wPar, VL.wAug, VL.wDrop, VL.wRet, VL.wRetN, VL.wRet0, VL.wIfS, VL.wBrk, VL.wCnt, VL.wGt, VL.wGs, VL.wCB, VL.wCBN, VL.wCall, VL.wCallN, VL.wCallIo, VL.wCallIoN, VL.wCallK, VL.wIsi, VL.wIsi2, VL.wApp, VL.wExt, VL.wIns, VL.wSetIt, VL.wNoPart, VL.wPart, VL.wSl, VL.wSlN, VL.wChain, VL.wNeg, VL.wDnew, VL.wDput, VL.wDget, VL.wDin, VL.wDnin, VL.wIndex, VL.wRev, VL.wParNE, VL.wParEN, VL.wPar3, VL.wYes, VL.wSeqOf, VL.wRng1, VL.wRng2, VL.oI, VL.oI0, VL.oLt, VL.oLe, VL.oGt, VL.oGe, VL.oSub, VL.oMul, VL.oFdiv, VL.oMod, VL.oPow, VL.oShl', VL.oAbs, VL.oMax2, VL.oMin2, VL.oGcd, VL.atI_0, VL.atI_1, VL.atI_2, VL.ixN_20, VL.ixN_21, and_assoc, VL.shp_int, VL.shp_bool, VL.shp_none, VL.eqv_int, VL.eqv_bool, VL.isiD, VL.tyD, String.reduceBEq, Bool.not_true, Bool.not_false, Bool.and_true, Bool.and_false, Bool.true_and, Bool.false_and, Bool.or_true, Bool.or_false, Bool.true_or, Bool.false_or, decide_true, decide_false, Bool.not_eq_true', Bool.not_eq_eq_eq_not, decide_eq_true_eq, decide_eq_false_iff_not, VL.oInt1, VL.oInt2, VL.oLen, VL.oToInt, VL.oAdd, VL.oEq, VL.oNe, VL.oIsN, VL.oIn, VL.itemD, VL.isN, VL.der, VL.ders, VL.dats, VL.ioA, VL.endsV, VL.retE, VL.keepC, Option.map, List.range_succ, List.range_zero, List.map_cons, List.map_nil, List.map_append, List.nil_append, List.cons_append, List.append_nil, List.replicate_zero, List.replicate_succ, List.length_cons, List.length_nil, Nat.sub_self, List.getElem?_cons_zero, List.getElem?_cons_succ, List.set_cons_zero, List.set_cons_succ, Option.some.injEq, exists_eq_left', exists_eq_left, exists_eq_right, exists_and_left, exists_and_right, and_true, true_and, CV.d.injEq, CV.loc.injEq, Cell.lst.injEq, Cell.dat.injEq, Cell.dic.injEq, PyData.int.injEq, PyData.bool.injEq, PyData.list.injEq, PyData.tuple.injEq, PyData.str.injEq, reduceCtorEq, false_and, and_false, exists_false, false_or, or_false, if_true, if_false, reduceIte, Bool.false_eq_true, Nat.reduceAdd, Nat.reduceSub, Nat.succ_sub_succ, Nat.zero_add, VL.gP, List.filterMap_cons, List.filterMap_nil, List.cons.injEq, VL.wDisp0, VL.wDisp, VL.wPairs, VL.oLcm, VL.wPop, VL.wRevM, VL.wClearM, VL.wTupRg, VL.wListRg, VL.wR1, VL.wR2, VL.wRevN, VL.oRepT, VL.oRepL, hm]
  have pj : (2 : Nat) ^ j ≤ 1000 := by omega
  have ck : COk 2 ((2 ^ j : Nat) : Int) := cokn (by decide) (by decide) (Int.natCast_nonneg _) (Int.lt_trans (show ((2 ^ j : Nat) : Int) < 2 ^ 20 by omega) (by decide))
  refine ⟨ck, ?_⟩
  by_cases g : 2 * 2 ^ j ≤ m
  · rw [if_pos (by omega)]
    exact ⟨ck, m - 2 ^ (j + 1), by rw [Nat.pow_succ]; have := Nat.two_pow_pos j; omega, j + 1, by rw [Nat.pow_succ]; omega, by rw [Nat.pow_succ]; omega, rfl⟩
  rw [if_neg (by omega), hk]
  clear hk k
  have bm : bitsN m = j + 1 := bits_eq hj (by rw [Nat.pow_succ]; omega)
  have bl := bits_le h1
  refine seq_gen fun k hk => ?_
  refine for_body fun B hB => ?_
  unfold wFor
  simp only [VL.wSeq, VL.wNext, VL.wNever, VL.wAsg, VL.wSet, VL.wVar, VL.wFrz, VL.wC, VL.wOp, VL.wTest, VL.wNotT, VL.wAndT, VL.wOrT, VL.wAnd, VL.wOr, VL.wNot, VL.wIf, VL.wNil, VL.wCons, VL.wTup, VL.wLst, VL.wStay, VL.wNew, VL.wPar, VL.wAug, VL.wDrop, VL.wRet, VL.wRetN, VL.wRet0, VL.wIfS, VL.wBrk, VL.wCnt, VL.wGt, VL.wGs, VL.wCB, VL.wCBN, VL.wCall, VL.wCallN, VL.wCallIo, VL.wCallIoN, VL.wCallK, VL.wIsi, VL.wIsi2, VL.wApp, VL.wExt, VL.wIns, VL.wSetIt, VL.wNoPart, VL.wPart, VL.wSl, VL.wSlN, VL.wChain, VL.wNeg, VL.wDnew, VL.wDput, VL.wDget, VL.wDin, VL.wDnin, VL.wIndex, VL.wRev, VL.wParNE, VL.wParEN, VL.wPar3, VL.wYes, VL.wSeqOf, VL.wRng1, VL.wRng2, VL.oI, VL.oI0, VL.oLt, VL.oLe, VL.oGt, VL.oGe, VL.oSub, VL.oMul, VL.oFdiv, VL.oMod, VL.oPow, VL.oShl', VL.oAbs, VL.oMax2, VL.oMin2, VL.oGcd, VL.atI_0, VL.atI_1, VL.atI_2, VL.ixN_20, VL.ixN_21, and_assoc, VL.shp_int, VL.shp_bool, VL.shp_none, VL.eqv_int, VL.eqv_bool, VL.isiD, VL.tyD, String.reduceBEq, Bool.not_true, Bool.not_false, Bool.and_true, Bool.and_false, Bool.true_and, Bool.false_and, Bool.or_true, Bool.or_false, Bool.true_or, Bool.false_or, decide_true, decide_false, Bool.not_eq_true', Bool.not_eq_eq_eq_not, decide_eq_true_eq, decide_eq_false_iff_not, VL.oInt1, VL.oInt2, VL.oLen, VL.oToInt, VL.oAdd, VL.oEq, VL.oNe, VL.oIsN, VL.oIn, VL.itemD, VL.isN, VL.der, VL.ders, VL.dats, VL.ioA, VL.endsV, VL.retE, VL.keepC, Option.map, List.range_succ, List.range_zero, List.map_cons, List.map_nil, List.map_append, List.nil_append, List.cons_append, List.append_nil, List.replicate_zero, List.replicate_succ, List.length_cons, List.length_nil, Nat.sub_self, List.getElem?_cons_zero, List.getElem?_cons_succ, List.set_cons_zero, List.set_cons_succ, Option.some.injEq, exists_eq_left', exists_eq_left, exists_eq_right, exists_and_left, exists_and_right, and_true, true_and, CV.d.injEq, CV.loc.injEq, Cell.lst.injEq, Cell.dat.injEq, Cell.dic.injEq, PyData.int.injEq, PyData.bool.injEq, PyData.list.injEq, PyData.tuple.injEq, PyData.str.injEq, reduceCtorEq, false_and, and_false, exists_false, false_or, or_false, if_true, if_false, reduceIte, Bool.false_eq_true, Nat.reduceAdd, Nat.reduceSub, Nat.succ_sub_succ, Nat.zero_add, VL.gP, List.filterMap_cons, List.filterMap_nil, List.cons.injEq, VL.wDisp0, VL.wDisp, VL.wPairs, VL.oLcm, VL.wPop, VL.wRevM, VL.wClearM, VL.wTupRg, VL.wListRg, VL.wR1, VL.wR2, VL.wRevN, VL.oRepT, VL.oRepL, wBits, hm]
  refine ⟨m, rfl, ⟨by omega, by omega⟩, fun i ρ => ∃ c1 c4 c5 c6, ρ = [.dat (.list ds), c1, .dat (.list (rowsD (tkn m i))), .dat (.int (2 ^ (bitsN m - 1 - i) : Nat)), c4, c5, c6], ⟨_, _, _, _, by rw [bm]; rfl⟩, ?_, ?_⟩
  · rintro i ρ d ⟨c1, c4, c5, c6, rfl⟩ hx
    obtain ⟨rfl, hi⟩ := rng_at hx
    simp only [VL.wSeq, VL.wNext, VL.wNever, VL.wAsg, VL.wSet, VL.wVar, VL.wFrz, VL.wC, VL.wOp, VL.wTest, VL.wNotT, VL.wAndT, VL.wOrT, VL.wAnd, VL.wOr, VL.wNot, VL.wIf, VL.wNil, VL.wCons, VL.wTup, VL.wLst, VL.wStay, VL.wNew, VL.wPar, VL.wAug, VL.wDrop, VL.wRet, VL.wRetN, VL.wRet0, VL.wIfS, VL.wBrk, VL.wCnt, VL.wGt, VL.wGs, VL.wCB, VL.wCBN, VL.wCall, VL.wCallN, VL.wCallIo, VL.wCallIoN, VL.wCallK, VL.wIsi, VL.wIsi2, VL.wApp, VL.wExt, VL.wIns, VL.wSetIt, VL.wNoPart, VL.wPart, VL.wSl, VL.wSlN, VL.wChain, VL.wNeg, VL.wDnew, VL.wDput, VL.wDget, VL.wDin, VL.wDnin, VL.wIndex, VL.wRev, VL.wParNE, VL.wParEN, VL.wPar3, VL.wYes, VL.wSeqOf, VL.wRng1, VL.wRng2, VL.oI, VL.oI0, VL.oLt, VL.oLe, VL.oGt, VL.oGe, VL.oSub, VL.oMul, VL.oFdiv, VL.oMod, VL.oPow, VL.oShl', VL.oAbs, VL.oMax2, VL.oMin2, VL.oGcd, VL.atI_0, VL.atI_1, VL.atI_2, VL.ixN_20, VL.ixN_21, and_assoc, VL.shp_int, VL.shp_bool, VL.shp_none, VL.eqv_int, VL.eqv_bool, VL.isiD, VL.tyD, String.reduceBEq, Bool.not_true, Bool.not_false, Bool.and_true, Bool.and_false, Bool.true_and, Bool.false_and, Bool.or_true, Bool.or_false, Bool.true_or, Bool.false_or, decide_true, decide_false, Bool.not_eq_true', Bool.not_eq_eq_eq_not, decide_eq_true_eq, decide_eq_false_iff_not, VL.oInt1, VL.oInt2, VL.oLen, VL.oToInt, VL.oAdd, VL.oEq, VL.oNe, VL.oIsN, VL.oIn, VL.itemD, VL.isN, VL.der, VL.ders, VL.dats, VL.ioA, VL.endsV, VL.retE, VL.keepC, Option.map, List.range_succ, List.range_zero, List.map_cons, List.map_nil, List.map_append, List.nil_append, List.cons_append, List.append_nil, List.replicate_zero, List.replicate_succ, List.length_cons, List.length_nil, Nat.sub_self, List.getElem?_cons_zero, List.getElem?_cons_succ, List.set_cons_zero, List.set_cons_succ, Option.some.injEq, exists_eq_left', exists_eq_left, exists_eq_right, exists_and_left, exists_and_right, and_true, true_and, CV.d.injEq, CV.loc.injEq, Cell.lst.injEq, Cell.dat.injEq, Cell.dic.injEq, PyData.int.injEq, PyData.bool.injEq, PyData.list.injEq, PyData.tuple.injEq, PyData.str.injEq, reduceCtorEq, false_and, and_false, exists_false, false_or, or_false, if_true, if_false, reduceIte, Bool.false_eq_true, Nat.reduceAdd, Nat.reduceSub, Nat.succ_sub_succ, Nat.zero_add, VL.gP, List.filterMap_cons, List.filterMap_nil, List.cons.injEq, VL.wDisp0, VL.wDisp, VL.wPairs, VL.oLcm, VL.wPop, VL.wRevM, VL.wClearM, VL.wTupRg, VL.wListRg, VL.wR1, VL.wR2, VL.wRevN, VL.oRepT, VL.oRepL]
    rw [hB]
    have e0 := tkn_len m i (by omega)
    have pa : (2 : Nat) ^ (bitsN m - 1 - i) ≤ 2 ^ j := Nat.pow_le_pow_right (by decide) (by omega)
    have fin : ∀ (l : List (List Int)) (c4 c5 c6 : Cell), l = tkn m (i + 1) → (wAsg (wCB oMax2 (wCons (wC (.int 1)) (wCons (wOp oFdiv (wVar 3) (wC (.int 2))) wNil))) (wSet 3)) { endsV 1 Q with nx := fun ρ => ∃ c1 c4 c5 c6, ρ = [.dat (.list ds), c1, .dat (.list (rowsD (tkn m (i + 1)))), .dat (.int (2 ^ (bitsN m - 1 - (i + 1)) : Nat)), c4, c5, c6], ct := fun ρ => ∃ c1 c4 c5 c6, ρ = [.dat (.list ds), c1, .dat (.list (rowsD (tkn m (i + 1)))), .dat (.int (2 ^ (bitsN m - 1 - (i + 1)) : Nat)), c4, c5, c6], bk := k }
        [.dat (.list ds), .dat (.int i), .dat (.list (rowsD l)), .dat (.int (2 ^ (bitsN m - 1 - i) : Nat)), c4, c5, c6] := fun l c4 c5 c6 el => by
      subst el
      simp only [VL.wSeq, VL.wNext, VL.wNever, VL.wAsg, VL.wSet, VL.wVar, VL.wFrz, VL.wC, VL.wOp, VL.wTest, VL.wNotT, VL.wAndT, VL.wOrT, VL.wAnd, VL.wOr, VL.wNot, VL.wIf, VL.wNil, VL.wCons, VL.wTup, VL.wLst, VL.wStay, VL.wNew, VL.wPar, VL.wAug, VL.wDrop, VL.wRet, VL.wRetN, VL.wRet0, VL.wIfS, VL.wBrk, VL.wCnt, VL.wGt, VL.wGs, VL.wCB, VL.wCBN, VL.wCall, VL.wCallN, VL.wCallIo, VL.wCallIoN, VL.wCallK, VL.wIsi, VL.wIsi2, VL.wApp, VL.wExt, VL.wIns, VL.wSetIt, VL.wNoPart, VL.wPart, VL.wSl, VL.wSlN, VL.wChain, VL.wNeg, VL.wDnew, VL.wDput, VL.wDget, VL.wDin, VL.wDnin, VL.wIndex, VL.wRev, VL.wParNE, VL.wParEN, VL.wPar3, VL.wYes, VL.wSeqOf, VL.wRng1, VL.wRng2, VL.oI, VL.oI0, VL.oLt, VL.oLe, VL.oGt, VL.oGe, VL.oSub, VL.oMul, VL.oFdiv, VL.oMod, VL.oPow, VL.oShl', VL.oAbs, VL.oMax2, VL.oMin2, VL.oGcd, VL.atI_0, VL.atI_1, VL.atI_2, VL.ixN_20, VL.ixN_21, and_assoc, VL.shp_int, VL.shp_bool, VL.shp_none, VL.eqv_int, VL.eqv_bool, VL.isiD, VL.tyD, String.reduceBEq, Bool.not_true, Bool.not_false, Bool.and_true, Bool.and_false, Bool.true_and, Bool.false_and, Bool.or_true, Bool.or_false, Bool.true_or, Bool.false_or, decide_true, decide_false, Bool.not_eq_true', Bool.not_eq_eq_eq_not, decide_eq_true_eq, decide_eq_false_iff_not, VL.oInt1, VL.oInt2, VL.oLen, VL.oToInt, VL.oAdd, VL.oEq, VL.oNe, VL.oIsN, VL.oIn, VL.itemD, VL.isN, VL.der, VL.ders, VL.dats, VL.ioA, VL.endsV, VL.retE, VL.keepC, Option.map, List.range_succ, List.range_zero, List.map_cons, List.map_nil, List.map_append, List.nil_append, List.cons_append, List.append_nil, List.replicate_zero, List.replicate_succ, List.length_cons, List.length_nil, Nat.sub_self, List.getElem?_cons_zero, List.getElem?_cons_succ, List.set_cons_zero, List.set_cons_succ, Option.some.injEq, exists_eq_left', exists_eq_left, exists_eq_right, exists_and_left, exists_and_right, and_true, true_and, CV.d.injEq, CV.loc.injEq, Cell.lst.injEq, Cell.dat.injEq, Cell.dic.injEq, PyData.int.injEq, PyData.bool.injEq, PyData.list.injEq, PyData.tuple.injEq, PyData.str.injEq, reduceCtorEq, false_and, and_false, exists_false, false_or, or_false, if_true, if_false, reduceIte, Bool.false_eq_true, Nat.reduceAdd, Nat.reduceSub, Nat.succ_sub_succ, Nat.zero_add, VL.gP, List.filterMap_cons, List.filterMap_nil, List.cons.injEq, VL.wDisp0, VL.wDisp, VL.wPairs, VL.oLcm, VL.wPop, VL.wRevM, VL.wClearM, VL.wTupRg, VL.wListRg, VL.wR1, VL.wR2, VL.wRevN, VL.oRepT, VL.oRepL]
      refine ⟨cdv_pos (by decide) (small_bd (by decide) (by decide)), ?_, _, rfl⟩
      have e2 : ((2 ^ (bitsN m - 1 - i) : Nat) : Int).fdiv 2 = (((2 ^ (bitsN m - 1 - i) : Nat) / 2 : Nat) : Int) := by
        rw [Int.fdiv_eq_ediv_of_nonneg _ (by decide)]
        rfl
      rw [e2]
      have hp := half_pow (bitsN m - 1 - i)
      rw [show bitsN m - 1 - (i + 1) = bitsN m - 1 - i - 1 by omega, ← hp]
      split <;> split <;> first | rfl | omega
    refine seq_gen fun k2 hk2 => ?_
    refine ifs_gen fun X Y hX hY => ?_
    simp only [VL.wSeq, VL.wNext, VL.wNever, VL.wAsg, VL.wSet, VL.wVar, VL.wFrz, VL.wC, VL.wOp, VL.wTest, VL.wNotT, VL.wAndT, VL.wOrT, VL.wAnd, VL.wOr, VL.wNot, VL.wIf, VL.wNil, VL.wCons, VL.wTup, VL.wLst, VL.wStay, VL.wNew, VL.wPar, VL.wAug, VL.wDrop, VL.wRet, VL.wRetN, VL.wRet0, VL.wIfS, VL.wBrk, VL.wCnt, VL.wGt, VL.wGs, VL.wCB, VL.wCBN, VL.wCall, VL.wCallN, VL.wCallIo, VL.wCallIoN, VL.wCallK, VL.wIsi, VL.wIsi2, VL.wApp, VL.wExt, VL.wIns, VL.wSetIt, VL.wNoPart, VL.wPart, VL.wSl, VL.wSlN, VL.wChain, VL.wNeg, VL.wDnew, VL.wDput, VL.wDget, VL.wDin, VL.wDnin, VL.wIndex, VL.wRev, VL.wParNE, VL.wParEN, VL.wPar3, VL.wYes, VL.wSeqOf, VL.wRng1, VL.wRng2, VL.oI, VL.oI0, VL.oLt, VL.oLe, VL.oGt, VL.oGe, VL.oSub, VL.oMul, VL.oFdiv, VL.oMod, VL.oPow, VL.oShl', VL.oAbs, VL.oMax2, VL.oMin2, VL.oGcd, VL.atI_0, VL.atI_1, VL.atI_2, VL.ixN_20, VL.ixN_21, and_assoc, VL.shp_int, VL.shp_bool, VL.shp_none, VL.eqv_int, VL.eqv_bool, VL.isiD, VL.tyD, String.reduceBEq, Bool.not_true, Bool.not_false, Bool.and_true, Bool.and_false, Bool.true_and, Bool.false_and, Bool.or_true, Bool.or_false, Bool.true_or, Bool.false_or, decide_true, decide_false, Bool.not_eq_true', Bool.not_eq_eq_eq_not, decide_eq_true_eq, decide_eq_false_iff_not, VL.oInt1, VL.oInt2, VL.oLen, VL.oToInt, VL.oAdd, VL.oEq, VL.oNe, VL.oIsN, VL.oIn, VL.itemD, VL.isN, VL.der, VL.ders, VL.dats, VL.ioA, VL.endsV, VL.retE, VL.keepC, Option.map, List.range_succ, List.range_zero, List.map_cons, List.map_nil, List.map_append, List.nil_append, List.cons_append, List.append_nil, List.replicate_zero, List.replicate_succ, List.length_cons, List.length_nil, Nat.sub_self, List.getElem?_cons_zero, List.getElem?_cons_succ, List.set_cons_zero, List.set_cons_succ, Option.some.injEq, exists_eq_left', exists_eq_left, exists_eq_right, exists_and_left, exists_and_right, and_true, true_and, CV.d.injEq, CV.loc.injEq, Cell.lst.injEq, Cell.dat.injEq, Cell.dic.injEq, PyData.int.injEq, PyData.bool.injEq, PyData.list.injEq, PyData.tuple.injEq, PyData.str.injEq, reduceCtorEq, false_and, and_false, exists_false, false_or, or_false, if_true, if_false, reduceIte, Bool.false_eq_true, Nat.reduceAdd, Nat.reduceSub, Nat.succ_sub_succ, Nat.zero_add, VL.gP, List.filterMap_cons, List.filterMap_nil, List.cons.injEq, VL.wDisp0, VL.wDisp, VL.wPairs, VL.oLcm, VL.wPop, VL.wRevM, VL.wClearM, VL.wTupRg, VL.wListRg, VL.wR1, VL.wR2, VL.wRevN, VL.oRepT, VL.oRepL, hm, rowsD_len]
    by_cases q : bit m (bitsN m - 1 - i) = true
    · have q2 := (tkn_test (m := m) (by omega)).mpr q
      rw [if_pos (by omega), hX]
      clear hX hY X Y
      refine seq_gen fun k3 hk3 => ?_
      simp only [VL.wSeq, VL.wNext, VL.wNever, VL.wAsg, VL.wSet, VL.wVar, VL.wFrz, VL.wC, VL.wOp, VL.wTest, VL.wNotT, VL.wAndT, VL.wOrT, VL.wAnd, VL.wOr, VL.wNot, VL.wIf, VL.wNil, VL.wCons, VL.wTup, VL.wLst, VL.wStay, VL.wNew, VL.wPar, VL.wAug, VL.wDrop, VL.wRet, VL.wRetN, VL.wRet0, VL.wIfS, VL.wBrk, VL.wCnt, VL.wGt, VL.wGs, VL.wCB, VL.wCBN, VL.wCall, VL.wCallN, VL.wCallIo, VL.wCallIoN, VL.wCallK, VL.wIsi, VL.wIsi2, VL.wApp, VL.wExt, VL.wIns, VL.wSetIt, VL.wNoPart, VL.wPart, VL.wSl, VL.wSlN, VL.wChain, VL.wNeg, VL.wDnew, VL.wDput, VL.wDget, VL.wDin, VL.wDnin, VL.wIndex, VL.wRev, VL.wParNE, VL.wParEN, VL.wPar3, VL.wYes, VL.wSeqOf, VL.wRng1, VL.wRng2, VL.oI, VL.oI0, VL.oLt, VL.oLe, VL.oGt, VL.oGe, VL.oSub, VL.oMul, VL.oFdiv, VL.oMod, VL.oPow, VL.oShl', VL.oAbs, VL.oMax2, VL.oMin2, VL.oGcd, VL.atI_0, VL.atI_1, VL.atI_2, VL.ixN_20, VL.ixN_21, and_assoc, VL.shp_int, VL.shp_bool, VL.shp_none, VL.eqv_int, VL.eqv_bool, VL.isiD, VL.tyD, String.reduceBEq, Bool.not_true, Bool.not_false, Bool.and_true, Bool.and_false, Bool.true_and, Bool.false_and, Bool.or_true, Bool.or_false, Bool.true_or, Bool.false_or, decide_true, decide_false, Bool.not_eq_true', Bool.not_eq_eq_eq_not, decide_eq_true_eq, decide_eq_false_iff_not, VL.oInt1, VL.oInt2, VL.oLen, VL.oToInt, VL.oAdd, VL.oEq, VL.oNe, VL.oIsN, VL.oIn, VL.itemD, VL.isN, VL.der, VL.ders, VL.dats, VL.ioA, VL.endsV, VL.retE, VL.keepC, Option.map, List.range_succ, List.range_zero, List.map_cons, List.map_nil, List.map_append, List.nil_append, List.cons_append, List.append_nil, List.replicate_zero, List.replicate_succ, List.length_cons, List.length_nil, Nat.sub_self, List.getElem?_cons_zero, List.getElem?_cons_succ, List.set_cons_zero, List.set_cons_succ, Option.some.injEq, exists_eq_left', exists_eq_left, exists_eq_right, exists_and_left, exists_and_right, and_true, true_and, CV.d.injEq, CV.loc.injEq, Cell.lst.injEq, Cell.dat.injEq, Cell.dic.injEq, PyData.int.injEq, PyData.bool.injEq, PyData.list.injEq, PyData.tuple.injEq, PyData.str.injEq, reduceCtorEq, false_and, and_false, exists_false, false_or, or_false, if_true, if_false, reduceIte, Bool.false_eq_true, Nat.reduceAdd, Nat.reduceSub, Nat.succ_sub_succ, Nat.zero_add, VL.gP, List.filterMap_cons, List.filterMap_nil, List.cons.injEq, VL.wDisp0, VL.wDisp, VL.wPairs, VL.oLcm, VL.wPop, VL.wRevM, VL.wClearM, VL.wTupRg, VL.wListRg, VL.wR1, VL.wR2, VL.wRevN, VL.oRepT, VL.oRepL]
      refine ⟨by omega, by omega, ?_⟩
      rw [hk3]
      clear hk3 k3
      refine seq_gen fun k3 hk3 => ?_
      refine whi_body fun B2 hB2 => ?_
      unfold wWhile
      simp only [VL.wSeq, VL.wNext, VL.wNever, VL.wAsg, VL.wSet, VL.wVar, VL.wFrz, VL.wC, VL.wOp, VL.wTest, VL.wNotT, VL.wAndT, VL.wOrT, VL.wAnd, VL.wOr, VL.wNot, VL.wIf, VL.wNil, VL.wCons, VL.wTup, VL.wLst, VL.wStay, VL.wNew, VL.wPar, VL.wAug, VL.wDrop, VL.wRet, VL.wRetN, VL.wRet0, VL.wIfS, VL.wBrk, VL.wCnt, VL.wGt, VL.wGs, VL.wCB, VL.wCBN, VL.wCall, VL.wCallN, VL.wCallIo, VL.wCallIoN, VL.wCallK, VL.wIsi, VL.wIsi2, VL.wApp, VL.wExt, VL.wIns, VL.wSetIt, VL.wNoPart, VL.wPart, VL.wSl, VL.wSlN, VL.wChain, VL.wNeg, VL.wDnew, VL.wDput, VL.wDget, VL.wDin, VL.wDnin, VL.wIndex, VL.wRev, VL.wParNE, VL.wParEN, VL.wPar3, VL.wYes, VL.wSeqOf, VL.wRng1, VL.wRng2, VL.oI, VL.oI0, VL.oLt, VL.oLe, VL.oGt, VL.oGe, VL.oSub, VL.oMul, VL.oFdiv, VL.oMod, VL.oPow, VL.oShl', VL.oAbs, VL.oMax2, VL.oMin2, VL.oGcd, VL.atI_0, VL.atI_1, VL.atI_2, VL.ixN_20, VL.ixN_21, and_assoc, VL.shp_int, VL.shp_bool, VL.shp_none, VL.eqv_int, VL.eqv_bool, VL.isiD, VL.tyD, String.reduceBEq, Bool.not_true, Bool.not_false, Bool.and_true, Bool.and_false, Bool.true_and, Bool.false_and, Bool.or_true, Bool.or_false, Bool.true_or, Bool.false_or, decide_true, decide_false, Bool.not_eq_true', Bool.not_eq_eq_eq_not, decide_eq_true_eq, decide_eq_false_iff_not, VL.oInt1, VL.oInt2, VL.oLen, VL.oToInt, VL.oAdd, VL.oEq, VL.oNe, VL.oIsN, VL.oIn, VL.itemD, VL.isN, VL.der, VL.ders, VL.dats, VL.ioA, VL.endsV, VL.retE, VL.keepC, Option.map, List.range_succ, List.range_zero, List.map_cons, List.map_nil, List.map_append, List.nil_append, List.cons_append, List.append_nil, List.replicate_zero, List.replicate_succ, List.length_cons, List.length_nil, Nat.sub_self, List.getElem?_cons_zero, List.getElem?_cons_succ, List.set_cons_zero, List.set_cons_succ, Option.some.injEq, exists_eq_left', exists_eq_left, exists_eq_right, exists_and_left, exists_and_right, and_true, true_and, CV.d.injEq, CV.loc.injEq, Cell.lst.injEq, Cell.dat.injEq, Cell.dic.injEq, PyData.int.injEq, PyData.bool.injEq, PyData.list.injEq, PyData.tuple.injEq, PyData.str.injEq, reduceCtorEq, false_and, and_false, exists_false, false_or, or_false, if_true, if_false, reduceIte, Bool.false_eq_true, Nat.reduceAdd, Nat.reduceSub, Nat.succ_sub_succ, Nat.zero_add, VL.gP, List.filterMap_cons, List.filterMap_nil, List.cons.injEq, VL.wDisp0, VL.wDisp, VL.wPairs, VL.oLcm, VL.wPop, VL.wRevM, VL.wClearM, VL.wTupRg, VL.wListRg, VL.wR1, VL.wR2, VL.wRevN, VL.oRepT, VL.oRepL]
      refine ⟨fun z ρ => ∃ (a : Nat) (c5 c6 : Cell), ρ = [.dat (.list ds), .dat (.int i), .dat (.list (rowsD (tkn m i))), .dat (.int (2 ^ (bitsN m - 1 - i) : Nat)), .dat (.list (rowsD (rows a))), c5, c6] ∧ a ≤ bitsN m - 1 - i ∧ z = bitsN m - 1 - i - a, ⟨_, 0, _, _, rfl, by omega, rfl⟩, ?_⟩
      rintro z ρ ⟨a, c5, c6, rfl, ha, rfl⟩
      simp only [VL.wSeq, VL.wNext, VL.wNever, VL.wAsg, VL.wSet, VL.wVar, VL.wFrz, VL.wC, VL.wOp, VL.wTest, VL.wNotT, VL.wAndT, VL.wOrT, VL.wAnd, VL.wOr, VL.wNot, VL.wIf, VL.wNil, VL.wCons, VL.wTup, VL.wLst, VL.wStay, VL.wNew, VL.wPar, VL.wAug, VL.wDrop, VL.wRet, VL.wRetN, VL.wRet0, VL.wIfS, VL.wBrk, VL.wCnt, VL.wGt, VL.wGs, VL.wCB, VL.wCBN, VL.wCall, VL.wCallN, VL.wCallIo, VL.wCallIoN, VL.wCallK, VL.wIsi, VL.wIsi2, VL.wApp, VL.wExt, VL.wIns, VL.wSetIt, VL.wNoPart, VL.wPart, VL.wSl, VL.wSlN, VL.wChain, VL.wNeg, VL.wDnew, VL.wDput, VL.wDget, VL.wDin, VL.wDnin, VL.wIndex, VL.wRev, VL.wParNE, VL.wParEN, VL.wPar3, VL.wYes, VL.wSeqOf, VL.wRng1, VL.wRng2, VL.oI, VL.oI0, VL.oLt, VL.oLe, VL.oGt, VL.oGe, VL.oSub, VL.oMul, VL.oFdiv, VL.oMod, VL.oPow, VL.oShl', VL.oAbs, VL.oMax2, VL.oMin2, VL.oGcd, VL.atI_0, VL.atI_1, VL.atI_2, VL.ixN_20, VL.ixN_21, and_assoc, VL.shp_int, VL.shp_bool, VL.shp_none, VL.eqv_int, VL.eqv_bool, VL.isiD, VL.tyD, String.reduceBEq, Bool.not_true, Bool.not_false, Bool.and_true, Bool.and_false, Bool.true_and, Bool.false_and, Bool.or_true, Bool.or_false, Bool.true_or, Bool.false_or, decide_true, decide_false, Bool.not_eq_true', Bool.not_eq_eq_eq_not, decide_eq_true_eq, decide_eq_false_iff_not, VL.oInt1, VL.oInt2, VL.oLen, VL.oToInt, VL.oAdd, VL.oEq, VL.oNe, VL.oIsN, VL.oIn, VL.itemD, VL.isN, VL.der, VL.ders, VL.dats, VL.ioA, VL.endsV, VL.retE, VL.keepC, Option.map, List.range_succ, List.range_zero, List.map_cons, List.map_nil, List.map_append, List.nil_append, List.cons_append, List.append_nil, List.replicate_zero, List.replicate_succ, List.length_cons, List.length_nil, Nat.sub_self, List.getElem?_cons_zero, List.getElem?_cons_succ, List.set_cons_zero, List.set_cons_succ, Option.some.injEq, exists_eq_left', exists_eq_left, exists_eq_right, exists_and_left, exists_and_right, and_true, true_and, CV.d.injEq, CV.loc.injEq, Cell.lst.injEq, Cell.dat.injEq, Cell.dic.injEq, PyData.int.injEq, PyData.bool.injEq, PyData.list.injEq, PyData.tuple.injEq, PyData.str.injEq, reduceCtorEq, false_and, and_false, exists_false, false_or, or_false, if_true, if_false, reduceIte, Bool.false_eq_true, Nat.reduceAdd, Nat.reduceSub, Nat.succ_sub_succ, Nat.zero_add, VL.gP, List.filterMap_cons, List.filterMap_nil, List.cons.injEq, VL.wDisp0, VL.wDisp, VL.wPairs, VL.oLcm, VL.wPop, VL.wRevM, VL.wClearM, VL.wTupRg, VL.wListRg, VL.wR1, VL.wR2, VL.wRevN, VL.oRepT, VL.oRepL, rowsD_len, rows_len]
      by_cases g2 : a < bitsN m - 1 - i
      · have pl : (2 : Nat) ^ a < 2 ^ (bitsN m - 1 - i) := Nat.pow_lt_pow_right (by decide) g2
        rw [if_pos (by omega), hB2]
        refine seq_gen fun k4 hk4 => ?_
        simp only [VL.wSeq, VL.wNext, VL.wNever, VL.wAsg, VL.wSet, VL.wVar, VL.wFrz, VL.wC, VL.wOp, VL.wTest, VL.wNotT, VL.wAndT, VL.wOrT, VL.wAnd, VL.wOr, VL.wNot, VL.wIf, VL.wNil, VL.wCons, VL.wTup, VL.wLst, VL.wStay, VL.wNew, VL.wPar, VL.wAug, VL.wDrop, VL.wRet, VL.wRetN, VL.wRet0, VL.wIfS, VL.wBrk, VL.wCnt, VL.wGt, VL.wGs, VL.wCB, VL.wCBN, VL.wCall, VL.wCallN, VL.wCallIo, VL.wCallIoN, VL.wCallK, VL.wIsi, VL.wIsi2, VL.wApp, VL.wExt, VL.wIns, VL.wSetIt, VL.wNoPart, VL.wPart, VL.wSl, VL.wSlN, VL.wChain, VL.wNeg, VL.wDnew, VL.wDput, VL.wDget, VL.wDin, VL.wDnin, VL.wIndex, VL.wRev, VL.wParNE, VL.wParEN, VL.wPar3, VL.wYes, VL.wSeqOf, VL.wRng1, VL.wRng2, VL.oI, VL.oI0, VL.oLt, VL.oLe, VL.oGt, VL.oGe, VL.oSub, VL.oMul, VL.oFdiv, VL.oMod, VL.oPow, VL.oShl', VL.oAbs, VL.oMax2, VL.oMin2, VL.oGcd, VL.atI_0, VL.atI_1, VL.atI_2, VL.ixN_20, VL.ixN_21, and_assoc, VL.shp_int, VL.shp_bool, VL.shp_none, VL.eqv_int, VL.eqv_bool, VL.isiD, VL.tyD, String.reduceBEq, Bool.not_true, Bool.not_false, Bool.and_true, Bool.and_false, Bool.true_and, Bool.false_and, Bool.or_true, Bool.or_false, Bool.true_or, Bool.false_or, decide_true, decide_false, Bool.not_eq_true', Bool.not_eq_eq_eq_not, decide_eq_true_eq, decide_eq_false_iff_not, VL.oInt1, VL.oInt2, VL.oLen, VL.oToInt, VL.oAdd, VL.oEq, VL.oNe, VL.oIsN, VL.oIn, VL.itemD, VL.isN, VL.der, VL.ders, VL.dats, VL.ioA, VL.endsV, VL.retE, VL.keepC, Option.map, List.range_succ, List.range_zero, List.map_cons, List.map_nil, List.map_append, List.nil_append, List.cons_append, List.append_nil, List.replicate_zero, List.replicate_succ, List.length_cons, List.length_nil, Nat.sub_self, List.getElem?_cons_zero, List.getElem?_cons_succ, List.set_cons_zero, List.set_cons_succ, Option.some.injEq, exists_eq_left', exists_eq_left, exists_eq_right, exists_and_left, exists_and_right, and_true, true_and, CV.d.injEq, CV.loc.injEq, Cell.lst.injEq, Cell.dat.injEq, Cell.dic.injEq, PyData.int.injEq, PyData.bool.injEq, PyData.list.injEq, PyData.tuple.injEq, PyData.str.injEq, reduceCtorEq, false_and, and_false, exists_false, false_or, or_false, if_true, if_false, reduceIte, Bool.false_eq_true, Nat.reduceAdd, Nat.reduceSub, Nat.succ_sub_succ, Nat.zero_add, VL.gP, List.filterMap_cons, List.filterMap_nil, List.cons.injEq, VL.wDisp0, VL.wDisp, VL.wPairs, VL.oLcm, VL.wPop, VL.wRevM, VL.wClearM, VL.wTupRg, VL.wListRg, VL.wR1, VL.wR2, VL.wRevN, VL.oRepT, VL.oRepL]
        refine ⟨by omega, ?_⟩
        rw [hk4]
        clear hk4 k4
        refine seq_gen fun k4 hk4 => ?_
        unfold wFor
        simp only [VL.wSeq, VL.wNext, VL.wNever, VL.wAsg, VL.wSet, VL.wVar, VL.wFrz, VL.wC, VL.wOp, VL.wTest, VL.wNotT, VL.wAndT, VL.wOrT, VL.wAnd, VL.wOr, VL.wNot, VL.wIf, VL.wNil, VL.wCons, VL.wTup, VL.wLst, VL.wStay, VL.wNew, VL.wPar, VL.wAug, VL.wDrop, VL.wRet, VL.wRetN, VL.wRet0, VL.wIfS, VL.wBrk, VL.wCnt, VL.wGt, VL.wGs, VL.wCB, VL.wCBN, VL.wCall, VL.wCallN, VL.wCallIo, VL.wCallIoN, VL.wCallK, VL.wIsi, VL.wIsi2, VL.wApp, VL.wExt, VL.wIns, VL.wSetIt, VL.wNoPart, VL.wPart, VL.wSl, VL.wSlN, VL.wChain, VL.wNeg, VL.wDnew, VL.wDput, VL.wDget, VL.wDin, VL.wDnin, VL.wIndex, VL.wRev, VL.wParNE, VL.wParEN, VL.wPar3, VL.wYes, VL.wSeqOf, VL.wRng1, VL.wRng2, VL.oI, VL.oI0, VL.oLt, VL.oLe, VL.oGt, VL.oGe, VL.oSub, VL.oMul, VL.oFdiv, VL.oMod, VL.oPow, VL.oShl', VL.oAbs, VL.oMax2, VL.oMin2, VL.oGcd, VL.atI_0, VL.atI_1, VL.atI_2, VL.ixN_20, VL.ixN_21, and_assoc, VL.shp_int, VL.shp_bool, VL.shp_none, VL.eqv_int, VL.eqv_bool, VL.isiD, VL.tyD, String.reduceBEq, Bool.not_true, Bool.not_false, Bool.and_true, Bool.and_false, Bool.true_and, Bool.false_and, Bool.or_true, Bool.or_false, Bool.true_or, Bool.false_or, decide_true, decide_false, Bool.not_eq_true', Bool.not_eq_eq_eq_not, decide_eq_true_eq, decide_eq_false_iff_not, VL.oInt1, VL.oInt2, VL.oLen, VL.oToInt, VL.oAdd, VL.oEq, VL.oNe, VL.oIsN, VL.oIn, VL.itemD, VL.isN, VL.der, VL.ders, VL.dats, VL.ioA, VL.endsV, VL.retE, VL.keepC, Option.map, List.range_succ, List.range_zero, List.map_cons, List.map_nil, List.map_append, List.nil_append, List.cons_append, List.append_nil, List.replicate_zero, List.replicate_succ, List.length_cons, List.length_nil, Nat.sub_self, List.getElem?_cons_zero, List.getElem?_cons_succ, List.set_cons_zero, List.set_cons_succ, Option.some.injEq, exists_eq_left', exists_eq_left, exists_eq_right, exists_and_left, exists_and_right, and_true, true_and, CV.d.injEq, CV.loc.injEq, Cell.lst.injEq, Cell.dat.injEq, Cell.dic.injEq, PyData.int.injEq, PyData.bool.injEq, PyData.list.injEq, PyData.tuple.injEq, PyData.str.injEq, reduceCtorEq, false_and, and_false, exists_false, false_or, or_false, if_true, if_false, reduceIte, Bool.false_eq_true, Nat.reduceAdd, Nat.reduceSub, Nat.succ_sub_succ, Nat.zero_add, VL.gP, List.filterMap_cons, List.filterMap_nil, List.cons.injEq, VL.wDisp0, VL.wDisp, VL.wPairs, VL.oLcm, VL.wPop, VL.wRevM, VL.wClearM, VL.wTupRg, VL.wListRg, VL.wR1, VL.wR2, VL.wRevN, VL.oRepT, VL.oRepL]
        refine ⟨fun j2 ρ => ∃ c6, ρ = [.dat (.list ds), .dat (.int i), .dat (.list (rowsD (tkn m i))), .dat (.int (2 ^ (bitsN m - 1 - i) : Nat)), .dat (.list (rowsD (rows a))), .dat (.list (rowsD (nxt ((rows a).take j2)))), c6], ⟨_, rfl⟩, ?_, ?_⟩
        · rintro j2 ρ d ⟨c6, rfl⟩ hy
          obtain ⟨hj2, rfl⟩ := rowsD_at hy
          have rl := rows_len a
          have wl := (rows_each a _ (List.getElem_mem hj2)).1
          have ml : ((rows a).take j2).length ≤ j2 := by rw [List.length_take]; omega
          unfold intT
          simp only [VL.wSeq, VL.wNext, VL.wNever, VL.wAsg, VL.wSet, VL.wVar, VL.wFrz, VL.wC, VL.wOp, VL.wTest, VL.wNotT, VL.wAndT, VL.wOrT, VL.wAnd, VL.wOr, VL.wNot, VL.wIf, VL.wNil, VL.wCons, VL.wTup, VL.wLst, VL.wStay, VL.wNew, VL.wPar, VL.wAug, VL.wDrop, VL.wRet, VL.wRetN, VL.wRet0, VL.wIfS, VL.wBrk, VL.wCnt, VL.wGt, VL.wGs, VL.wCB, VL.wCBN, VL.wCall, VL.wCallN, VL.wCallIo, VL.wCallIoN, VL.wCallK, VL.wIsi, VL.wIsi2, VL.wApp, VL.wExt, VL.wIns, VL.wSetIt, VL.wNoPart, VL.wPart, VL.wSl, VL.wSlN, VL.wChain, VL.wNeg, VL.wDnew, VL.wDput, VL.wDget, VL.wDin, VL.wDnin, VL.wIndex, VL.wRev, VL.wParNE, VL.wParEN, VL.wPar3, VL.wYes, VL.wSeqOf, VL.wRng1, VL.wRng2, VL.oI, VL.oI0, VL.oLt, VL.oLe, VL.oGt, VL.oGe, VL.oSub, VL.oMul, VL.oFdiv, VL.oMod, VL.oPow, VL.oShl', VL.oAbs, VL.oMax2, VL.oMin2, VL.oGcd, VL.atI_0, VL.atI_1, VL.atI_2, VL.ixN_20, VL.ixN_21, and_assoc, VL.shp_int, VL.shp_bool, VL.shp_none, VL.eqv_int, VL.eqv_bool, VL.isiD, VL.tyD, String.reduceBEq, Bool.not_true, Bool.not_false, Bool.and_true, Bool.and_false, Bool.true_and, Bool.false_and, Bool.or_true, Bool.or_false, Bool.true_or, Bool.false_or, decide_true, decide_false, Bool.not_eq_true', Bool.not_eq_eq_eq_not, decide_eq_true_eq, decide_eq_false_iff_not, VL.oInt1, VL.oInt2, VL.oLen, VL.oToInt, VL.oAdd, VL.oEq, VL.oNe, VL.oIsN, VL.oIn, VL.itemD, VL.isN, VL.der, VL.ders, VL.dats, VL.ioA, VL.endsV, VL.retE, VL.keepC, Option.map, List.range_succ, List.range_zero, List.map_cons, List.map_nil, List.map_append, List.nil_append, List.cons_append, List.append_nil, List.replicate_zero, List.replicate_succ, List.length_cons, List.length_nil, Nat.sub_self, List.getElem?_cons_zero, List.getElem?_cons_succ, List.set_cons_zero, List.set_cons_succ, Option.some.injEq, exists_eq_left', exists_eq_left, exists_eq_right, exists_and_left, exists_and_right, and_true, true_and, CV.d.injEq, CV.loc.injEq, Cell.lst.injEq, Cell.dat.injEq, Cell.dic.injEq, PyData.int.injEq, PyData.bool.injEq, PyData.list.injEq, PyData.tuple.injEq, PyData.str.injEq, reduceCtorEq, false_and, and_false, exists_false, false_or, or_false, if_true, if_false, reduceIte, Bool.false_eq_true, Nat.reduceAdd, Nat.reduceSub, Nat.succ_sub_succ, Nat.zero_add, VL.gP, List.filterMap_cons, List.filterMap_nil, List.cons.injEq, VL.wDisp0, VL.wDisp, VL.wPairs, VL.oLcm, VL.wPop, VL.wRevM, VL.wClearM, VL.wTupRg, VL.wListRg, VL.wR1, VL.wR2, VL.wRevN, VL.oRepT, VL.oRepL]
          rw [rowsD_len, nxt_len, List.length_map, wl]
          exact ⟨by omega, by omega, by omega, by omega, by omega, by omega, nxt_snocD hj2, _, rfl⟩
        · rintro ρ ⟨c6, rfl⟩
          rw [rowsD_len, List.take_of_length_le (Nat.le_refl _), nxt_rows, hk4]
          simp only [VL.wSeq, VL.wNext, VL.wNever, VL.wAsg, VL.wSet, VL.wVar, VL.wFrz, VL.wC, VL.wOp, VL.wTest, VL.wNotT, VL.wAndT, VL.wOrT, VL.wAnd, VL.wOr, VL.wNot, VL.wIf, VL.wNil, VL.wCons, VL.wTup, VL.wLst, VL.wStay, VL.wNew, VL.wPar, VL.wAug, VL.wDrop, VL.wRet, VL.wRetN, VL.wRet0, VL.wIfS, VL.wBrk, VL.wCnt, VL.wGt, VL.wGs, VL.wCB, VL.wCBN, VL.wCall, VL.wCallN, VL.wCallIo, VL.wCallIoN, VL.wCallK, VL.wIsi, VL.wIsi2, VL.wApp, VL.wExt, VL.wIns, VL.wSetIt, VL.wNoPart, VL.wPart, VL.wSl, VL.wSlN, VL.wChain, VL.wNeg, VL.wDnew, VL.wDput, VL.wDget, VL.wDin, VL.wDnin, VL.wIndex, VL.wRev, VL.wParNE, VL.wParEN, VL.wPar3, VL.wYes, VL.wSeqOf, VL.wRng1, VL.wRng2, VL.oI, VL.oI0, VL.oLt, VL.oLe, VL.oGt, VL.oGe, VL.oSub, VL.oMul, VL.oFdiv, VL.oMod, VL.oPow, VL.oShl', VL.oAbs, VL.oMax2, VL.oMin2, VL.oGcd, VL.atI_0, VL.atI_1, VL.atI_2, VL.ixN_20, VL.ixN_21, and_assoc, VL.shp_int, VL.shp_bool, VL.shp_none, VL.eqv_int, VL.eqv_bool, VL.isiD, VL.tyD, String.reduceBEq, Bool.not_true, Bool.not_false, Bool.and_true, Bool.and_false, Bool.true_and, Bool.false_and, Bool.or_true, Bool.or_false, Bool.true_or, Bool.false_or, decide_true, decide_false, Bool.not_eq_true', Bool.not_eq_eq_eq_not, decide_eq_true_eq, decide_eq_false_iff_not, VL.oInt1, VL.oInt2, VL.oLen, VL.oToInt, VL.oAdd, VL.oEq, VL.oNe, VL.oIsN, VL.oIn, VL.itemD, VL.isN, VL.der, VL.ders, VL.dats, VL.ioA, VL.endsV, VL.retE, VL.keepC, Option.map, List.range_succ, List.range_zero, List.map_cons, List.map_nil, List.map_append, List.nil_append, List.cons_append, List.append_nil, List.replicate_zero, List.replicate_succ, List.length_cons, List.length_nil, Nat.sub_self, List.getElem?_cons_zero, List.getElem?_cons_succ, List.set_cons_zero, List.set_cons_succ, Option.some.injEq, exists_eq_left', exists_eq_left, exists_eq_right, exists_and_left, exists_and_right, and_true, true_and, CV.d.injEq, CV.loc.injEq, Cell.lst.injEq, Cell.dat.injEq, Cell.dic.injEq, PyData.int.injEq, PyData.bool.injEq, PyData.list.injEq, PyData.tuple.injEq, PyData.str.injEq, reduceCtorEq, false_and, and_false, exists_false, false_or, or_false, if_true, if_false, reduceIte, Bool.false_eq_true, Nat.reduceAdd, Nat.reduceSub, Nat.succ_sub_succ, Nat.zero_add, VL.gP, List.filterMap_cons, List.filterMap_nil, List.cons.injEq, VL.wDisp0, VL.wDisp, VL.wPairs, VL.oLcm, VL.wPop, VL.wRevM, VL.wClearM, VL.wTupRg, VL.wListRg, VL.wR1, VL.wR2, VL.wRevN, VL.oRepT, VL.oRepL]
          exact ⟨bitsN m - 1 - i - (a + 1), by omega, a + 1, rfl, ⟨_, rfl⟩, by omega, rfl⟩
      · obtain rfl : a = bitsN m - 1 - i := by omega
        rw [if_neg (by omega), hk3]
        clear hk3 k3
        simp only [VL.wSeq, VL.wNext, VL.wNever, VL.wAsg, VL.wSet, VL.wVar, VL.wFrz, VL.wC, VL.wOp, VL.wTest, VL.wNotT, VL.wAndT, VL.wOrT, VL.wAnd, VL.wOr, VL.wNot, VL.wIf, VL.wNil, VL.wCons, VL.wTup, VL.wLst, VL.wStay, VL.wNew, VL.wPar, VL.wAug, VL.wDrop, VL.wRet, VL.wRetN, VL.wRet0, VL.wIfS, VL.wBrk, VL.wCnt, VL.wGt, VL.wGs, VL.wCB, VL.wCBN, VL.wCall, VL.wCallN, VL.wCallIo, VL.wCallIoN, VL.wCallK, VL.wIsi, VL.wIsi2, VL.wApp, VL.wExt, VL.wIns, VL.wSetIt, VL.wNoPart, VL.wPart, VL.wSl, VL.wSlN, VL.wChain, VL.wNeg, VL.wDnew, VL.wDput, VL.wDget, VL.wDin, VL.wDnin, VL.wIndex, VL.wRev, VL.wParNE, VL.wParEN, VL.wPar3, VL.wYes, VL.wSeqOf, VL.wRng1, VL.wRng2, VL.oI, VL.oI0, VL.oLt, VL.oLe, VL.oGt, VL.oGe, VL.oSub, VL.oMul, VL.oFdiv, VL.oMod, VL.oPow, VL.oShl', VL.oAbs, VL.oMax2, VL.oMin2, VL.oGcd, VL.atI_0, VL.atI_1, VL.atI_2, VL.ixN_20, VL.ixN_21, and_assoc, VL.shp_int, VL.shp_bool, VL.shp_none, VL.eqv_int, VL.eqv_bool, VL.isiD, VL.tyD, String.reduceBEq, Bool.not_true, Bool.not_false, Bool.and_true, Bool.and_false, Bool.true_and, Bool.false_and, Bool.or_true, Bool.or_false, Bool.true_or, Bool.false_or, decide_true, decide_false, Bool.not_eq_true', Bool.not_eq_eq_eq_not, decide_eq_true_eq, decide_eq_false_iff_not, VL.oInt1, VL.oInt2, VL.oLen, VL.oToInt, VL.oAdd, VL.oEq, VL.oNe, VL.oIsN, VL.oIn, VL.itemD, VL.isN, VL.der, VL.ders, VL.dats, VL.ioA, VL.endsV, VL.retE, VL.keepC, Option.map, List.range_succ, List.range_zero, List.map_cons, List.map_nil, List.map_append, List.nil_append, List.cons_append, List.append_nil, List.replicate_zero, List.replicate_succ, List.length_cons, List.length_nil, Nat.sub_self, List.getElem?_cons_zero, List.getElem?_cons_succ, List.set_cons_zero, List.set_cons_succ, Option.some.injEq, exists_eq_left', exists_eq_left, exists_eq_right, exists_and_left, exists_and_right, and_true, true_and, CV.d.injEq, CV.loc.injEq, Cell.lst.injEq, Cell.dat.injEq, Cell.dic.injEq, PyData.int.injEq, PyData.bool.injEq, PyData.list.injEq, PyData.tuple.injEq, PyData.str.injEq, reduceCtorEq, false_and, and_false, exists_false, false_or, or_false, if_true, if_false, reduceIte, Bool.false_eq_true, Nat.reduceAdd, Nat.reduceSub, Nat.succ_sub_succ, Nat.zero_add, VL.gP, List.filterMap_cons, List.filterMap_nil, List.cons.injEq, VL.wDisp0, VL.wDisp, VL.wPairs, VL.oLcm, VL.wPop, VL.wRevM, VL.wClearM, VL.wTupRg, VL.wListRg, VL.wR1, VL.wR2, VL.wRevN, VL.oRepT, VL.oRepL, rowsD_len, rows_len]
        refine ⟨by omega, ?_⟩
        rw [hk2]
        have e3 : tkn m i ++ rows (bitsN m - 1 - i) = tkn m (i + 1) := by rw [tkn_succ (by omega), if_pos q]
        have e4 : rowsD (tkn m i) ++ rowsD (rows (bitsN m - 1 - i)) = rowsD (tkn m (i + 1)) := by
          rw [← e3]
          unfold rowsD
          rw [List.map_append]
        rw [e4]
        exact fin _ _ _ _ rfl
    · have q2 : ¬ 2 ^ (bitsN m - 1 - i) ≤ m - (tkn m i).length := fun z => q ((tkn_test (m := m) (by omega)).mp z)
      rw [if_neg (by omega), hY]
      clear hX hY X Y
      simp only [VL.wSeq, VL.wNext, VL.wNever, VL.wAsg, VL.wSet, VL.wVar, VL.wFrz, VL.wC, VL.wOp, VL.wTest, VL.wNotT, VL.wAndT, VL.wOrT, VL.wAnd, VL.wOr, VL.wNot, VL.wIf, VL.wNil, VL.wCons, VL.wTup, VL.wLst, VL.wStay, VL.wNew, VL.wPar, VL.wAug, VL.wDrop, VL.wRet, VL.wRetN, VL.wRet0, VL.wIfS, VL.wBrk, VL.wCnt, VL.wGt, VL.wGs, VL.wCB, VL.wCBN, VL.wCall, VL.wCallN, VL.wCallIo, VL.wCallIoN, VL.wCallK, VL.wIsi, VL.wIsi2, VL.wApp, VL.wExt, VL.wIns, VL.wSetIt, VL.wNoPart, VL.wPart, VL.wSl, VL.wSlN, VL.wChain, VL.wNeg, VL.wDnew, VL.wDput, VL.wDget, VL.wDin, VL.wDnin, VL.wIndex, VL.wRev, VL.wParNE, VL.wParEN, VL.wPar3, VL.wYes, VL.wSeqOf, VL.wRng1, VL.wRng2, VL.oI, VL.oI0, VL.oLt, VL.oLe, VL.oGt, VL.oGe, VL.oSub, VL.oMul, VL.oFdiv, VL.oMod, VL.oPow, VL.oShl', VL.oAbs, VL.oMax2, VL.oMin2, VL.oGcd, VL.atI_0, VL.atI_1, VL.atI_2, VL.ixN_20, VL.ixN_21, and_assoc, VL.shp_int, VL.shp_bool, VL.shp_none, VL.eqv_int, VL.eqv_bool, VL.isiD, VL.tyD, String.reduceBEq, Bool.not_true, Bool.not_false, Bool.and_true, Bool.and_false, Bool.true_and, Bool.false_and, Bool.or_true, Bool.or_false, Bool.true_or, Bool.false_or, decide_true, decide_false, Bool.not_eq_true', Bool.not_eq_eq_eq_not, decide_eq_true_eq, decide_eq_false_iff_not, VL.oInt1, VL.oInt2, VL.oLen, VL.oToInt, VL.oAdd, VL.oEq, VL.oNe, VL.oIsN, VL.oIn, VL.itemD, VL.isN, VL.der, VL.ders, VL.dats, VL.ioA, VL.endsV, VL.retE, VL.keepC, Option.map, List.range_succ, List.range_zero, List.map_cons, List.map_nil, List.map_append, List.nil_append, List.cons_append, List.append_nil, List.replicate_zero, List.replicate_succ, List.length_cons, List.length_nil, Nat.sub_self, List.getElem?_cons_zero, List.getElem?_cons_succ, List.set_cons_zero, List.set_cons_succ, Option.some.injEq, exists_eq_left', exists_eq_left, exists_eq_right, exists_and_left, exists_and_right, and_true, true_and, CV.d.injEq, CV.loc.injEq, Cell.lst.injEq, Cell.dat.injEq, Cell.dic.injEq, PyData.int.injEq, PyData.bool.injEq, PyData.list.injEq, PyData.tuple.injEq, PyData.str.injEq, reduceCtorEq, false_and, and_false, exists_false, false_or, or_false, if_true, if_false, reduceIte, Bool.false_eq_true, Nat.reduceAdd, Nat.reduceSub, Nat.succ_sub_succ, Nat.zero_add, VL.gP, List.filterMap_cons, List.filterMap_nil, List.cons.injEq, VL.wDisp0, VL.wDisp, VL.wPairs, VL.oLcm, VL.wPop, VL.wRevM, VL.wClearM, VL.wTupRg, VL.wListRg, VL.wR1, VL.wR2, VL.wRevN, VL.oRepT, VL.oRepL]
      rw [hk2]
      exact fin _ _ _ _ (by rw [tkn_succ (by omega), if_neg q])
  · rintro ρ ⟨c1, c4, c5, c6, rfl⟩
    rw [rng_len, hk, tkn_all]
    simp only [VL.wSeq, VL.wNext, VL.wNever, VL.wAsg, VL.wSet, VL.wVar, VL.wFrz, VL.wC, VL.wOp, VL.wTest, VL.wNotT, VL.wAndT, VL.wOrT, VL.wAnd, VL.wOr, VL.wNot, VL.wIf, VL.wNil, VL.wCons, VL.wTup, VL.wLst, VL.wStay, VL.wNew, VL.wPar, VL.wAug, VL.wDrop, VL.wRet, VL.wRetN, VL.wRet0, VL.wIfS, VL.wBrk, VL.wCnt, VL.wGt, VL.wGs, VL.wCB, VL.wCBN, VL.wCall, VL.wCallN, VL.wCallIo, VL.wCallIoN, VL.wCallK, VL.wIsi, VL.wIsi2, VL.wApp, VL.wExt, VL.wIns, VL.wSetIt, VL.wNoPart, VL.wPart, VL.wSl, VL.wSlN, VL.wChain, VL.wNeg, VL.wDnew, VL.wDput, VL.wDget, VL.wDin, VL.wDnin, VL.wIndex, VL.wRev, VL.wParNE, VL.wParEN, VL.wPar3, VL.wYes, VL.wSeqOf, VL.wRng1, VL.wRng2, VL.oI, VL.oI0, VL.oLt, VL.oLe, VL.oGt, VL.oGe, VL.oSub, VL.oMul, VL.oFdiv, VL.oMod, VL.oPow, VL.oShl', VL.oAbs, VL.oMax2, VL.oMin2, VL.oGcd, VL.atI_0, VL.atI_1, VL.atI_2, VL.ixN_20, VL.ixN_21, and_assoc, VL.shp_int, VL.shp_bool, VL.shp_none, VL.eqv_int, VL.eqv_bool, VL.isiD, VL.tyD, String.reduceBEq, Bool.not_true, Bool.not_false, Bool.and_true, Bool.and_false, Bool.true_and, Bool.false_and, Bool.or_true, Bool.or_false, Bool.true_or, Bool.false_or, decide_true, decide_false, Bool.not_eq_true', Bool.not_eq_eq_eq_not, decide_eq_true_eq, decide_eq_false_iff_not, VL.oInt1, VL.oInt2, VL.oLen, VL.oToInt, VL.oAdd, VL.oEq, VL.oNe, VL.oIsN, VL.oIn, VL.itemD, VL.isN, VL.der, VL.ders, VL.dats, VL.ioA, VL.endsV, VL.retE, VL.keepC, Option.map, List.range_succ, List.range_zero, List.map_cons, List.map_nil, List.map_append, List.nil_append, List.cons_append, List.append_nil, List.replicate_zero, List.replicate_succ, List.length_cons, List.length_nil, Nat.sub_self, List.getElem?_cons_zero, List.getElem?_cons_succ, List.set_cons_zero, List.set_cons_succ, Option.some.injEq, exists_eq_left', exists_eq_left, exists_eq_right, exists_and_left, exists_and_right, and_true, true_and, CV.d.injEq, CV.loc.injEq, Cell.lst.injEq, Cell.dat.injEq, Cell.dic.injEq, PyData.int.injEq, PyData.bool.injEq, PyData.list.injEq, PyData.tuple.injEq, PyData.str.injEq, reduceCtorEq, false_and, and_false, exists_false, false_or, or_false, if_true, if_false, reduceIte, Bool.false_eq_true, Nat.reduceAdd, Nat.reduceSub, Nat.succ_sub_succ, Nat.zero_add, VL.gP, List.filterMap_cons, List.filterMap_nil, List.cons.injEq, VL.wDisp0, VL.wDisp, VL.wPairs, VL.oLcm, VL.wPop, VL.wRevM, VL.wClearM, VL.wTupRg, VL.wListRg, VL.wR1, VL.wR2, VL.wRevN, VL.oRepT, VL.oRepL]
    exact h
end K35
end
section
set_option autoImplicit false
set_option maxRecDepth 100000
set_option maxHeartbeats 4000000
set_option exponentiation.threshold 7000
namespace K35
open PySem PySem.Spec PyProof.Rows L2 VL
def cnt (l : List (List Int)) (h : Int) : Nat := l.countP fun r => decide (r.sum = h)
theorem cnt_nxt (h : Int) : ∀ l : List (List Int), cnt (nxt l) h = cnt l h + cnt l (h - 1)
  | [] => rfl
  | r :: l => by
    have ih := cnt_nxt h l
    unfold cnt nxt at *
    rw [List.flatMap_cons, List.countP_append, ih, List.countP_cons, List.countP_cons]
    have e0 : (r ++ [0]).sum = r.sum := by simp
    have e1 : (r ++ [1]).sum = r.sum + 1 := by simp
    rw [List.countP_cons, List.countP_cons, List.countP_nil, e0, e1]
    have : decide (r.sum + 1 = h) = decide (r.sum = h - 1) := by
      by_cases z : r.sum + 1 = h
      · simp [z]; omega
      · simp [z]; omega
    rw [this]
    omega
theorem sum_nonneg : ∀ r : List Int, (∀ x ∈ r, x = 0 ∨ x = 1) → 0 ≤ r.sum ∧ r.sum ≤ r.length
  | [], _ => by simp
  | x :: r, h => by
    obtain ⟨a, b⟩ := sum_nonneg r fun y hy => h y (List.mem_cons_of_mem _ hy)
    have := h x List.mem_cons_self
    rw [List.sum_cons, List.length_cons]
    omega
theorem cnt_neg (n : Nat) {h : Int} (hh : h < 0) : cnt (rows n) h = 0 := by
  unfold cnt
  rw [List.countP_eq_zero]
  intro r hr
  have := (sum_nonneg r (rows_each n r hr).2).1
  simp
  omega
theorem cnt_rows : ∀ (n k : Nat), cnt (rows n) (k : Int) = bin n k
  | 0, 0 => rfl
  | 0, k + 1 => by
    unfold cnt rows
    rw [List.countP_cons, List.countP_nil]
    have : decide (([] : List Int).sum = ((k + 1 : Nat) : Int)) = false := decide_eq_false (show ¬ (0 : Int) = ((k + 1 : Nat) : Int) by omega)
    rw [this]
    rfl
  | n + 1, 0 => by
    have z : cnt (rows n) (((0 : Nat) : Int) - 1) = 0 := cnt_neg n (by decide)
    rw [← nxt_rows, cnt_nxt, cnt_rows n 0, z]
    cases n <;> rfl
  | n + 1, k + 1 => by
    have e : ((k + 1 : Nat) : Int) - 1 = (k : Int) := by omega
    have e2 := cnt_nxt ((k + 1 : Nat) : Int) (rows n)
    rw [e, cnt_rows n (k + 1), cnt_rows n k, nxt_rows] at e2
    rw [e2]
    show _ = bin n k + bin n (k + 1)
    omega
theorem best_len (m : Nat) : (best m).length = m := by
  have := tkn_len m (bitsN m) (Nat.le_refl _)
  rw [Nat.sub_self, Nat.pow_zero, Nat.mod_one, tkn_all] at this
  omega
theorem lens_rows (a : Nat) : ((rows a).map List.length).sum = a * 2 ^ a := by
  have : (rows a).map List.length = List.replicate (2 ^ a) a := by
    rw [List.eq_replicate_iff]
    refine ⟨by rw [List.length_map, rows_len], fun b hb => ?_⟩
    obtain ⟨r, hr, rfl⟩ := List.mem_map.mp hb
    exact (rows_each a r hr).1
  rw [this, List.sum_replicate_nat, Nat.mul_comm]
theorem lens_best (m : Nat) : ((best m).map List.length).sum = wsum m := by
  unfold best wsum
  induction stps m with
  | nil => rfl
  | cons a l ih => rw [List.flatMap_cons, List.map_append, List.sum_append, ih, lens_rows, List.map_cons, List.sum_cons]
theorem stps_le {m a : Nat} (h : a ∈ stps m) : a < bitsN m ∨ bitsN m = 0 := by
  unfold stps sqs at h
  obtain ⟨h, _⟩ := List.mem_filter.mp h
  obtain ⟨i, hi, rfl⟩ := List.mem_map.mp h
  rw [List.mem_range] at hi
  omega
theorem sum_le {k : Nat} : ∀ l : List Nat, (∀ x ∈ l, x ≤ k) → l.sum ≤ k * l.length
  | [], _ => by simp
  | x :: l, h => by
    have ih := sum_le l fun y hy => h y (List.mem_cons_of_mem _ hy)
    have := h x List.mem_cons_self
    rw [List.sum_cons, List.length_cons, Nat.mul_succ]
    omega
theorem wsum_le {m : Nat} (h : m ≤ 1000) : wsum m ≤ 10000 := by
  rw [← lens_best]
  have := sum_le (k := 10) ((best m).map List.length) fun x hx => by
    obtain ⟨r, hr, rfl⟩ := List.mem_map.mp hx
    obtain ⟨a, ha, hr⟩ := List.mem_flatMap.mp hr
    have := stps_le ha
    have := bits_le h
    rw [(rows_each a r hr).1]
    rcases stps_le ha with z | z
    · omega
    · unfold stps sqs at ha
      rw [z] at ha
      cases ha
  rw [List.length_map, best_len] at this
  omega
theorem bin_bd : ∀ n k : Nat, n ≤ 12 → k ≤ n → 1 ≤ bin n k ∧ bin n k ≤ 1000 ∧ bin n (n - k) = bin n k := by
  have h : ∀ n : Fin 13, ∀ k : Fin 13, (k : Nat) ≤ (n : Nat) → 1 ≤ bin n k ∧ bin n k ≤ 1000 ∧ bin n (n - k) = bin n k := by decide +kernel
  intro n k hn hk
  exact h ⟨n, by omega⟩ ⟨k, by omega⟩ hk
def term (n : Nat) (t u : Int) (h : Nat) : Int := ((wsum (bin n h) : Nat) : Int) * t ^ h * u ^ (n - h)
theorem meanNum_eq (n : Nat) (t u : Int) : meanNum n t u = ((List.range (n + 1)).map (term n t u)).sum := rfl
theorem sum_rev (f : Nat → Int) (n : Nat) : ((List.range (n + 1)).map f).sum = ((List.range (n + 1)).map fun h => f (n - h)).sum := by
  have e : ((List.range (n + 1)).map fun h => f (n - h)) = ((List.range (n + 1)).map f).reverse := by
    refine List.ext_getElem (by simp) fun i h1 h2 => ?_
    simp
  rw [e, List.sum_reverse]
theorem mean_rev {n : Nat} (hn : n ≤ 12) (t u : Int) : meanNum n t u = meanNum n u t := by
  rw [meanNum_eq, meanNum_eq, sum_rev]
  congr 1
  refine List.map_congr_left fun h hh => ?_
  rw [List.mem_range] at hh
  unfold term
  rw [(bin_bd n h hn (by omega)).2.2, show n - (n - h) = h by omega, Int.mul_assoc, Int.mul_comm (t ^ (n - h)), ← Int.mul_assoc]
theorem sum_take (f : Nat → Int) (i : Nat) : ((List.range (i + 1)).map f).sum = ((List.range i).map f).sum + f i := by
  rw [List.range_succ, List.map_append, List.sum_append]
  simp
theorem term_cok {n h : Nat} {t u : Int} (hn : n ≤ 12) (hh : h ≤ n) (t0 : 0 ≤ t) (t1 : t ≤ 60) (u0 : 0 ≤ u) (u1 : u ≤ 60) : COk ((wsum (bin n h) : Nat) : Int) (t ^ h) ∧ COk (((wsum (bin n h) : Nat) : Int) * t ^ h) (u ^ (n - h)) := by
  have w := wsum_le (bin_bd n h hn hh).2.1
  obtain ⟨a0, a1⟩ := pw_bd12 t0 t1 (i := h) (by omega)
  obtain ⟨b0, b1⟩ := pw_bd12 u0 u1 (i := n - h) (by omega)
  refine ⟨cokn (Int.natCast_nonneg _) (Int.lt_of_le_of_lt (show ((wsum (bin n h) : Nat) : Int) ≤ 10000 by omega) (by decide)) a0 (up400 a1), cokn (Int.mul_nonneg (Int.natCast_nonneg _) a0) ?_ b0 (up400 b1)⟩
  refine Int.lt_of_le_of_lt (Int.mul_le_mul (show ((wsum (bin n h) : Nat) : Int) ≤ 10000 by omega) (Int.le_of_lt a1) a0 (by decide)) (by decide)
theorem pw_pos {b : Int} (h : 0 < b) : ∀ n : Nat, 0 < b ^ n
  | 0 => by rw [Int.pow_zero]; decide
  | n + 1 => by rw [Int.pow_succ]; exact Int.mul_pos (pw_pos h n) h
theorem pw_bd' {q : Rat} (S : Sh q) {n : Nat} (hn : n ≤ 12) : 0 < ((q.den : Int) ^ n) ∧ Bd ((q.den : Int) ^ n) := by
  have dp := den_pos q
  have dd := S.den
  obtain ⟨a0, a1⟩ := pw_bd12 (b := (q.den : Int)) (by omega) (by omega) (i := n) hn
  exact ⟨pw_pos dp n, Nat.lt_of_lt_of_le (natAbs_lt a0 a1) (Nat.pow_le_pow_right (by decide) (by decide))⟩
theorem h_most (ρ : En) (Q : RV → En → Prop) (h : S_most ρ Q) : t_most (endsV 1 Q) (ρ ++ List.replicate (3 - 1) .un) := by
  obtain ⟨n, rfl, h0, h1, h⟩ := h
  unfold t_most
  refine seq_gen fun k hk => ?_
  simp only [VL.wSeq, VL.wNext, VL.wNever, VL.wAsg, VL.wSet, VL.wVar, VL.wFrz, VL.wC, VL.wOp, VL.wTest, VL.wNotT, VL.wAndT, VL.wOrT, VL.wAnd, VL.wOr, VL.wNot, VL.wIf, VL.wNil, VL.wCons, VL.wTup, VL.wLst, VL.wStay, VL.wNew, VL.wPar, VL.wAug, VL.wDrop, VL.wRet, VL.wRetN, VL.wRet0, VL.wIfS, VL.wBrk, VL.wCnt, VL.wGt, VL.wGs, VL.wCB, VL.wCBN, VL.wCall, VL.wCallN, VL.wCallIo, VL.wCallIoN, VL.wCallK, VL.wIsi, VL.wIsi2, VL.wApp, VL.wExt, VL.wIns, VL.wSetIt, VL.wNoPart, VL.wPart, VL.wSl, VL.wSlN, VL.wChain, VL.wNeg, VL.wDnew, VL.wDput, VL.wDget, VL.wDin, VL.wDnin, VL.wIndex, VL.wRev, VL.wParNE, VL.wParEN, VL.wPar3, VL.wYes, VL.wSeqOf, VL.wRng1, VL.wRng2, VL.oI, VL.oI0, VL.oLt, VL.oLe, VL.oGt, VL.oGe, VL.oSub, VL.oMul, VL.oFdiv, VL.oMod, VL.oPow, VL.oShl', VL.oAbs, VL.oMax2, VL.oMin2, VL.oGcd, VL.atI_0, VL.atI_1, VL.atI_2, VL.ixN_20, VL.ixN_21, and_assoc, VL.shp_int, VL.shp_bool, VL.shp_none, VL.eqv_int, VL.eqv_bool, VL.isiD, VL.tyD, String.reduceBEq, Bool.not_true, Bool.not_false, Bool.and_true, Bool.and_false, Bool.true_and, Bool.false_and, Bool.or_true, Bool.or_false, Bool.true_or, Bool.false_or, decide_true, decide_false, Bool.not_eq_true', Bool.not_eq_eq_eq_not, decide_eq_true_eq, decide_eq_false_iff_not, VL.oInt1, VL.oInt2, VL.oLen, VL.oToInt, VL.oAdd, VL.oEq, VL.oNe, VL.oIsN, VL.oIn, VL.itemD, VL.isN, VL.der, VL.ders, VL.dats, VL.ioA, VL.endsV, VL.retE, VL.keepC, Option.map, List.range_succ, List.range_zero, List.map_cons, List.map_nil, List.map_append, List.nil_append, List.cons_append, List.append_nil, List.replicate_zero, List.replicate_succ, List.length_cons, List.length_nil, Nat.sub_self, List.getElem?_cons_zero, List.getElem?_cons_succ, List.set_cons_zero, List.set_cons_succ, Option.some.injEq, exists_eq_left', exists_eq_left, exists_eq_right, exists_and_left, exists_and_right, and_true, true_and, CV.d.injEq, CV.loc.injEq, Cell.lst.injEq, Cell.dat.injEq, Cell.dic.injEq, PyData.int.injEq, PyData.bool.injEq, PyData.list.injEq, PyData.tuple.injEq, PyData.str.injEq, reduceCtorEq, false_and, and_false, exists_false, false_or, or_false, if_true, if_false, reduceIte, Bool.false_eq_true, Nat.reduceAdd, Nat.reduceSub, Nat.succ_sub_succ, Nat.zero_add, VL.gP, List.filterMap_cons, List.filterMap_nil, List.cons.injEq, VL.wDisp0, VL.wDisp, VL.wPairs, VL.oLcm, VL.wPop, VL.wRevM, VL.wClearM, VL.wTupRg, VL.wListRg, VL.wR1, VL.wR2, VL.wRevN, VL.oRepT, VL.oRepL, S_check_count]
  refine ⟨n, rfl, h0, ?_⟩
  rw [hk]
  clear hk k
  have sz := sz16
  have en : ((n : Int) + 1) = ((n + 1 : Nat) : Int) := by omega
  simp only [VL.wSeq, VL.wNext, VL.wNever, VL.wAsg, VL.wSet, VL.wVar, VL.wFrz, VL.wC, VL.wOp, VL.wTest, VL.wNotT, VL.wAndT, VL.wOrT, VL.wAnd, VL.wOr, VL.wNot, VL.wIf, VL.wNil, VL.wCons, VL.wTup, VL.wLst, VL.wStay, VL.wNew, VL.wPar, VL.wAug, VL.wDrop, VL.wRet, VL.wRetN, VL.wRet0, VL.wIfS, VL.wBrk, VL.wCnt, VL.wGt, VL.wGs, VL.wCB, VL.wCBN, VL.wCall, VL.wCallN, VL.wCallIo, VL.wCallIoN, VL.wCallK, VL.wIsi, VL.wIsi2, VL.wApp, VL.wExt, VL.wIns, VL.wSetIt, VL.wNoPart, VL.wPart, VL.wSl, VL.wSlN, VL.wChain, VL.wNeg, VL.wDnew, VL.wDput, VL.wDget, VL.wDin, VL.wDnin, VL.wIndex, VL.wRev, VL.wParNE, VL.wParEN, VL.wPar3, VL.wYes, VL.wSeqOf, VL.wRng1, VL.wRng2, VL.oI, VL.oI0, VL.oLt, VL.oLe, VL.oGt, VL.oGe, VL.oSub, VL.oMul, VL.oFdiv, VL.oMod, VL.oPow, VL.oShl', VL.oAbs, VL.oMax2, VL.oMin2, VL.oGcd, VL.atI_0, VL.atI_1, VL.atI_2, VL.ixN_20, VL.ixN_21, and_assoc, VL.shp_int, VL.shp_bool, VL.shp_none, VL.eqv_int, VL.eqv_bool, VL.isiD, VL.tyD, String.reduceBEq, Bool.not_true, Bool.not_false, Bool.and_true, Bool.and_false, Bool.true_and, Bool.false_and, Bool.or_true, Bool.or_false, Bool.true_or, Bool.false_or, decide_true, decide_false, Bool.not_eq_true', Bool.not_eq_eq_eq_not, decide_eq_true_eq, decide_eq_false_iff_not, VL.oInt1, VL.oInt2, VL.oLen, VL.oToInt, VL.oAdd, VL.oEq, VL.oNe, VL.oIsN, VL.oIn, VL.itemD, VL.isN, VL.der, VL.ders, VL.dats, VL.ioA, VL.endsV, VL.retE, VL.keepC, Option.map, List.range_succ, List.range_zero, List.map_cons, List.map_nil, List.map_append, List.nil_append, List.cons_append, List.append_nil, List.replicate_zero, List.replicate_succ, List.length_cons, List.length_nil, Nat.sub_self, List.getElem?_cons_zero, List.getElem?_cons_succ, List.set_cons_zero, List.set_cons_succ, Option.some.injEq, exists_eq_left', exists_eq_left, exists_eq_right, exists_and_left, exists_and_right, and_true, true_and, CV.d.injEq, CV.loc.injEq, Cell.lst.injEq, Cell.dat.injEq, Cell.dic.injEq, PyData.int.injEq, PyData.bool.injEq, PyData.list.injEq, PyData.tuple.injEq, PyData.str.injEq, reduceCtorEq, false_and, and_false, exists_false, false_or, or_false, if_true, if_false, reduceIte, Bool.false_eq_true, Nat.reduceAdd, Nat.reduceSub, Nat.succ_sub_succ, Nat.zero_add, VL.gP, List.filterMap_cons, List.filterMap_nil, List.cons.injEq, VL.wDisp0, VL.wDisp, VL.wPairs, VL.oLcm, VL.wPop, VL.wRevM, VL.wClearM, VL.wTupRg, VL.wListRg, VL.wR1, VL.wR2, VL.wRevN, VL.oRepT, VL.oRepL, wGTup, wGx, wipeE, okLd, en]
  refine ⟨⟨by omega, by omega⟩, fun i acc ρ => acc = ((List.range i).map fun h => ((wsum (bin n h) : Nat) : Int)).map PyData.int ∧ ρ = [.dat (.int n), .un, .un], ⟨rfl, rfl⟩, ?_, ?_⟩
  · rintro i acc ρ d ⟨rfl, rfl⟩ hx
    obtain ⟨rfl, hi⟩ := rng_at hx
    obtain ⟨b1, b2, _⟩ := bin_bd n i h1 (by omega)
    simp only [VL.wSeq, VL.wNext, VL.wNever, VL.wAsg, VL.wSet, VL.wVar, VL.wFrz, VL.wC, VL.wOp, VL.wTest, VL.wNotT, VL.wAndT, VL.wOrT, VL.wAnd, VL.wOr, VL.wNot, VL.wIf, VL.wNil, VL.wCons, VL.wTup, VL.wLst, VL.wStay, VL.wNew, VL.wPar, VL.wAug, VL.wDrop, VL.wRet, VL.wRetN, VL.wRet0, VL.wIfS, VL.wBrk, VL.wCnt, VL.wGt, VL.wGs, VL.wCB, VL.wCBN, VL.wCall, VL.wCallN, VL.wCallIo, VL.wCallIoN, VL.wCallK, VL.wIsi, VL.wIsi2, VL.wApp, VL.wExt, VL.wIns, VL.wSetIt, VL.wNoPart, VL.wPart, VL.wSl, VL.wSlN, VL.wChain, VL.wNeg, VL.wDnew, VL.wDput, VL.wDget, VL.wDin, VL.wDnin, VL.wIndex, VL.wRev, VL.wParNE, VL.wParEN, VL.wPar3, VL.wYes, VL.wSeqOf, VL.wRng1, VL.wRng2, VL.oI, VL.oI0, VL.oLt, VL.oLe, VL.oGt, VL.oGe, VL.oSub, VL.oMul, VL.oFdiv, VL.oMod, VL.oPow, VL.oShl', VL.oAbs, VL.oMax2, VL.oMin2, VL.oGcd, VL.atI_0, VL.atI_1, VL.atI_2, VL.ixN_20, VL.ixN_21, and_assoc, VL.shp_int, VL.shp_bool, VL.shp_none, VL.eqv_int, VL.eqv_bool, VL.isiD, VL.tyD, String.reduceBEq, Bool.not_true, Bool.not_false, Bool.and_true, Bool.and_false, Bool.true_and, Bool.false_and, Bool.or_true, Bool.or_false, Bool.true_or, Bool.false_or, decide_true, decide_false, Bool.not_eq_true', Bool.not_eq_eq_eq_not, decide_eq_true_eq, decide_eq_false_iff_not, VL.oInt1, VL.oInt2, VL.oLen, VL.oToInt, VL.oAdd, VL.oEq, VL.oNe, VL.oIsN, VL.oIn, VL.itemD, VL.isN, VL.der, VL.ders, VL.dats, VL.ioA, VL.endsV, VL.retE, VL.keepC, Option.map, List.range_succ, List.range_zero, List.map_cons, List.map_nil, List.map_append, List.nil_append, List.cons_append, List.append_nil, List.replicate_zero, List.replicate_succ, List.length_cons, List.length_nil, Nat.sub_self, List.getElem?_cons_zero, List.getElem?_cons_succ, List.set_cons_zero, List.set_cons_succ, Option.some.injEq, exists_eq_left', exists_eq_left, exists_eq_right, exists_and_left, exists_and_right, and_true, true_and, CV.d.injEq, CV.loc.injEq, Cell.lst.injEq, Cell.dat.injEq, Cell.dic.injEq, PyData.int.injEq, PyData.bool.injEq, PyData.list.injEq, PyData.tuple.injEq, PyData.str.injEq, reduceCtorEq, false_and, and_false, exists_false, false_or, or_false, if_true, if_false, reduceIte, Bool.false_eq_true, Nat.reduceAdd, Nat.reduceSub, Nat.succ_sub_succ, Nat.zero_add, VL.gP, List.filterMap_cons, List.filterMap_nil, List.cons.injEq, VL.wDisp0, VL.wDisp, VL.wPairs, VL.oLcm, VL.wPop, VL.wRevM, VL.wClearM, VL.wTupRg, VL.wListRg, VL.wR1, VL.wR2, VL.wRevN, VL.oRepT, VL.oRepL, wGSum, wGx, wipeE, okId, S_stretches_of, oComb]
    refine ⟨n, rfl, i, rfl, h1, by omega, bin n i, rfl, b2, fun j acc ρ => sumD acc = (((stps (bin n i)).take j).map fun a => ((a * 2 ^ a : Nat) : Int)).sum ∧ ρ = [.dat (.int n), .dat (.int i), .un], ⟨rfl, rfl⟩, ?_, ?_⟩
    · rintro j acc ρ d ⟨ha, rfl⟩ hy
      rw [List.getElem?_map] at hy
      cases e : (stps (bin n i))[j]? with
      | none => rw [e] at hy; cases hy
      | some a =>
        rw [e] at hy
        cases hy
        obtain ⟨hj, e⟩ := List.getElem?_eq_some_iff.mp e
        simp only [VL.wSeq, VL.wNext, VL.wNever, VL.wAsg, VL.wSet, VL.wVar, VL.wFrz, VL.wC, VL.wOp, VL.wTest, VL.wNotT, VL.wAndT, VL.wOrT, VL.wAnd, VL.wOr, VL.wNot, VL.wIf, VL.wNil, VL.wCons, VL.wTup, VL.wLst, VL.wStay, VL.wNew, VL.wPar, VL.wAug, VL.wDrop, VL.wRet, VL.wRetN, VL.wRet0, VL.wIfS, VL.wBrk, VL.wCnt, VL.wGt, VL.wGs, VL.wCB, VL.wCBN, VL.wCall, VL.wCallN, VL.wCallIo, VL.wCallIoN, VL.wCallK, VL.wIsi, VL.wIsi2, VL.wApp, VL.wExt, VL.wIns, VL.wSetIt, VL.wNoPart, VL.wPart, VL.wSl, VL.wSlN, VL.wChain, VL.wNeg, VL.wDnew, VL.wDput, VL.wDget, VL.wDin, VL.wDnin, VL.wIndex, VL.wRev, VL.wParNE, VL.wParEN, VL.wPar3, VL.wYes, VL.wSeqOf, VL.wRng1, VL.wRng2, VL.oI, VL.oI0, VL.oLt, VL.oLe, VL.oGt, VL.oGe, VL.oSub, VL.oMul, VL.oFdiv, VL.oMod, VL.oPow, VL.oShl', VL.oAbs, VL.oMax2, VL.oMin2, VL.oGcd, VL.atI_0, VL.atI_1, VL.atI_2, VL.ixN_20, VL.ixN_21, and_assoc, VL.shp_int, VL.shp_bool, VL.shp_none, VL.eqv_int, VL.eqv_bool, VL.isiD, VL.tyD, String.reduceBEq, Bool.not_true, Bool.not_false, Bool.and_true, Bool.and_false, Bool.true_and, Bool.false_and, Bool.or_true, Bool.or_false, Bool.true_or, Bool.false_or, decide_true, decide_false, Bool.not_eq_true', Bool.not_eq_eq_eq_not, decide_eq_true_eq, decide_eq_false_iff_not, VL.oInt1, VL.oInt2, VL.oLen, VL.oToInt, VL.oAdd, VL.oEq, VL.oNe, VL.oIsN, VL.oIn, VL.itemD, VL.isN, VL.der, VL.ders, VL.dats, VL.ioA, VL.endsV, VL.retE, VL.keepC, Option.map, List.range_succ, List.range_zero, List.map_cons, List.map_nil, List.map_append, List.nil_append, List.cons_append, List.append_nil, List.replicate_zero, List.replicate_succ, List.length_cons, List.length_nil, Nat.sub_self, List.getElem?_cons_zero, List.getElem?_cons_succ, List.set_cons_zero, List.set_cons_succ, Option.some.injEq, exists_eq_left', exists_eq_left, exists_eq_right, exists_and_left, exists_and_right, and_true, true_and, CV.d.injEq, CV.loc.injEq, Cell.lst.injEq, Cell.dat.injEq, Cell.dic.injEq, PyData.int.injEq, PyData.bool.injEq, PyData.list.injEq, PyData.tuple.injEq, PyData.str.injEq, reduceCtorEq, false_and, and_false, exists_false, false_or, or_false, if_true, if_false, reduceIte, Bool.false_eq_true, Nat.reduceAdd, Nat.reduceSub, Nat.succ_sub_succ, Nat.zero_add, VL.gP, List.filterMap_cons, List.filterMap_nil, List.cons.injEq, VL.wDisp0, VL.wDisp, VL.wPairs, VL.oLcm, VL.wPop, VL.wRevM, VL.wClearM, VL.wTupRg, VL.wListRg, VL.wR1, VL.wR2, VL.wRevN, VL.oRepT, VL.oRepL, sumD_snoc, ha]
        have al : a < 10 := by
          have := bits_le b2
          rcases stps_le (show a ∈ stps (bin n i) by rw [← e]; exact List.getElem_mem hj) with z | z
          · omega
          · unfold stps sqs at hj
            rw [z] at hj
            cases hj
        have pa : (2 : Nat) ^ a ≤ 2 ^ 10 := Nat.pow_le_pow_right (by decide) (by omega)
        have ep : (1 * 2 ^ ((a : Nat) : Int).toNat : Int) = ((2 ^ a : Nat) : Int) := by rw [Int.toNat_natCast]; simp
        rw [ep]
        refine ⟨?_, cokn (by omega) (Int.lt_trans (show (a : Int) < 10 by omega) (by decide)) (Int.natCast_nonneg _) (Int.lt_trans (show ((2 ^ a : Nat) : Int) < 2 ^ 20 by omega) (by decide)), ⟨_, rfl⟩, ?_⟩
        · refine ⟨by omega, ?_⟩
          rw [show (((1 : Int).natAbs.log2 : Nat) : Int) = 0 from rfl]
          omega
        · rw [List.take_succ_eq_append_getElem hj, List.map_append, List.sum_append, e]
          simp
    · rintro acc ρ ⟨ha, rfl⟩
      simp only [VL.wSeq, VL.wNext, VL.wNever, VL.wAsg, VL.wSet, VL.wVar, VL.wFrz, VL.wC, VL.wOp, VL.wTest, VL.wNotT, VL.wAndT, VL.wOrT, VL.wAnd, VL.wOr, VL.wNot, VL.wIf, VL.wNil, VL.wCons, VL.wTup, VL.wLst, VL.wStay, VL.wNew, VL.wPar, VL.wAug, VL.wDrop, VL.wRet, VL.wRetN, VL.wRet0, VL.wIfS, VL.wBrk, VL.wCnt, VL.wGt, VL.wGs, VL.wCB, VL.wCBN, VL.wCall, VL.wCallN, VL.wCallIo, VL.wCallIoN, VL.wCallK, VL.wIsi, VL.wIsi2, VL.wApp, VL.wExt, VL.wIns, VL.wSetIt, VL.wNoPart, VL.wPart, VL.wSl, VL.wSlN, VL.wChain, VL.wNeg, VL.wDnew, VL.wDput, VL.wDget, VL.wDin, VL.wDnin, VL.wIndex, VL.wRev, VL.wParNE, VL.wParEN, VL.wPar3, VL.wYes, VL.wSeqOf, VL.wRng1, VL.wRng2, VL.oI, VL.oI0, VL.oLt, VL.oLe, VL.oGt, VL.oGe, VL.oSub, VL.oMul, VL.oFdiv, VL.oMod, VL.oPow, VL.oShl', VL.oAbs, VL.oMax2, VL.oMin2, VL.oGcd, VL.atI_0, VL.atI_1, VL.atI_2, VL.ixN_20, VL.ixN_21, and_assoc, VL.shp_int, VL.shp_bool, VL.shp_none, VL.eqv_int, VL.eqv_bool, VL.isiD, VL.tyD, String.reduceBEq, Bool.not_true, Bool.not_false, Bool.and_true, Bool.and_false, Bool.true_and, Bool.false_and, Bool.or_true, Bool.or_false, Bool.true_or, Bool.false_or, decide_true, decide_false, Bool.not_eq_true', Bool.not_eq_eq_eq_not, decide_eq_true_eq, decide_eq_false_iff_not, VL.oInt1, VL.oInt2, VL.oLen, VL.oToInt, VL.oAdd, VL.oEq, VL.oNe, VL.oIsN, VL.oIn, VL.itemD, VL.isN, VL.der, VL.ders, VL.dats, VL.ioA, VL.endsV, VL.retE, VL.keepC, Option.map, List.range_succ, List.range_zero, List.map_cons, List.map_nil, List.map_append, List.nil_append, List.cons_append, List.append_nil, List.replicate_zero, List.replicate_succ, List.length_cons, List.length_nil, Nat.sub_self, List.getElem?_cons_zero, List.getElem?_cons_succ, List.set_cons_zero, List.set_cons_succ, Option.some.injEq, exists_eq_left', exists_eq_left, exists_eq_right, exists_and_left, exists_and_right, and_true, true_and, CV.d.injEq, CV.loc.injEq, Cell.lst.injEq, Cell.dat.injEq, Cell.dic.injEq, PyData.int.injEq, PyData.bool.injEq, PyData.list.injEq, PyData.tuple.injEq, PyData.str.injEq, reduceCtorEq, false_and, and_false, exists_false, false_or, or_false, if_true, if_false, reduceIte, Bool.false_eq_true, Nat.reduceAdd, Nat.reduceSub, Nat.succ_sub_succ, Nat.zero_add, VL.gP, List.filterMap_cons, List.filterMap_nil, List.cons.injEq, VL.wDisp0, VL.wDisp, VL.wPairs, VL.oLcm, VL.wPop, VL.wRevM, VL.wClearM, VL.wTupRg, VL.wListRg, VL.wR1, VL.wR2, VL.wRevN, VL.oRepT, VL.oRepL]
      rw [List.length_map, List.take_of_length_le (Nat.le_refl _)] at ha
      have es : ∀ l : List Nat, (l.map fun a => ((a * 2 ^ a : Nat) : Int)).sum = (((l.map fun a => a * 2 ^ a).sum : Nat) : Int) := fun l => by
        induction l with
        | nil => rfl
        | cons a l ih => rw [List.map_cons, List.sum_cons, ih, List.map_cons, List.sum_cons]; omega
      rw [ha, es]
      refine ⟨?_, rfl⟩
      rw [List.length_map, List.length_map, List.length_range]
      omega
  · rintro acc ρ ⟨rfl, rfl⟩
    rw [rng_len]
    refine ⟨?_, h⟩
    rw [List.length_map, List.length_map, List.length_range]
    omega
theorem mostL_len (n : Nat) : (mostL n).length = n + 1 := by simp [mostL]
theorem mostL_at {n i : Nat} {y : Int} (h : (mostL n)[i]? = some y) : i < n + 1 ∧ y = ((wsum (bin n i) : Nat) : Int) := by
  obtain ⟨hi, e⟩ := List.getElem?_eq_some_iff.mp h
  rw [mostL_len] at hi
  refine ⟨hi, ?_⟩
  rw [← e]
  simp [mostL]
def cntL (n : Nat) (l : List (List Int)) : List Int := (List.range (n + 1)).map fun h => ((cnt l (h : Nat) : Nat) : Int)
def binL (n : Nat) : List Int := (List.range (n + 1)).map fun h => ((bin n h : Nat) : Int)
theorem cntL_len (n : Nat) (l : List (List Int)) : (cntL n l).length = n + 1 := by simp [cntL]
theorem binL_len (n : Nat) : (binL n).length = n + 1 := by simp [binL]
theorem cntL_rows (n : Nat) : cntL n (rows n) = binL n := by
  unfold cntL binL
  refine List.map_congr_left fun h _ => ?_
  rw [cnt_rows]
theorem cntL_at {n s : Nat} {l : List (List Int)} (h : s ≤ n) : atI ((cntL n l).map PyData.int) (s : Int) = some (.int (cnt l (s : Nat) : Nat)) := by
  rw [atI_ints (by rw [cntL_len]; omega)]
  simp [cntL]
theorem binL_at {n s : Nat} (h : s ≤ n) : atI ((binL n).map PyData.int) (s : Int) = some (.int (bin n s : Nat)) := by
  rw [atI_ints (by rw [binL_len]; omega)]
  simp [binL]
theorem cnt_snoc (l : List (List Int)) (r : List Int) (h : Int) : cnt (l ++ [r]) h = cnt l h + if r.sum = h then 1 else 0 := by
  unfold cnt
  rw [List.countP_append, List.countP_cons, List.countP_nil]
  simp
theorem cntL_set {n s : Nat} {l : List (List Int)} {r : List Int} (hs : r.sum = (s : Int)) : ((cntL n l).map PyData.int).set s (.int (((cnt l (s : Nat) : Nat) : Int) + 1)) = (cntL n (l ++ [r])).map PyData.int := by
  refine List.ext_getElem (by simp [cntL]) fun i h1 h2 => ?_
  rw [List.getElem_set]
  simp only [cntL, List.getElem_map, List.getElem_range, cnt_snoc, hs]
  split
  · rename_i e
    subst e
    rw [if_pos rfl]
    rfl
  · rename_i e
    rw [if_neg (by omega)]
    rfl
def sumT (n : Nat) (t u : Int) (i : Nat) : Int := ((List.range i).map (term n t u)).sum
theorem sumT_succ (n : Nat) (t u : Int) (i : Nat) : sumT n t u (i + 1) = sumT n t u i + term n t u i := sum_take _ i
theorem h__law_mean (ρ : En) (Q : RV → En → Prop) (h : S__law_mean ρ Q) : t__law_mean (endsV 2 Q) (ρ ++ List.replicate (10 - 2) .un) := by
  obtain ⟨n, q, rfl, h0, h1, S, h⟩ := h
  have sz := sz16
  have en : ((n : Int) + 1) = ((n + 1 : Nat) : Int) := by omega
  have qn : ((q.num.toNat : Nat) : Int) = q.num := by have := S.lo; omega
  unfold t__law_mean rD
  refine seq_gen fun k hk => ?_
  simp only [VL.wSeq, VL.wNext, VL.wNever, VL.wAsg, VL.wSet, VL.wVar, VL.wFrz, VL.wC, VL.wOp, VL.wTest, VL.wNotT, VL.wAndT, VL.wOrT, VL.wAnd, VL.wOr, VL.wNot, VL.wIf, VL.wNil, VL.wCons, VL.wTup, VL.wLst, VL.wStay, VL.wNew, VL.wPar, VL.wAug, VL.wDrop, VL.wRet, VL.wRetN, VL.wRet0, VL.wIfS, VL.wBrk, VL.wCnt, VL.wGt, VL.wGs, VL.wCB, VL.wCBN, VL.wCall, VL.wCallN, VL.wCallIo, VL.wCallIoN, VL.wCallK, VL.wIsi, VL.wIsi2, VL.wApp, VL.wExt, VL.wIns, VL.wSetIt, VL.wNoPart, VL.wPart, VL.wSl, VL.wSlN, VL.wChain, VL.wNeg, VL.wDnew, VL.wDput, VL.wDget, VL.wDin, VL.wDnin, VL.wIndex, VL.wRev, VL.wParNE, VL.wParEN, VL.wPar3, VL.wYes, VL.wSeqOf, VL.wRng1, VL.wRng2, VL.oI, VL.oI0, VL.oLt, VL.oLe, VL.oGt, VL.oGe, VL.oSub, VL.oMul, VL.oFdiv, VL.oMod, VL.oPow, VL.oShl', VL.oAbs, VL.oMax2, VL.oMin2, VL.oGcd, VL.atI_0, VL.atI_1, VL.atI_2, VL.ixN_20, VL.ixN_21, and_assoc, VL.shp_int, VL.shp_bool, VL.shp_none, VL.eqv_int, VL.eqv_bool, VL.isiD, VL.tyD, String.reduceBEq, Bool.not_true, Bool.not_false, Bool.and_true, Bool.and_false, Bool.true_and, Bool.false_and, Bool.or_true, Bool.or_false, Bool.true_or, Bool.false_or, decide_true, decide_false, Bool.not_eq_true', Bool.not_eq_eq_eq_not, decide_eq_true_eq, decide_eq_false_iff_not, VL.oInt1, VL.oInt2, VL.oLen, VL.oToInt, VL.oAdd, VL.oEq, VL.oNe, VL.oIsN, VL.oIn, VL.itemD, VL.isN, VL.der, VL.ders, VL.dats, VL.ioA, VL.endsV, VL.retE, VL.keepC, Option.map, List.range_succ, List.range_zero, List.map_cons, List.map_nil, List.map_append, List.nil_append, List.cons_append, List.append_nil, List.replicate_zero, List.replicate_succ, List.length_cons, List.length_nil, Nat.sub_self, List.getElem?_cons_zero, List.getElem?_cons_succ, List.set_cons_zero, List.set_cons_succ, Option.some.injEq, exists_eq_left', exists_eq_left, exists_eq_right, exists_and_left, exists_and_right, and_true, true_and, CV.d.injEq, CV.loc.injEq, Cell.lst.injEq, Cell.dat.injEq, Cell.dic.injEq, PyData.int.injEq, PyData.bool.injEq, PyData.list.injEq, PyData.tuple.injEq, PyData.str.injEq, reduceCtorEq, false_and, and_false, exists_false, false_or, or_false, if_true, if_false, reduceIte, Bool.false_eq_true, Nat.reduceAdd, Nat.reduceSub, Nat.succ_sub_succ, Nat.zero_add, VL.gP, List.filterMap_cons, List.filterMap_nil, List.cons.injEq, VL.wDisp0, VL.wDisp, VL.wPairs, VL.oLcm, VL.wPop, VL.wRevM, VL.wClearM, VL.wTupRg, VL.wListRg, VL.wR1, VL.wR2, VL.wRevN, VL.oRepT, VL.oRepL]
  rw [hk]
  clear hk k
  refine seq_gen fun k hk => ?_
  simp only [VL.wSeq, VL.wNext, VL.wNever, VL.wAsg, VL.wSet, VL.wVar, VL.wFrz, VL.wC, VL.wOp, VL.wTest, VL.wNotT, VL.wAndT, VL.wOrT, VL.wAnd, VL.wOr, VL.wNot, VL.wIf, VL.wNil, VL.wCons, VL.wTup, VL.wLst, VL.wStay, VL.wNew, VL.wPar, VL.wAug, VL.wDrop, VL.wRet, VL.wRetN, VL.wRet0, VL.wIfS, VL.wBrk, VL.wCnt, VL.wGt, VL.wGs, VL.wCB, VL.wCBN, VL.wCall, VL.wCallN, VL.wCallIo, VL.wCallIoN, VL.wCallK, VL.wIsi, VL.wIsi2, VL.wApp, VL.wExt, VL.wIns, VL.wSetIt, VL.wNoPart, VL.wPart, VL.wSl, VL.wSlN, VL.wChain, VL.wNeg, VL.wDnew, VL.wDput, VL.wDget, VL.wDin, VL.wDnin, VL.wIndex, VL.wRev, VL.wParNE, VL.wParEN, VL.wPar3, VL.wYes, VL.wSeqOf, VL.wRng1, VL.wRng2, VL.oI, VL.oI0, VL.oLt, VL.oLe, VL.oGt, VL.oGe, VL.oSub, VL.oMul, VL.oFdiv, VL.oMod, VL.oPow, VL.oShl', VL.oAbs, VL.oMax2, VL.oMin2, VL.oGcd, VL.atI_0, VL.atI_1, VL.atI_2, VL.ixN_20, VL.ixN_21, and_assoc, VL.shp_int, VL.shp_bool, VL.shp_none, VL.eqv_int, VL.eqv_bool, VL.isiD, VL.tyD, String.reduceBEq, Bool.not_true, Bool.not_false, Bool.and_true, Bool.and_false, Bool.true_and, Bool.false_and, Bool.or_true, Bool.or_false, Bool.true_or, Bool.false_or, decide_true, decide_false, Bool.not_eq_true', Bool.not_eq_eq_eq_not, decide_eq_true_eq, decide_eq_false_iff_not, VL.oInt1, VL.oInt2, VL.oLen, VL.oToInt, VL.oAdd, VL.oEq, VL.oNe, VL.oIsN, VL.oIn, VL.itemD, VL.isN, VL.der, VL.ders, VL.dats, VL.ioA, VL.endsV, VL.retE, VL.keepC, Option.map, List.range_succ, List.range_zero, List.map_cons, List.map_nil, List.map_append, List.nil_append, List.cons_append, List.append_nil, List.replicate_zero, List.replicate_succ, List.length_cons, List.length_nil, Nat.sub_self, List.getElem?_cons_zero, List.getElem?_cons_succ, List.set_cons_zero, List.set_cons_succ, Option.some.injEq, exists_eq_left', exists_eq_left, exists_eq_right, exists_and_left, exists_and_right, and_true, true_and, CV.d.injEq, CV.loc.injEq, Cell.lst.injEq, Cell.dat.injEq, Cell.dic.injEq, PyData.int.injEq, PyData.bool.injEq, PyData.list.injEq, PyData.tuple.injEq, PyData.str.injEq, reduceCtorEq, false_and, and_false, exists_false, false_or, or_false, if_true, if_false, reduceIte, Bool.false_eq_true, Nat.reduceAdd, Nat.reduceSub, Nat.succ_sub_succ, Nat.zero_add, VL.gP, List.filterMap_cons, List.filterMap_nil, List.cons.injEq, VL.wDisp0, VL.wDisp, VL.wPairs, VL.oLcm, VL.wPop, VL.wRevM, VL.wClearM, VL.wTupRg, VL.wListRg, VL.wR1, VL.wR2, VL.wRevN, VL.oRepT, VL.oRepL, wOpN, oRepN, en]
  refine ⟨by omega, by omega, by omega, by omega, by decide, ?_⟩
  rw [hk]
  clear hk k
  refine seq_gen fun k hk => ?_
  refine for_body fun B hB => ?_
  unfold wFor
  simp only [VL.wSeq, VL.wNext, VL.wNever, VL.wAsg, VL.wSet, VL.wVar, VL.wFrz, VL.wC, VL.wOp, VL.wTest, VL.wNotT, VL.wAndT, VL.wOrT, VL.wAnd, VL.wOr, VL.wNot, VL.wIf, VL.wNil, VL.wCons, VL.wTup, VL.wLst, VL.wStay, VL.wNew, VL.wPar, VL.wAug, VL.wDrop, VL.wRet, VL.wRetN, VL.wRet0, VL.wIfS, VL.wBrk, VL.wCnt, VL.wGt, VL.wGs, VL.wCB, VL.wCBN, VL.wCall, VL.wCallN, VL.wCallIo, VL.wCallIoN, VL.wCallK, VL.wIsi, VL.wIsi2, VL.wApp, VL.wExt, VL.wIns, VL.wSetIt, VL.wNoPart, VL.wPart, VL.wSl, VL.wSlN, VL.wChain, VL.wNeg, VL.wDnew, VL.wDput, VL.wDget, VL.wDin, VL.wDnin, VL.wIndex, VL.wRev, VL.wParNE, VL.wParEN, VL.wPar3, VL.wYes, VL.wSeqOf, VL.wRng1, VL.wRng2, VL.oI, VL.oI0, VL.oLt, VL.oLe, VL.oGt, VL.oGe, VL.oSub, VL.oMul, VL.oFdiv, VL.oMod, VL.oPow, VL.oShl', VL.oAbs, VL.oMax2, VL.oMin2, VL.oGcd, VL.atI_0, VL.atI_1, VL.atI_2, VL.ixN_20, VL.ixN_21, and_assoc, VL.shp_int, VL.shp_bool, VL.shp_none, VL.eqv_int, VL.eqv_bool, VL.isiD, VL.tyD, String.reduceBEq, Bool.not_true, Bool.not_false, Bool.and_true, Bool.and_false, Bool.true_and, Bool.false_and, Bool.or_true, Bool.or_false, Bool.true_or, Bool.false_or, decide_true, decide_false, Bool.not_eq_true', Bool.not_eq_eq_eq_not, decide_eq_true_eq, decide_eq_false_iff_not, VL.oInt1, VL.oInt2, VL.oLen, VL.oToInt, VL.oAdd, VL.oEq, VL.oNe, VL.oIsN, VL.oIn, VL.itemD, VL.isN, VL.der, VL.ders, VL.dats, VL.ioA, VL.endsV, VL.retE, VL.keepC, Option.map, List.range_succ, List.range_zero, List.map_cons, List.map_nil, List.map_append, List.nil_append, List.cons_append, List.append_nil, List.replicate_zero, List.replicate_succ, List.length_cons, List.length_nil, Nat.sub_self, List.getElem?_cons_zero, List.getElem?_cons_succ, List.set_cons_zero, List.set_cons_succ, Option.some.injEq, exists_eq_left', exists_eq_left, exists_eq_right, exists_and_left, exists_and_right, and_true, true_and, CV.d.injEq, CV.loc.injEq, Cell.lst.injEq, Cell.dat.injEq, Cell.dic.injEq, PyData.int.injEq, PyData.bool.injEq, PyData.list.injEq, PyData.tuple.injEq, PyData.str.injEq, reduceCtorEq, false_and, and_false, exists_false, false_or, or_false, if_true, if_false, reduceIte, Bool.false_eq_true, Nat.reduceAdd, Nat.reduceSub, Nat.succ_sub_succ, Nat.zero_add, VL.gP, List.filterMap_cons, List.filterMap_nil, List.cons.injEq, VL.wDisp0, VL.wDisp, VL.wPairs, VL.oLcm, VL.wPop, VL.wRevM, VL.wClearM, VL.wTupRg, VL.wListRg, VL.wR1, VL.wR2, VL.wRevN, VL.oRepT, VL.oRepL, S__law_rows]
  refine ⟨n, rfl, h1, fun i ρ => ∃ c2, ρ = [.dat (.int n), .dat (.tuple [.int q.num, .int q.den]), c2, .un, .dat (.int q.num), .dat (.int q.den), .lst false ((cntL n ((rows n).take i)).map PyData.int), .dat (.int 0), .un, .un], ?_, ?_, ?_⟩
  · refine ⟨.un, ?_⟩
    have g : ∀ m : Nat, (List.replicate m [PyData.int 0]).flatten = List.replicate m (PyData.int 0) := fun m => by
      induction m with
      | zero => rfl
      | succ m ih => rw [List.replicate_succ, List.flatten_cons, ih]; rfl
    have e0 : (List.replicate ((n + 1 : Nat) : Int).toNat [PyData.int 0]).flatten = (cntL n ((rows n).take 0)).map PyData.int := by
      rw [Int.toNat_natCast, g]
      refine List.ext_getElem (by simp [cntL]) fun i h1 h2 => ?_
      simp [cntL, cnt]
    rw [e0]
  · rintro i ρ d ⟨c2, rfl⟩ hx
    obtain ⟨hi, rfl⟩ := rowsD_at hx
    obtain ⟨rl, rb⟩ := rows_each n _ (List.getElem_mem hi)
    obtain ⟨s0, s1⟩ := sum_nonneg _ rb
    obtain ⟨s, hs⟩ : ∃ s : Nat, (rows n)[i].sum = (s : Int) := ⟨((rows n)[i].sum).toNat, by omega⟩
    have sn : s ≤ n := by omega
    unfold intT
    simp only [VL.wSeq, VL.wNext, VL.wNever, VL.wAsg, VL.wSet, VL.wVar, VL.wFrz, VL.wC, VL.wOp, VL.wTest, VL.wNotT, VL.wAndT, VL.wOrT, VL.wAnd, VL.wOr, VL.wNot, VL.wIf, VL.wNil, VL.wCons, VL.wTup, VL.wLst, VL.wStay, VL.wNew, VL.wPar, VL.wAug, VL.wDrop, VL.wRet, VL.wRetN, VL.wRet0, VL.wIfS, VL.wBrk, VL.wCnt, VL.wGt, VL.wGs, VL.wCB, VL.wCBN, VL.wCall, VL.wCallN, VL.wCallIo, VL.wCallIoN, VL.wCallK, VL.wIsi, VL.wIsi2, VL.wApp, VL.wExt, VL.wIns, VL.wSetIt, VL.wNoPart, VL.wPart, VL.wSl, VL.wSlN, VL.wChain, VL.wNeg, VL.wDnew, VL.wDput, VL.wDget, VL.wDin, VL.wDnin, VL.wIndex, VL.wRev, VL.wParNE, VL.wParEN, VL.wPar3, VL.wYes, VL.wSeqOf, VL.wRng1, VL.wRng2, VL.oI, VL.oI0, VL.oLt, VL.oLe, VL.oGt, VL.oGe, VL.oSub, VL.oMul, VL.oFdiv, VL.oMod, VL.oPow, VL.oShl', VL.oAbs, VL.oMax2, VL.oMin2, VL.oGcd, VL.atI_0, VL.atI_1, VL.atI_2, VL.ixN_20, VL.ixN_21, and_assoc, VL.shp_int, VL.shp_bool, VL.shp_none, VL.eqv_int, VL.eqv_bool, VL.isiD, VL.tyD, String.reduceBEq, Bool.not_true, Bool.not_false, Bool.and_true, Bool.and_false, Bool.true_and, Bool.false_and, Bool.or_true, Bool.or_false, Bool.true_or, Bool.false_or, decide_true, decide_false, Bool.not_eq_true', Bool.not_eq_eq_eq_not, decide_eq_true_eq, decide_eq_false_iff_not, VL.oInt1, VL.oInt2, VL.oLen, VL.oToInt, VL.oAdd, VL.oEq, VL.oNe, VL.oIsN, VL.oIn, VL.itemD, VL.isN, VL.der, VL.ders, VL.dats, VL.ioA, VL.endsV, VL.retE, VL.keepC, Option.map, List.range_succ, List.range_zero, List.map_cons, List.map_nil, List.map_append, List.nil_append, List.cons_append, List.append_nil, List.replicate_zero, List.replicate_succ, List.length_cons, List.length_nil, Nat.sub_self, List.getElem?_cons_zero, List.getElem?_cons_succ, List.set_cons_zero, List.set_cons_succ, Option.some.injEq, exists_eq_left', exists_eq_left, exists_eq_right, exists_and_left, exists_and_right, and_true, true_and, CV.d.injEq, CV.loc.injEq, Cell.lst.injEq, Cell.dat.injEq, Cell.dic.injEq, PyData.int.injEq, PyData.bool.injEq, PyData.list.injEq, PyData.tuple.injEq, PyData.str.injEq, reduceCtorEq, false_and, and_false, exists_false, false_or, or_false, if_true, if_false, reduceIte, Bool.false_eq_true, Nat.reduceAdd, Nat.reduceSub, Nat.succ_sub_succ, Nat.zero_add, VL.gP, List.filterMap_cons, List.filterMap_nil, List.cons.injEq, VL.wDisp0, VL.wDisp, VL.wPairs, VL.oLcm, VL.wPop, VL.wRevM, VL.wClearM, VL.wTupRg, VL.wListRg, VL.wR1, VL.wR2, VL.wRevN, VL.oRepT, VL.oRepL]
    rw [hB]
    simp only [VL.wSeq, VL.wNext, VL.wNever, VL.wAsg, VL.wSet, VL.wVar, VL.wFrz, VL.wC, VL.wOp, VL.wTest, VL.wNotT, VL.wAndT, VL.wOrT, VL.wAnd, VL.wOr, VL.wNot, VL.wIf, VL.wNil, VL.wCons, VL.wTup, VL.wLst, VL.wStay, VL.wNew, VL.wPar, VL.wAug, VL.wDrop, VL.wRet, VL.wRetN, VL.wRet0, VL.wIfS, VL.wBrk, VL.wCnt, VL.wGt, VL.wGs, VL.wCB, VL.wCBN, VL.wCall, VL.wCallN, VL.wCallIo, VL.wCallIoN, VL.wCallK, VL.wIsi, VL.wIsi2, VL.wApp, VL.wExt, VL.wIns, VL.wSetIt, VL.wNoPart, VL.wPart, VL.wSl, VL.wSlN, VL.wChain, VL.wNeg, VL.wDnew, VL.wDput, VL.wDget, VL.wDin, VL.wDnin, VL.wIndex, VL.wRev, VL.wParNE, VL.wParEN, VL.wPar3, VL.wYes, VL.wSeqOf, VL.wRng1, VL.wRng2, VL.oI, VL.oI0, VL.oLt, VL.oLe, VL.oGt, VL.oGe, VL.oSub, VL.oMul, VL.oFdiv, VL.oMod, VL.oPow, VL.oShl', VL.oAbs, VL.oMax2, VL.oMin2, VL.oGcd, VL.atI_0, VL.atI_1, VL.atI_2, VL.ixN_20, VL.ixN_21, and_assoc, VL.shp_int, VL.shp_bool, VL.shp_none, VL.eqv_int, VL.eqv_bool, VL.isiD, VL.tyD, String.reduceBEq, Bool.not_true, Bool.not_false, Bool.and_true, Bool.and_false, Bool.true_and, Bool.false_and, Bool.or_true, Bool.or_false, Bool.true_or, Bool.false_or, decide_true, decide_false, Bool.not_eq_true', Bool.not_eq_eq_eq_not, decide_eq_true_eq, decide_eq_false_iff_not, VL.oInt1, VL.oInt2, VL.oLen, VL.oToInt, VL.oAdd, VL.oEq, VL.oNe, VL.oIsN, VL.oIn, VL.itemD, VL.isN, VL.der, VL.ders, VL.dats, VL.ioA, VL.endsV, VL.retE, VL.keepC, Option.map, List.range_succ, List.range_zero, List.map_cons, List.map_nil, List.map_append, List.nil_append, List.cons_append, List.append_nil, List.replicate_zero, List.replicate_succ, List.length_cons, List.length_nil, Nat.sub_self, List.getElem?_cons_zero, List.getElem?_cons_succ, List.set_cons_zero, List.set_cons_succ, Option.some.injEq, exists_eq_left', exists_eq_left, exists_eq_right, exists_and_left, exists_and_right, and_true, true_and, CV.d.injEq, CV.loc.injEq, Cell.lst.injEq, Cell.dat.injEq, Cell.dic.injEq, PyData.int.injEq, PyData.bool.injEq, PyData.list.injEq, PyData.tuple.injEq, PyData.str.injEq, reduceCtorEq, false_and, and_false, exists_false, false_or, or_false, if_true, if_false, reduceIte, Bool.false_eq_true, Nat.reduceAdd, Nat.reduceSub, Nat.succ_sub_succ, Nat.zero_add, VL.gP, List.filterMap_cons, List.filterMap_nil, List.cons.injEq, VL.wDisp0, VL.wDisp, VL.wPairs, VL.oLcm, VL.wPop, VL.wRevM, VL.wClearM, VL.wTupRg, VL.wListRg, VL.wR1, VL.wR2, VL.wRevN, VL.oRepT, VL.oRepL, oSumA, intsOf_of, hs, cntL_at sn]
    refine ⟨⟨_, rfl⟩, s, ?_, ?_⟩
    · rw [List.length_map, cntL_len]
      simp [ixN]
      omega
    · rw [cntL_set hs, ← List.take_succ_eq_append_getElem hi]
  rintro ρ ⟨c2, rfl⟩
  rw [rowsD_len, List.take_of_length_le (Nat.le_refl _), cntL_rows, hk]
  clear hk k hB B
  refine seq_gen fun k hk => ?_
  refine for_body fun B hB => ?_
  unfold wFor
  simp only [VL.wSeq, VL.wNext, VL.wNever, VL.wAsg, VL.wSet, VL.wVar, VL.wFrz, VL.wC, VL.wOp, VL.wTest, VL.wNotT, VL.wAndT, VL.wOrT, VL.wAnd, VL.wOr, VL.wNot, VL.wIf, VL.wNil, VL.wCons, VL.wTup, VL.wLst, VL.wStay, VL.wNew, VL.wPar, VL.wAug, VL.wDrop, VL.wRet, VL.wRetN, VL.wRet0, VL.wIfS, VL.wBrk, VL.wCnt, VL.wGt, VL.wGs, VL.wCB, VL.wCBN, VL.wCall, VL.wCallN, VL.wCallIo, VL.wCallIoN, VL.wCallK, VL.wIsi, VL.wIsi2, VL.wApp, VL.wExt, VL.wIns, VL.wSetIt, VL.wNoPart, VL.wPart, VL.wSl, VL.wSlN, VL.wChain, VL.wNeg, VL.wDnew, VL.wDput, VL.wDget, VL.wDin, VL.wDnin, VL.wIndex, VL.wRev, VL.wParNE, VL.wParEN, VL.wPar3, VL.wYes, VL.wSeqOf, VL.wRng1, VL.wRng2, VL.oI, VL.oI0, VL.oLt, VL.oLe, VL.oGt, VL.oGe, VL.oSub, VL.oMul, VL.oFdiv, VL.oMod, VL.oPow, VL.oShl', VL.oAbs, VL.oMax2, VL.oMin2, VL.oGcd, VL.atI_0, VL.atI_1, VL.atI_2, VL.ixN_20, VL.ixN_21, and_assoc, VL.shp_int, VL.shp_bool, VL.shp_none, VL.eqv_int, VL.eqv_bool, VL.isiD, VL.tyD, String.reduceBEq, Bool.not_true, Bool.not_false, Bool.and_true, Bool.and_false, Bool.true_and, Bool.false_and, Bool.or_true, Bool.or_false, Bool.true_or, Bool.false_or, decide_true, decide_false, Bool.not_eq_true', Bool.not_eq_eq_eq_not, decide_eq_true_eq, decide_eq_false_iff_not, VL.oInt1, VL.oInt2, VL.oLen, VL.oToInt, VL.oAdd, VL.oEq, VL.oNe, VL.oIsN, VL.oIn, VL.itemD, VL.isN, VL.der, VL.ders, VL.dats, VL.ioA, VL.endsV, VL.retE, VL.keepC, Option.map, List.range_succ, List.range_zero, List.map_cons, List.map_nil, List.map_append, List.nil_append, List.cons_append, List.append_nil, List.replicate_zero, List.replicate_succ, List.length_cons, List.length_nil, Nat.sub_self, List.getElem?_cons_zero, List.getElem?_cons_succ, List.set_cons_zero, List.set_cons_succ, Option.some.injEq, exists_eq_left', exists_eq_left, exists_eq_right, exists_and_left, exists_and_right, and_true, true_and, CV.d.injEq, CV.loc.injEq, Cell.lst.injEq, Cell.dat.injEq, Cell.dic.injEq, PyData.int.injEq, PyData.bool.injEq, PyData.list.injEq, PyData.tuple.injEq, PyData.str.injEq, reduceCtorEq, false_and, and_false, exists_false, false_or, or_false, if_true, if_false, reduceIte, Bool.false_eq_true, Nat.reduceAdd, Nat.reduceSub, Nat.succ_sub_succ, Nat.zero_add, VL.gP, List.filterMap_cons, List.filterMap_nil, List.cons.injEq, VL.wDisp0, VL.wDisp, VL.wPairs, VL.oLcm, VL.wPop, VL.wRevM, VL.wClearM, VL.wTupRg, VL.wListRg, VL.wR1, VL.wR2, VL.wRevN, VL.oRepT, VL.oRepL, en]
  refine ⟨⟨by omega, by omega⟩, fun i ρ => ∃ c2 c3 c8, ρ = [.dat (.int n), .dat (.tuple [.int q.num, .int q.den]), c2, c3, .dat (.int q.num), .dat (.int q.den), .lst false ((binL n).map PyData.int), .dat (.int (sumT n q.num (q.den - q.num) i)), c8, .un], ?_, ?_, ?_⟩
  · exact ⟨_, _, _, rfl⟩
  · rintro i ρ d ⟨c2, c3, c8, rfl⟩ hx
    obtain ⟨rfl, hi⟩ := rng_at hx
    simp only [VL.wSeq, VL.wNext, VL.wNever, VL.wAsg, VL.wSet, VL.wVar, VL.wFrz, VL.wC, VL.wOp, VL.wTest, VL.wNotT, VL.wAndT, VL.wOrT, VL.wAnd, VL.wOr, VL.wNot, VL.wIf, VL.wNil, VL.wCons, VL.wTup, VL.wLst, VL.wStay, VL.wNew, VL.wPar, VL.wAug, VL.wDrop, VL.wRet, VL.wRetN, VL.wRet0, VL.wIfS, VL.wBrk, VL.wCnt, VL.wGt, VL.wGs, VL.wCB, VL.wCBN, VL.wCall, VL.wCallN, VL.wCallIo, VL.wCallIoN, VL.wCallK, VL.wIsi, VL.wIsi2, VL.wApp, VL.wExt, VL.wIns, VL.wSetIt, VL.wNoPart, VL.wPart, VL.wSl, VL.wSlN, VL.wChain, VL.wNeg, VL.wDnew, VL.wDput, VL.wDget, VL.wDin, VL.wDnin, VL.wIndex, VL.wRev, VL.wParNE, VL.wParEN, VL.wPar3, VL.wYes, VL.wSeqOf, VL.wRng1, VL.wRng2, VL.oI, VL.oI0, VL.oLt, VL.oLe, VL.oGt, VL.oGe, VL.oSub, VL.oMul, VL.oFdiv, VL.oMod, VL.oPow, VL.oShl', VL.oAbs, VL.oMax2, VL.oMin2, VL.oGcd, VL.atI_0, VL.atI_1, VL.atI_2, VL.ixN_20, VL.ixN_21, and_assoc, VL.shp_int, VL.shp_bool, VL.shp_none, VL.eqv_int, VL.eqv_bool, VL.isiD, VL.tyD, String.reduceBEq, Bool.not_true, Bool.not_false, Bool.and_true, Bool.and_false, Bool.true_and, Bool.false_and, Bool.or_true, Bool.or_false, Bool.true_or, Bool.false_or, decide_true, decide_false, Bool.not_eq_true', Bool.not_eq_eq_eq_not, decide_eq_true_eq, decide_eq_false_iff_not, VL.oInt1, VL.oInt2, VL.oLen, VL.oToInt, VL.oAdd, VL.oEq, VL.oNe, VL.oIsN, VL.oIn, VL.itemD, VL.isN, VL.der, VL.ders, VL.dats, VL.ioA, VL.endsV, VL.retE, VL.keepC, Option.map, List.range_succ, List.range_zero, List.map_cons, List.map_nil, List.map_append, List.nil_append, List.cons_append, List.append_nil, List.replicate_zero, List.replicate_succ, List.length_cons, List.length_nil, Nat.sub_self, List.getElem?_cons_zero, List.getElem?_cons_succ, List.set_cons_zero, List.set_cons_succ, Option.some.injEq, exists_eq_left', exists_eq_left, exists_eq_right, exists_and_left, exists_and_right, and_true, true_and, CV.d.injEq, CV.loc.injEq, Cell.lst.injEq, Cell.dat.injEq, Cell.dic.injEq, PyData.int.injEq, PyData.bool.injEq, PyData.list.injEq, PyData.tuple.injEq, PyData.str.injEq, reduceCtorEq, false_and, and_false, exists_false, false_or, or_false, if_true, if_false, reduceIte, Bool.false_eq_true, Nat.reduceAdd, Nat.reduceSub, Nat.succ_sub_succ, Nat.zero_add, VL.gP, List.filterMap_cons, List.filterMap_nil, List.cons.injEq, VL.wDisp0, VL.wDisp, VL.wPairs, VL.oLcm, VL.wPop, VL.wRevM, VL.wClearM, VL.wTupRg, VL.wListRg, VL.wR1, VL.wR2, VL.wRevN, VL.oRepT, VL.oRepL]
    rw [hB]
    refine seq_gen fun k2 hk2 => ?_
    simp only [VL.wSeq, VL.wNext, VL.wNever, VL.wAsg, VL.wSet, VL.wVar, VL.wFrz, VL.wC, VL.wOp, VL.wTest, VL.wNotT, VL.wAndT, VL.wOrT, VL.wAnd, VL.wOr, VL.wNot, VL.wIf, VL.wNil, VL.wCons, VL.wTup, VL.wLst, VL.wStay, VL.wNew, VL.wPar, VL.wAug, VL.wDrop, VL.wRet, VL.wRetN, VL.wRet0, VL.wIfS, VL.wBrk, VL.wCnt, VL.wGt, VL.wGs, VL.wCB, VL.wCBN, VL.wCall, VL.wCallN, VL.wCallIo, VL.wCallIoN, VL.wCallK, VL.wIsi, VL.wIsi2, VL.wApp, VL.wExt, VL.wIns, VL.wSetIt, VL.wNoPart, VL.wPart, VL.wSl, VL.wSlN, VL.wChain, VL.wNeg, VL.wDnew, VL.wDput, VL.wDget, VL.wDin, VL.wDnin, VL.wIndex, VL.wRev, VL.wParNE, VL.wParEN, VL.wPar3, VL.wYes, VL.wSeqOf, VL.wRng1, VL.wRng2, VL.oI, VL.oI0, VL.oLt, VL.oLe, VL.oGt, VL.oGe, VL.oSub, VL.oMul, VL.oFdiv, VL.oMod, VL.oPow, VL.oShl', VL.oAbs, VL.oMax2, VL.oMin2, VL.oGcd, VL.atI_0, VL.atI_1, VL.atI_2, VL.ixN_20, VL.ixN_21, and_assoc, VL.shp_int, VL.shp_bool, VL.shp_none, VL.eqv_int, VL.eqv_bool, VL.isiD, VL.tyD, String.reduceBEq, Bool.not_true, Bool.not_false, Bool.and_true, Bool.and_false, Bool.true_and, Bool.false_and, Bool.or_true, Bool.or_false, Bool.true_or, Bool.false_or, decide_true, decide_false, Bool.not_eq_true', Bool.not_eq_eq_eq_not, decide_eq_true_eq, decide_eq_false_iff_not, VL.oInt1, VL.oInt2, VL.oLen, VL.oToInt, VL.oAdd, VL.oEq, VL.oNe, VL.oIsN, VL.oIn, VL.itemD, VL.isN, VL.der, VL.ders, VL.dats, VL.ioA, VL.endsV, VL.retE, VL.keepC, Option.map, List.range_succ, List.range_zero, List.map_cons, List.map_nil, List.map_append, List.nil_append, List.cons_append, List.append_nil, List.replicate_zero, List.replicate_succ, List.length_cons, List.length_nil, Nat.sub_self, List.getElem?_cons_zero, List.getElem?_cons_succ, List.set_cons_zero, List.set_cons_succ, Option.some.injEq, exists_eq_left', exists_eq_left, exists_eq_right, exists_and_left, exists_and_right, and_true, true_and, CV.d.injEq, CV.loc.injEq, Cell.lst.injEq, Cell.dat.injEq, Cell.dic.injEq, PyData.int.injEq, PyData.bool.injEq, PyData.list.injEq, PyData.tuple.injEq, PyData.str.injEq, reduceCtorEq, false_and, and_false, exists_false, false_or, or_false, if_true, if_false, reduceIte, Bool.false_eq_true, Nat.reduceAdd, Nat.reduceSub, Nat.succ_sub_succ, Nat.zero_add, VL.gP, List.filterMap_cons, List.filterMap_nil, List.cons.injEq, VL.wDisp0, VL.wDisp, VL.wPairs, VL.oLcm, VL.wPop, VL.wRevM, VL.wClearM, VL.wTupRg, VL.wListRg, VL.wR1, VL.wR2, VL.wRevN, VL.oRepT, VL.oRepL]
    unfold wLc
    have gr : ∀ m : Nat, (List.replicate m [PyData.tuple []]).flatten.length = m := fun m => by
      induction m with
      | zero => rfl
      | succ m ih => rw [List.replicate_succ, List.flatten_cons, List.length_append, ih]; simp; omega
    obtain ⟨b1, b2, _⟩ := bin_bd n i h1 (by omega)
    simp only [VL.wSeq, VL.wNext, VL.wNever, VL.wAsg, VL.wSet, VL.wVar, VL.wFrz, VL.wC, VL.wOp, VL.wTest, VL.wNotT, VL.wAndT, VL.wOrT, VL.wAnd, VL.wOr, VL.wNot, VL.wIf, VL.wNil, VL.wCons, VL.wTup, VL.wLst, VL.wStay, VL.wNew, VL.wPar, VL.wAug, VL.wDrop, VL.wRet, VL.wRetN, VL.wRet0, VL.wIfS, VL.wBrk, VL.wCnt, VL.wGt, VL.wGs, VL.wCB, VL.wCBN, VL.wCall, VL.wCallN, VL.wCallIo, VL.wCallIoN, VL.wCallK, VL.wIsi, VL.wIsi2, VL.wApp, VL.wExt, VL.wIns, VL.wSetIt, VL.wNoPart, VL.wPart, VL.wSl, VL.wSlN, VL.wChain, VL.wNeg, VL.wDnew, VL.wDput, VL.wDget, VL.wDin, VL.wDnin, VL.wIndex, VL.wRev, VL.wParNE, VL.wParEN, VL.wPar3, VL.wYes, VL.wSeqOf, VL.wRng1, VL.wRng2, VL.oI, VL.oI0, VL.oLt, VL.oLe, VL.oGt, VL.oGe, VL.oSub, VL.oMul, VL.oFdiv, VL.oMod, VL.oPow, VL.oShl', VL.oAbs, VL.oMax2, VL.oMin2, VL.oGcd, VL.atI_0, VL.atI_1, VL.atI_2, VL.ixN_20, VL.ixN_21, and_assoc, VL.shp_int, VL.shp_bool, VL.shp_none, VL.eqv_int, VL.eqv_bool, VL.isiD, VL.tyD, String.reduceBEq, Bool.not_true, Bool.not_false, Bool.and_true, Bool.and_false, Bool.true_and, Bool.false_and, Bool.or_true, Bool.or_false, Bool.true_or, Bool.false_or, decide_true, decide_false, Bool.not_eq_true', Bool.not_eq_eq_eq_not, decide_eq_true_eq, decide_eq_false_iff_not, VL.oInt1, VL.oInt2, VL.oLen, VL.oToInt, VL.oAdd, VL.oEq, VL.oNe, VL.oIsN, VL.oIn, VL.itemD, VL.isN, VL.der, VL.ders, VL.dats, VL.ioA, VL.endsV, VL.retE, VL.keepC, Option.map, List.range_succ, List.range_zero, List.map_cons, List.map_nil, List.map_append, List.nil_append, List.cons_append, List.append_nil, List.replicate_zero, List.replicate_succ, List.length_cons, List.length_nil, Nat.sub_self, List.getElem?_cons_zero, List.getElem?_cons_succ, List.set_cons_zero, List.set_cons_succ, Option.some.injEq, exists_eq_left', exists_eq_left, exists_eq_right, exists_and_left, exists_and_right, and_true, true_and, CV.d.injEq, CV.loc.injEq, Cell.lst.injEq, Cell.dat.injEq, Cell.dic.injEq, PyData.int.injEq, PyData.bool.injEq, PyData.list.injEq, PyData.tuple.injEq, PyData.str.injEq, reduceCtorEq, false_and, and_false, exists_false, false_or, or_false, if_true, if_false, reduceIte, Bool.false_eq_true, Nat.reduceAdd, Nat.reduceSub, Nat.succ_sub_succ, Nat.zero_add, VL.gP, List.filterMap_cons, List.filterMap_nil, List.cons.injEq, VL.wDisp0, VL.wDisp, VL.wPairs, VL.oLcm, VL.wPop, VL.wRevM, VL.wClearM, VL.wTupRg, VL.wListRg, VL.wR1, VL.wR2, VL.wRevN, VL.oRepT, VL.oRepL, binL_at (show i ≤ n by omega), S__law_best, wipeE]
    refine ⟨by omega, by omega, by omega, by omega, ?_⟩
    rw [Int.toNat_natCast, gr]
    refine ⟨by omega, b1, b2, fun j acc ρ => acc = (((best (bin n i)).take j).map fun r => ((r.length : Nat) : Int)).map PyData.int ∧ ρ = [.dat (.int n), .dat (.tuple [.int q.num, .int q.den]), c2, .dat (.int i), .dat (.int q.num), .dat (.int q.den), .lst false ((binL n).map PyData.int), .dat (.int (sumT n q.num (q.den - q.num) i)), c8, .un], ⟨rfl, rfl⟩, ?_, ?_⟩
    · rintro j acc ρ d ⟨rfl, rfl⟩ hy
      obtain ⟨hj, rfl⟩ := rowsD_at hy
      unfold intT
      simp only [VL.wSeq, VL.wNext, VL.wNever, VL.wAsg, VL.wSet, VL.wVar, VL.wFrz, VL.wC, VL.wOp, VL.wTest, VL.wNotT, VL.wAndT, VL.wOrT, VL.wAnd, VL.wOr, VL.wNot, VL.wIf, VL.wNil, VL.wCons, VL.wTup, VL.wLst, VL.wStay, VL.wNew, VL.wPar, VL.wAug, VL.wDrop, VL.wRet, VL.wRetN, VL.wRet0, VL.wIfS, VL.wBrk, VL.wCnt, VL.wGt, VL.wGs, VL.wCB, VL.wCBN, VL.wCall, VL.wCallN, VL.wCallIo, VL.wCallIoN, VL.wCallK, VL.wIsi, VL.wIsi2, VL.wApp, VL.wExt, VL.wIns, VL.wSetIt, VL.wNoPart, VL.wPart, VL.wSl, VL.wSlN, VL.wChain, VL.wNeg, VL.wDnew, VL.wDput, VL.wDget, VL.wDin, VL.wDnin, VL.wIndex, VL.wRev, VL.wParNE, VL.wParEN, VL.wPar3, VL.wYes, VL.wSeqOf, VL.wRng1, VL.wRng2, VL.oI, VL.oI0, VL.oLt, VL.oLe, VL.oGt, VL.oGe, VL.oSub, VL.oMul, VL.oFdiv, VL.oMod, VL.oPow, VL.oShl', VL.oAbs, VL.oMax2, VL.oMin2, VL.oGcd, VL.atI_0, VL.atI_1, VL.atI_2, VL.ixN_20, VL.ixN_21, and_assoc, VL.shp_int, VL.shp_bool, VL.shp_none, VL.eqv_int, VL.eqv_bool, VL.isiD, VL.tyD, String.reduceBEq, Bool.not_true, Bool.not_false, Bool.and_true, Bool.and_false, Bool.true_and, Bool.false_and, Bool.or_true, Bool.or_false, Bool.true_or, Bool.false_or, decide_true, decide_false, Bool.not_eq_true', Bool.not_eq_eq_eq_not, decide_eq_true_eq, decide_eq_false_iff_not, VL.oInt1, VL.oInt2, VL.oLen, VL.oToInt, VL.oAdd, VL.oEq, VL.oNe, VL.oIsN, VL.oIn, VL.itemD, VL.isN, VL.der, VL.ders, VL.dats, VL.ioA, VL.endsV, VL.retE, VL.keepC, Option.map, List.range_succ, List.range_zero, List.map_cons, List.map_nil, List.map_append, List.nil_append, List.cons_append, List.append_nil, List.replicate_zero, List.replicate_succ, List.length_cons, List.length_nil, Nat.sub_self, List.getElem?_cons_zero, List.getElem?_cons_succ, List.set_cons_zero, List.set_cons_succ, Option.some.injEq, exists_eq_left', exists_eq_left, exists_eq_right, exists_and_left, exists_and_right, and_true, true_and, CV.d.injEq, CV.loc.injEq, Cell.lst.injEq, Cell.dat.injEq, Cell.dic.injEq, PyData.int.injEq, PyData.bool.injEq, PyData.list.injEq, PyData.tuple.injEq, PyData.str.injEq, reduceCtorEq, false_and, and_false, exists_false, false_or, or_false, if_true, if_false, reduceIte, Bool.false_eq_true, Nat.reduceAdd, Nat.reduceSub, Nat.succ_sub_succ, Nat.zero_add, VL.gP, List.filterMap_cons, List.filterMap_nil, List.cons.injEq, VL.wDisp0, VL.wDisp, VL.wPairs, VL.oLcm, VL.wPop, VL.wRevM, VL.wClearM, VL.wTupRg, VL.wListRg, VL.wR1, VL.wR2, VL.wRevN, VL.oRepT, VL.oRepL]
      have bl := best_len (bin n i)
      refine ⟨?_, ?_⟩
      · rw [List.length_map, List.length_map, List.length_take]
        omega
      · rw [List.take_succ_eq_append_getElem hj, List.map_append, List.map_append, List.length_map]
        rfl
    · rintro acc ρ ⟨rfl, rfl⟩
      rw [rowsD_len, List.take_of_length_le (Nat.le_refl _)]
      have es : ∀ l : List (List Int), (l.map fun r => ((r.length : Nat) : Int)).sum = (((l.map List.length).sum : Nat) : Int) := fun l => by
        induction l with
        | nil => rfl
        | cons a l ih => rw [List.map_cons, List.sum_cons, ih, List.map_cons, List.sum_cons]; omega
      simp only [VL.wSeq, VL.wNext, VL.wNever, VL.wAsg, VL.wSet, VL.wVar, VL.wFrz, VL.wC, VL.wOp, VL.wTest, VL.wNotT, VL.wAndT, VL.wOrT, VL.wAnd, VL.wOr, VL.wNot, VL.wIf, VL.wNil, VL.wCons, VL.wTup, VL.wLst, VL.wStay, VL.wNew, VL.wPar, VL.wAug, VL.wDrop, VL.wRet, VL.wRetN, VL.wRet0, VL.wIfS, VL.wBrk, VL.wCnt, VL.wGt, VL.wGs, VL.wCB, VL.wCBN, VL.wCall, VL.wCallN, VL.wCallIo, VL.wCallIoN, VL.wCallK, VL.wIsi, VL.wIsi2, VL.wApp, VL.wExt, VL.wIns, VL.wSetIt, VL.wNoPart, VL.wPart, VL.wSl, VL.wSlN, VL.wChain, VL.wNeg, VL.wDnew, VL.wDput, VL.wDget, VL.wDin, VL.wDnin, VL.wIndex, VL.wRev, VL.wParNE, VL.wParEN, VL.wPar3, VL.wYes, VL.wSeqOf, VL.wRng1, VL.wRng2, VL.oI, VL.oI0, VL.oLt, VL.oLe, VL.oGt, VL.oGe, VL.oSub, VL.oMul, VL.oFdiv, VL.oMod, VL.oPow, VL.oShl', VL.oAbs, VL.oMax2, VL.oMin2, VL.oGcd, VL.atI_0, VL.atI_1, VL.atI_2, VL.ixN_20, VL.ixN_21, and_assoc, VL.shp_int, VL.shp_bool, VL.shp_none, VL.eqv_int, VL.eqv_bool, VL.isiD, VL.tyD, String.reduceBEq, Bool.not_true, Bool.not_false, Bool.and_true, Bool.and_false, Bool.true_and, Bool.false_and, Bool.or_true, Bool.or_false, Bool.true_or, Bool.false_or, decide_true, decide_false, Bool.not_eq_true', Bool.not_eq_eq_eq_not, decide_eq_true_eq, decide_eq_false_iff_not, VL.oInt1, VL.oInt2, VL.oLen, VL.oToInt, VL.oAdd, VL.oEq, VL.oNe, VL.oIsN, VL.oIn, VL.itemD, VL.isN, VL.der, VL.ders, VL.dats, VL.ioA, VL.endsV, VL.retE, VL.keepC, Option.map, List.range_succ, List.range_zero, List.map_cons, List.map_nil, List.map_append, List.nil_append, List.cons_append, List.append_nil, List.replicate_zero, List.replicate_succ, List.length_cons, List.length_nil, Nat.sub_self, List.getElem?_cons_zero, List.getElem?_cons_succ, List.set_cons_zero, List.set_cons_succ, Option.some.injEq, exists_eq_left', exists_eq_left, exists_eq_right, exists_and_left, exists_and_right, and_true, true_and, CV.d.injEq, CV.loc.injEq, Cell.lst.injEq, Cell.dat.injEq, Cell.dic.injEq, PyData.int.injEq, PyData.bool.injEq, PyData.list.injEq, PyData.tuple.injEq, PyData.str.injEq, reduceCtorEq, false_and, and_false, exists_false, false_or, or_false, if_true, if_false, reduceIte, Bool.false_eq_true, Nat.reduceAdd, Nat.reduceSub, Nat.succ_sub_succ, Nat.zero_add, VL.gP, List.filterMap_cons, List.filterMap_nil, List.cons.injEq, VL.wDisp0, VL.wDisp, VL.wPairs, VL.oLcm, VL.wPop, VL.wRevM, VL.wClearM, VL.wTupRg, VL.wListRg, VL.wR1, VL.wR2, VL.wRevN, VL.oRepT, VL.oRepL, oSumA, intsOf_of, es, lens_best]
      rw [hk2]
      clear hk2 k2
      simp only [VL.wSeq, VL.wNext, VL.wNever, VL.wAsg, VL.wSet, VL.wVar, VL.wFrz, VL.wC, VL.wOp, VL.wTest, VL.wNotT, VL.wAndT, VL.wOrT, VL.wAnd, VL.wOr, VL.wNot, VL.wIf, VL.wNil, VL.wCons, VL.wTup, VL.wLst, VL.wStay, VL.wNew, VL.wPar, VL.wAug, VL.wDrop, VL.wRet, VL.wRetN, VL.wRet0, VL.wIfS, VL.wBrk, VL.wCnt, VL.wGt, VL.wGs, VL.wCB, VL.wCBN, VL.wCall, VL.wCallN, VL.wCallIo, VL.wCallIoN, VL.wCallK, VL.wIsi, VL.wIsi2, VL.wApp, VL.wExt, VL.wIns, VL.wSetIt, VL.wNoPart, VL.wPart, VL.wSl, VL.wSlN, VL.wChain, VL.wNeg, VL.wDnew, VL.wDput, VL.wDget, VL.wDin, VL.wDnin, VL.wIndex, VL.wRev, VL.wParNE, VL.wParEN, VL.wPar3, VL.wYes, VL.wSeqOf, VL.wRng1, VL.wRng2, VL.oI, VL.oI0, VL.oLt, VL.oLe, VL.oGt, VL.oGe, VL.oSub, VL.oMul, VL.oFdiv, VL.oMod, VL.oPow, VL.oShl', VL.oAbs, VL.oMax2, VL.oMin2, VL.oGcd, VL.atI_0, VL.atI_1, VL.atI_2, VL.ixN_20, VL.ixN_21, and_assoc, VL.shp_int, VL.shp_bool, VL.shp_none, VL.eqv_int, VL.eqv_bool, VL.isiD, VL.tyD, String.reduceBEq, Bool.not_true, Bool.not_false, Bool.and_true, Bool.and_false, Bool.true_and, Bool.false_and, Bool.or_true, Bool.or_false, Bool.true_or, Bool.false_or, decide_true, decide_false, Bool.not_eq_true', Bool.not_eq_eq_eq_not, decide_eq_true_eq, decide_eq_false_iff_not, VL.oInt1, VL.oInt2, VL.oLen, VL.oToInt, VL.oAdd, VL.oEq, VL.oNe, VL.oIsN, VL.oIn, VL.itemD, VL.isN, VL.der, VL.ders, VL.dats, VL.ioA, VL.endsV, VL.retE, VL.keepC, Option.map, List.range_succ, List.range_zero, List.map_cons, List.map_nil, List.map_append, List.nil_append, List.cons_append, List.append_nil, List.replicate_zero, List.replicate_succ, List.length_cons, List.length_nil, Nat.sub_self, List.getElem?_cons_zero, List.getElem?_cons_succ, List.set_cons_zero, List.set_cons_succ, Option.some.injEq, exists_eq_left', exists_eq_left, exists_eq_right, exists_and_left, exists_and_right, and_true, true_and, CV.d.injEq, CV.loc.injEq, Cell.lst.injEq, Cell.dat.injEq, Cell.dic.injEq, PyData.int.injEq, PyData.bool.injEq, PyData.list.injEq, PyData.tuple.injEq, PyData.str.injEq, reduceCtorEq, false_and, and_false, exists_false, false_or, or_false, if_true, if_false, reduceIte, Bool.false_eq_true, Nat.reduceAdd, Nat.reduceSub, Nat.succ_sub_succ, Nat.zero_add, VL.gP, List.filterMap_cons, List.filterMap_nil, List.cons.injEq, VL.wDisp0, VL.wDisp, VL.wPairs, VL.oLcm, VL.wPop, VL.wRevM, VL.wClearM, VL.wTupRg, VL.wListRg, VL.wR1, VL.wR2, VL.wRevN, VL.oRepT, VL.oRepL, S__law_power]
      obtain ⟨c1', c2'⟩ := term_cok (t := q.num) (u := q.den - q.num) h1 (show i ≤ n by omega) (by have := S.lo; omega) (by have := S.hi; have := S.den; omega) (by have := S.hi; omega) (by have := S.lo; have := S.den; omega)
      have s0 := S.lo
      have s1 := S.hi
      have s2 := S.den
      exact ⟨i, rfl, by omega, by omega, by omega, c1', n - i, by omega, by omega, by omega, by omega, c2', by rw [sumT_succ]; rfl, _, rfl⟩
  rintro ρ ⟨c2, c3, c8, rfl⟩
  rw [rng_len, hk]
  have dp := den_pos q
  have dd := S.den
  obtain ⟨w1, w2⟩ := pw_bd' S h1
  simp only [VL.wSeq, VL.wNext, VL.wNever, VL.wAsg, VL.wSet, VL.wVar, VL.wFrz, VL.wC, VL.wOp, VL.wTest, VL.wNotT, VL.wAndT, VL.wOrT, VL.wAnd, VL.wOr, VL.wNot, VL.wIf, VL.wNil, VL.wCons, VL.wTup, VL.wLst, VL.wStay, VL.wNew, VL.wPar, VL.wAug, VL.wDrop, VL.wRet, VL.wRetN, VL.wRet0, VL.wIfS, VL.wBrk, VL.wCnt, VL.wGt, VL.wGs, VL.wCB, VL.wCBN, VL.wCall, VL.wCallN, VL.wCallIo, VL.wCallIoN, VL.wCallK, VL.wIsi, VL.wIsi2, VL.wApp, VL.wExt, VL.wIns, VL.wSetIt, VL.wNoPart, VL.wPart, VL.wSl, VL.wSlN, VL.wChain, VL.wNeg, VL.wDnew, VL.wDput, VL.wDget, VL.wDin, VL.wDnin, VL.wIndex, VL.wRev, VL.wParNE, VL.wParEN, VL.wPar3, VL.wYes, VL.wSeqOf, VL.wRng1, VL.wRng2, VL.oI, VL.oI0, VL.oLt, VL.oLe, VL.oGt, VL.oGe, VL.oSub, VL.oMul, VL.oFdiv, VL.oMod, VL.oPow, VL.oShl', VL.oAbs, VL.oMax2, VL.oMin2, VL.oGcd, VL.atI_0, VL.atI_1, VL.atI_2, VL.ixN_20, VL.ixN_21, and_assoc, VL.shp_int, VL.shp_bool, VL.shp_none, VL.eqv_int, VL.eqv_bool, VL.isiD, VL.tyD, String.reduceBEq, Bool.not_true, Bool.not_false, Bool.and_true, Bool.and_false, Bool.true_and, Bool.false_and, Bool.or_true, Bool.or_false, Bool.true_or, Bool.false_or, decide_true, decide_false, Bool.not_eq_true', Bool.not_eq_eq_eq_not, decide_eq_true_eq, decide_eq_false_iff_not, VL.oInt1, VL.oInt2, VL.oLen, VL.oToInt, VL.oAdd, VL.oEq, VL.oNe, VL.oIsN, VL.oIn, VL.itemD, VL.isN, VL.der, VL.ders, VL.dats, VL.ioA, VL.endsV, VL.retE, VL.keepC, Option.map, List.range_succ, List.range_zero, List.map_cons, List.map_nil, List.map_append, List.nil_append, List.cons_append, List.append_nil, List.replicate_zero, List.replicate_succ, List.length_cons, List.length_nil, Nat.sub_self, List.getElem?_cons_zero, List.getElem?_cons_succ, List.set_cons_zero, List.set_cons_succ, Option.some.injEq, exists_eq_left', exists_eq_left, exists_eq_right, exists_and_left, exists_and_right, and_true, true_and, CV.d.injEq, CV.loc.injEq, Cell.lst.injEq, Cell.dat.injEq, Cell.dic.injEq, PyData.int.injEq, PyData.bool.injEq, PyData.list.injEq, PyData.tuple.injEq, PyData.str.injEq, reduceCtorEq, false_and, and_false, exists_false, false_or, or_false, if_true, if_false, reduceIte, Bool.false_eq_true, Nat.reduceAdd, Nat.reduceSub, Nat.succ_sub_succ, Nat.zero_add, VL.gP, List.filterMap_cons, List.filterMap_nil, List.cons.injEq, VL.wDisp0, VL.wDisp, VL.wPairs, VL.oLcm, VL.wPop, VL.wRevM, VL.wClearM, VL.wTupRg, VL.wListRg, VL.wR1, VL.wR2, VL.wRevN, VL.oRepT, VL.oRepL, S__law_power, S__law_low]
  exact ⟨n, rfl, by omega, by omega, h1, w1, w2, h⟩
theorem enum_at {ds : List D} {i : Nat} {d : D} (h : (enumD ds)[i]? = some d) : ∃ x, d = .tuple [.int (i : Nat), x] ∧ ds[i]? = some x := by
  obtain ⟨l, _⟩ := List.getElem?_eq_some_iff.mp h
  rw [enum_len] at l
  have e := enum_get (List.getElem?_eq_getElem l)
  rw [e] at h
  cases h
  exact ⟨_, rfl, List.getElem?_eq_getElem l⟩
theorem h_mean_out (ρ : En) (Q : RV → En → Prop) (h : S_mean_out ρ Q) : t_mean_out (endsV 2 Q) (ρ ++ List.replicate (7 - 2) .un) := by
  obtain ⟨n, q, rfl, h0, h1, S, h⟩ := h
  have sz := sz16
  have s0 := S.lo
  have s1 := S.hi
  have s2 := S.den
  have dp := den_pos q
  unfold t_mean_out
  refine seq_gen fun k hk => ?_
  simp only [VL.wSeq, VL.wNext, VL.wNever, VL.wAsg, VL.wSet, VL.wVar, VL.wFrz, VL.wC, VL.wOp, VL.wTest, VL.wNotT, VL.wAndT, VL.wOrT, VL.wAnd, VL.wOr, VL.wNot, VL.wIf, VL.wNil, VL.wCons, VL.wTup, VL.wLst, VL.wStay, VL.wNew, VL.wPar, VL.wAug, VL.wDrop, VL.wRet, VL.wRetN, VL.wRet0, VL.wIfS, VL.wBrk, VL.wCnt, VL.wGt, VL.wGs, VL.wCB, VL.wCBN, VL.wCall, VL.wCallN, VL.wCallIo, VL.wCallIoN, VL.wCallK, VL.wIsi, VL.wIsi2, VL.wApp, VL.wExt, VL.wIns, VL.wSetIt, VL.wNoPart, VL.wPart, VL.wSl, VL.wSlN, VL.wChain, VL.wNeg, VL.wDnew, VL.wDput, VL.wDget, VL.wDin, VL.wDnin, VL.wIndex, VL.wRev, VL.wParNE, VL.wParEN, VL.wPar3, VL.wYes, VL.wSeqOf, VL.wRng1, VL.wRng2, VL.oI, VL.oI0, VL.oLt, VL.oLe, VL.oGt, VL.oGe, VL.oSub, VL.oMul, VL.oFdiv, VL.oMod, VL.oPow, VL.oShl', VL.oAbs, VL.oMax2, VL.oMin2, VL.oGcd, VL.atI_0, VL.atI_1, VL.atI_2, VL.ixN_20, VL.ixN_21, and_assoc, VL.shp_int, VL.shp_bool, VL.shp_none, VL.eqv_int, VL.eqv_bool, VL.isiD, VL.tyD, String.reduceBEq, Bool.not_true, Bool.not_false, Bool.and_true, Bool.and_false, Bool.true_and, Bool.false_and, Bool.or_true, Bool.or_false, Bool.true_or, Bool.false_or, decide_true, decide_false, Bool.not_eq_true', Bool.not_eq_eq_eq_not, decide_eq_true_eq, decide_eq_false_iff_not, VL.oInt1, VL.oInt2, VL.oLen, VL.oToInt, VL.oAdd, VL.oEq, VL.oNe, VL.oIsN, VL.oIn, VL.itemD, VL.isN, VL.der, VL.ders, VL.dats, VL.ioA, VL.endsV, VL.retE, VL.keepC, Option.map, List.range_succ, List.range_zero, List.map_cons, List.map_nil, List.map_append, List.nil_append, List.cons_append, List.append_nil, List.replicate_zero, List.replicate_succ, List.length_cons, List.length_nil, Nat.sub_self, List.getElem?_cons_zero, List.getElem?_cons_succ, List.set_cons_zero, List.set_cons_succ, Option.some.injEq, exists_eq_left', exists_eq_left, exists_eq_right, exists_and_left, exists_and_right, and_true, true_and, CV.d.injEq, CV.loc.injEq, Cell.lst.injEq, Cell.dat.injEq, Cell.dic.injEq, PyData.int.injEq, PyData.bool.injEq, PyData.list.injEq, PyData.tuple.injEq, PyData.str.injEq, reduceCtorEq, false_and, and_false, exists_false, false_or, or_false, if_true, if_false, reduceIte, Bool.false_eq_true, Nat.reduceAdd, Nat.reduceSub, Nat.succ_sub_succ, Nat.zero_add, VL.gP, List.filterMap_cons, List.filterMap_nil, List.cons.injEq, VL.wDisp0, VL.wDisp, VL.wPairs, VL.oLcm, VL.wPop, VL.wRevM, VL.wClearM, VL.wTupRg, VL.wListRg, VL.wR1, VL.wR2, VL.wRevN, VL.oRepT, VL.oRepL, S_check_count]
  refine ⟨n, rfl, h0, ?_⟩
  rw [hk]
  clear hk k
  refine seq_gen fun k hk => ?_
  simp only [VL.wSeq, VL.wNext, VL.wNever, VL.wAsg, VL.wSet, VL.wVar, VL.wFrz, VL.wC, VL.wOp, VL.wTest, VL.wNotT, VL.wAndT, VL.wOrT, VL.wAnd, VL.wOr, VL.wNot, VL.wIf, VL.wNil, VL.wCons, VL.wTup, VL.wLst, VL.wStay, VL.wNew, VL.wPar, VL.wAug, VL.wDrop, VL.wRet, VL.wRetN, VL.wRet0, VL.wIfS, VL.wBrk, VL.wCnt, VL.wGt, VL.wGs, VL.wCB, VL.wCBN, VL.wCall, VL.wCallN, VL.wCallIo, VL.wCallIoN, VL.wCallK, VL.wIsi, VL.wIsi2, VL.wApp, VL.wExt, VL.wIns, VL.wSetIt, VL.wNoPart, VL.wPart, VL.wSl, VL.wSlN, VL.wChain, VL.wNeg, VL.wDnew, VL.wDput, VL.wDget, VL.wDin, VL.wDnin, VL.wIndex, VL.wRev, VL.wParNE, VL.wParEN, VL.wPar3, VL.wYes, VL.wSeqOf, VL.wRng1, VL.wRng2, VL.oI, VL.oI0, VL.oLt, VL.oLe, VL.oGt, VL.oGe, VL.oSub, VL.oMul, VL.oFdiv, VL.oMod, VL.oPow, VL.oShl', VL.oAbs, VL.oMax2, VL.oMin2, VL.oGcd, VL.atI_0, VL.atI_1, VL.atI_2, VL.ixN_20, VL.ixN_21, and_assoc, VL.shp_int, VL.shp_bool, VL.shp_none, VL.eqv_int, VL.eqv_bool, VL.isiD, VL.tyD, String.reduceBEq, Bool.not_true, Bool.not_false, Bool.and_true, Bool.and_false, Bool.true_and, Bool.false_and, Bool.or_true, Bool.or_false, Bool.true_or, Bool.false_or, decide_true, decide_false, Bool.not_eq_true', Bool.not_eq_eq_eq_not, decide_eq_true_eq, decide_eq_false_iff_not, VL.oInt1, VL.oInt2, VL.oLen, VL.oToInt, VL.oAdd, VL.oEq, VL.oNe, VL.oIsN, VL.oIn, VL.itemD, VL.isN, VL.der, VL.ders, VL.dats, VL.ioA, VL.endsV, VL.retE, VL.keepC, Option.map, List.range_succ, List.range_zero, List.map_cons, List.map_nil, List.map_append, List.nil_append, List.cons_append, List.append_nil, List.replicate_zero, List.replicate_succ, List.length_cons, List.length_nil, Nat.sub_self, List.getElem?_cons_zero, List.getElem?_cons_succ, List.set_cons_zero, List.set_cons_succ, Option.some.injEq, exists_eq_left', exists_eq_left, exists_eq_right, exists_and_left, exists_and_right, and_true, true_and, CV.d.injEq, CV.loc.injEq, Cell.lst.injEq, Cell.dat.injEq, Cell.dic.injEq, PyData.int.injEq, PyData.bool.injEq, PyData.list.injEq, PyData.tuple.injEq, PyData.str.injEq, reduceCtorEq, false_and, and_false, exists_false, false_or, or_false, if_true, if_false, reduceIte, Bool.false_eq_true, Nat.reduceAdd, Nat.reduceSub, Nat.succ_sub_succ, Nat.zero_add, VL.gP, List.filterMap_cons, List.filterMap_nil, List.cons.injEq, VL.wDisp0, VL.wDisp, VL.wPairs, VL.oLcm, VL.wPop, VL.wRevM, VL.wClearM, VL.wTupRg, VL.wListRg, VL.wR1, VL.wR2, VL.wRevN, VL.oRepT, VL.oRepL, S_is_number]
  refine ⟨q, rfl, small_bd (by omega) (by omega), ?_⟩
  unfold rD
  simp only [VL.wSeq, VL.wNext, VL.wNever, VL.wAsg, VL.wSet, VL.wVar, VL.wFrz, VL.wC, VL.wOp, VL.wTest, VL.wNotT, VL.wAndT, VL.wOrT, VL.wAnd, VL.wOr, VL.wNot, VL.wIf, VL.wNil, VL.wCons, VL.wTup, VL.wLst, VL.wStay, VL.wNew, VL.wPar, VL.wAug, VL.wDrop, VL.wRet, VL.wRetN, VL.wRet0, VL.wIfS, VL.wBrk, VL.wCnt, VL.wGt, VL.wGs, VL.wCB, VL.wCBN, VL.wCall, VL.wCallN, VL.wCallIo, VL.wCallIoN, VL.wCallK, VL.wIsi, VL.wIsi2, VL.wApp, VL.wExt, VL.wIns, VL.wSetIt, VL.wNoPart, VL.wPart, VL.wSl, VL.wSlN, VL.wChain, VL.wNeg, VL.wDnew, VL.wDput, VL.wDget, VL.wDin, VL.wDnin, VL.wIndex, VL.wRev, VL.wParNE, VL.wParEN, VL.wPar3, VL.wYes, VL.wSeqOf, VL.wRng1, VL.wRng2, VL.oI, VL.oI0, VL.oLt, VL.oLe, VL.oGt, VL.oGe, VL.oSub, VL.oMul, VL.oFdiv, VL.oMod, VL.oPow, VL.oShl', VL.oAbs, VL.oMax2, VL.oMin2, VL.oGcd, VL.atI_0, VL.atI_1, VL.atI_2, VL.ixN_20, VL.ixN_21, and_assoc, VL.shp_int, VL.shp_bool, VL.shp_none, VL.eqv_int, VL.eqv_bool, VL.isiD, VL.tyD, String.reduceBEq, Bool.not_true, Bool.not_false, Bool.and_true, Bool.and_false, Bool.true_and, Bool.false_and, Bool.or_true, Bool.or_false, Bool.true_or, Bool.false_or, decide_true, decide_false, Bool.not_eq_true', Bool.not_eq_eq_eq_not, decide_eq_true_eq, decide_eq_false_iff_not, VL.oInt1, VL.oInt2, VL.oLen, VL.oToInt, VL.oAdd, VL.oEq, VL.oNe, VL.oIsN, VL.oIn, VL.itemD, VL.isN, VL.der, VL.ders, VL.dats, VL.ioA, VL.endsV, VL.retE, VL.keepC, Option.map, List.range_succ, List.range_zero, List.map_cons, List.map_nil, List.map_append, List.nil_append, List.cons_append, List.append_nil, List.replicate_zero, List.replicate_succ, List.length_cons, List.length_nil, Nat.sub_self, List.getElem?_cons_zero, List.getElem?_cons_succ, List.set_cons_zero, List.set_cons_succ, Option.some.injEq, exists_eq_left', exists_eq_left, exists_eq_right, exists_and_left, exists_and_right, and_true, true_and, CV.d.injEq, CV.loc.injEq, Cell.lst.injEq, Cell.dat.injEq, Cell.dic.injEq, PyData.int.injEq, PyData.bool.injEq, PyData.list.injEq, PyData.tuple.injEq, PyData.str.injEq, reduceCtorEq, false_and, and_false, exists_false, false_or, or_false, if_true, if_false, reduceIte, Bool.false_eq_true, Nat.reduceAdd, Nat.reduceSub, Nat.succ_sub_succ, Nat.zero_add, VL.gP, List.filterMap_cons, List.filterMap_nil, List.cons.injEq, VL.wDisp0, VL.wDisp, VL.wPairs, VL.oLcm, VL.wPop, VL.wRevM, VL.wClearM, VL.wTupRg, VL.wListRg, VL.wR1, VL.wR2, VL.wRevN, VL.oRepT, VL.oRepL]
  refine ⟨s0, ?_⟩
  rw [if_neg (by omega), hk]
  clear hk k
  refine seq_gen fun k hk => ?_
  simp only [VL.wSeq, VL.wNext, VL.wNever, VL.wAsg, VL.wSet, VL.wVar, VL.wFrz, VL.wC, VL.wOp, VL.wTest, VL.wNotT, VL.wAndT, VL.wOrT, VL.wAnd, VL.wOr, VL.wNot, VL.wIf, VL.wNil, VL.wCons, VL.wTup, VL.wLst, VL.wStay, VL.wNew, VL.wPar, VL.wAug, VL.wDrop, VL.wRet, VL.wRetN, VL.wRet0, VL.wIfS, VL.wBrk, VL.wCnt, VL.wGt, VL.wGs, VL.wCB, VL.wCBN, VL.wCall, VL.wCallN, VL.wCallIo, VL.wCallIoN, VL.wCallK, VL.wIsi, VL.wIsi2, VL.wApp, VL.wExt, VL.wIns, VL.wSetIt, VL.wNoPart, VL.wPart, VL.wSl, VL.wSlN, VL.wChain, VL.wNeg, VL.wDnew, VL.wDput, VL.wDget, VL.wDin, VL.wDnin, VL.wIndex, VL.wRev, VL.wParNE, VL.wParEN, VL.wPar3, VL.wYes, VL.wSeqOf, VL.wRng1, VL.wRng2, VL.oI, VL.oI0, VL.oLt, VL.oLe, VL.oGt, VL.oGe, VL.oSub, VL.oMul, VL.oFdiv, VL.oMod, VL.oPow, VL.oShl', VL.oAbs, VL.oMax2, VL.oMin2, VL.oGcd, VL.atI_0, VL.atI_1, VL.atI_2, VL.ixN_20, VL.ixN_21, and_assoc, VL.shp_int, VL.shp_bool, VL.shp_none, VL.eqv_int, VL.eqv_bool, VL.isiD, VL.tyD, String.reduceBEq, Bool.not_true, Bool.not_false, Bool.and_true, Bool.and_false, Bool.true_and, Bool.false_and, Bool.or_true, Bool.or_false, Bool.true_or, Bool.false_or, decide_true, decide_false, Bool.not_eq_true', Bool.not_eq_eq_eq_not, decide_eq_true_eq, decide_eq_false_iff_not, VL.oInt1, VL.oInt2, VL.oLen, VL.oToInt, VL.oAdd, VL.oEq, VL.oNe, VL.oIsN, VL.oIn, VL.itemD, VL.isN, VL.der, VL.ders, VL.dats, VL.ioA, VL.endsV, VL.retE, VL.keepC, Option.map, List.range_succ, List.range_zero, List.map_cons, List.map_nil, List.map_append, List.nil_append, List.cons_append, List.append_nil, List.replicate_zero, List.replicate_succ, List.length_cons, List.length_nil, Nat.sub_self, List.getElem?_cons_zero, List.getElem?_cons_succ, List.set_cons_zero, List.set_cons_succ, Option.some.injEq, exists_eq_left', exists_eq_left, exists_eq_right, exists_and_left, exists_and_right, and_true, true_and, CV.d.injEq, CV.loc.injEq, Cell.lst.injEq, Cell.dat.injEq, Cell.dic.injEq, PyData.int.injEq, PyData.bool.injEq, PyData.list.injEq, PyData.tuple.injEq, PyData.str.injEq, reduceCtorEq, false_and, and_false, exists_false, false_or, or_false, if_true, if_false, reduceIte, Bool.false_eq_true, Nat.reduceAdd, Nat.reduceSub, Nat.succ_sub_succ, Nat.zero_add, VL.gP, List.filterMap_cons, List.filterMap_nil, List.cons.injEq, VL.wDisp0, VL.wDisp, VL.wPairs, VL.oLcm, VL.wPop, VL.wRevM, VL.wClearM, VL.wTupRg, VL.wListRg, VL.wR1, VL.wR2, VL.wRevN, VL.oRepT, VL.oRepL]
  rw [hk]
  clear hk k
  refine seq_gen fun k hk => ?_
  simp only [VL.wSeq, VL.wNext, VL.wNever, VL.wAsg, VL.wSet, VL.wVar, VL.wFrz, VL.wC, VL.wOp, VL.wTest, VL.wNotT, VL.wAndT, VL.wOrT, VL.wAnd, VL.wOr, VL.wNot, VL.wIf, VL.wNil, VL.wCons, VL.wTup, VL.wLst, VL.wStay, VL.wNew, VL.wPar, VL.wAug, VL.wDrop, VL.wRet, VL.wRetN, VL.wRet0, VL.wIfS, VL.wBrk, VL.wCnt, VL.wGt, VL.wGs, VL.wCB, VL.wCBN, VL.wCall, VL.wCallN, VL.wCallIo, VL.wCallIoN, VL.wCallK, VL.wIsi, VL.wIsi2, VL.wApp, VL.wExt, VL.wIns, VL.wSetIt, VL.wNoPart, VL.wPart, VL.wSl, VL.wSlN, VL.wChain, VL.wNeg, VL.wDnew, VL.wDput, VL.wDget, VL.wDin, VL.wDnin, VL.wIndex, VL.wRev, VL.wParNE, VL.wParEN, VL.wPar3, VL.wYes, VL.wSeqOf, VL.wRng1, VL.wRng2, VL.oI, VL.oI0, VL.oLt, VL.oLe, VL.oGt, VL.oGe, VL.oSub, VL.oMul, VL.oFdiv, VL.oMod, VL.oPow, VL.oShl', VL.oAbs, VL.oMax2, VL.oMin2, VL.oGcd, VL.atI_0, VL.atI_1, VL.atI_2, VL.ixN_20, VL.ixN_21, and_assoc, VL.shp_int, VL.shp_bool, VL.shp_none, VL.eqv_int, VL.eqv_bool, VL.isiD, VL.tyD, String.reduceBEq, Bool.not_true, Bool.not_false, Bool.and_true, Bool.and_false, Bool.true_and, Bool.false_and, Bool.or_true, Bool.or_false, Bool.true_or, Bool.false_or, decide_true, decide_false, Bool.not_eq_true', Bool.not_eq_eq_eq_not, decide_eq_true_eq, decide_eq_false_iff_not, VL.oInt1, VL.oInt2, VL.oLen, VL.oToInt, VL.oAdd, VL.oEq, VL.oNe, VL.oIsN, VL.oIn, VL.itemD, VL.isN, VL.der, VL.ders, VL.dats, VL.ioA, VL.endsV, VL.retE, VL.keepC, Option.map, List.range_succ, List.range_zero, List.map_cons, List.map_nil, List.map_append, List.nil_append, List.cons_append, List.append_nil, List.replicate_zero, List.replicate_succ, List.length_cons, List.length_nil, Nat.sub_self, List.getElem?_cons_zero, List.getElem?_cons_succ, List.set_cons_zero, List.set_cons_succ, Option.some.injEq, exists_eq_left', exists_eq_left, exists_eq_right, exists_and_left, exists_and_right, and_true, true_and, CV.d.injEq, CV.loc.injEq, Cell.lst.injEq, Cell.dat.injEq, Cell.dic.injEq, PyData.int.injEq, PyData.bool.injEq, PyData.list.injEq, PyData.tuple.injEq, PyData.str.injEq, reduceCtorEq, false_and, and_false, exists_false, false_or, or_false, if_true, if_false, reduceIte, Bool.false_eq_true, Nat.reduceAdd, Nat.reduceSub, Nat.succ_sub_succ, Nat.zero_add, VL.gP, List.filterMap_cons, List.filterMap_nil, List.cons.injEq, VL.wDisp0, VL.wDisp, VL.wPairs, VL.oLcm, VL.wPop, VL.wRevM, VL.wClearM, VL.wTupRg, VL.wListRg, VL.wR1, VL.wR2, VL.wRevN, VL.oRepT, VL.oRepL]
  rw [hk]
  clear hk k
  refine seq_gen fun k hk => ?_
  refine for_body fun B hB => ?_
  unfold wFor
  simp only [VL.wSeq, VL.wNext, VL.wNever, VL.wAsg, VL.wSet, VL.wVar, VL.wFrz, VL.wC, VL.wOp, VL.wTest, VL.wNotT, VL.wAndT, VL.wOrT, VL.wAnd, VL.wOr, VL.wNot, VL.wIf, VL.wNil, VL.wCons, VL.wTup, VL.wLst, VL.wStay, VL.wNew, VL.wPar, VL.wAug, VL.wDrop, VL.wRet, VL.wRetN, VL.wRet0, VL.wIfS, VL.wBrk, VL.wCnt, VL.wGt, VL.wGs, VL.wCB, VL.wCBN, VL.wCall, VL.wCallN, VL.wCallIo, VL.wCallIoN, VL.wCallK, VL.wIsi, VL.wIsi2, VL.wApp, VL.wExt, VL.wIns, VL.wSetIt, VL.wNoPart, VL.wPart, VL.wSl, VL.wSlN, VL.wChain, VL.wNeg, VL.wDnew, VL.wDput, VL.wDget, VL.wDin, VL.wDnin, VL.wIndex, VL.wRev, VL.wParNE, VL.wParEN, VL.wPar3, VL.wYes, VL.wSeqOf, VL.wRng1, VL.wRng2, VL.oI, VL.oI0, VL.oLt, VL.oLe, VL.oGt, VL.oGe, VL.oSub, VL.oMul, VL.oFdiv, VL.oMod, VL.oPow, VL.oShl', VL.oAbs, VL.oMax2, VL.oMin2, VL.oGcd, VL.atI_0, VL.atI_1, VL.atI_2, VL.ixN_20, VL.ixN_21, and_assoc, VL.shp_int, VL.shp_bool, VL.shp_none, VL.eqv_int, VL.eqv_bool, VL.isiD, VL.tyD, String.reduceBEq, Bool.not_true, Bool.not_false, Bool.and_true, Bool.and_false, Bool.true_and, Bool.false_and, Bool.or_true, Bool.or_false, Bool.true_or, Bool.false_or, decide_true, decide_false, Bool.not_eq_true', Bool.not_eq_eq_eq_not, decide_eq_true_eq, decide_eq_false_iff_not, VL.oInt1, VL.oInt2, VL.oLen, VL.oToInt, VL.oAdd, VL.oEq, VL.oNe, VL.oIsN, VL.oIn, VL.itemD, VL.isN, VL.der, VL.ders, VL.dats, VL.ioA, VL.endsV, VL.retE, VL.keepC, Option.map, List.range_succ, List.range_zero, List.map_cons, List.map_nil, List.map_append, List.nil_append, List.cons_append, List.append_nil, List.replicate_zero, List.replicate_succ, List.length_cons, List.length_nil, Nat.sub_self, List.getElem?_cons_zero, List.getElem?_cons_succ, List.set_cons_zero, List.set_cons_succ, Option.some.injEq, exists_eq_left', exists_eq_left, exists_eq_right, exists_and_left, exists_and_right, and_true, true_and, CV.d.injEq, CV.loc.injEq, Cell.lst.injEq, Cell.dat.injEq, Cell.dic.injEq, PyData.int.injEq, PyData.bool.injEq, PyData.list.injEq, PyData.tuple.injEq, PyData.str.injEq, reduceCtorEq, false_and, and_false, exists_false, false_or, or_false, if_true, if_false, reduceIte, Bool.false_eq_true, Nat.reduceAdd, Nat.reduceSub, Nat.succ_sub_succ, Nat.zero_add, VL.gP, List.filterMap_cons, List.filterMap_nil, List.cons.injEq, VL.wDisp0, VL.wDisp, VL.wPairs, VL.oLcm, VL.wPop, VL.wRevM, VL.wClearM, VL.wTupRg, VL.wListRg, VL.wR1, VL.wR2, VL.wRevN, VL.oRepT, VL.oRepL, wEnum, S_most, intT]
  refine ⟨n, rfl, h0, h1, fun i ρ => ∃ c5 c6, ρ = [.dat (.int n), .dat (.tuple [.int q.num, .int q.den]), .dat (.int (sumT n q.num (q.den - q.num) i)), .dat (.int q.num), .dat (.int q.den), c5, c6], ⟨_, _, rfl⟩, ?_, ?_⟩
  · rintro i ρ d ⟨c5, c6, rfl⟩ hx
    obtain ⟨x, rfl, hx'⟩ := enum_at hx
    clear hx
    obtain ⟨y, rfl, hy⟩ := int_at hx'
    obtain ⟨hi, rfl⟩ := mostL_at hy
    obtain ⟨c1', c2'⟩ := term_cok (t := q.num) (u := q.den - q.num) h1 (show i ≤ n by omega) (by omega) (by omega) (by omega) (by omega)
    simp only [VL.wSeq, VL.wNext, VL.wNever, VL.wAsg, VL.wSet, VL.wVar, VL.wFrz, VL.wC, VL.wOp, VL.wTest, VL.wNotT, VL.wAndT, VL.wOrT, VL.wAnd, VL.wOr, VL.wNot, VL.wIf, VL.wNil, VL.wCons, VL.wTup, VL.wLst, VL.wStay, VL.wNew, VL.wPar, VL.wAug, VL.wDrop, VL.wRet, VL.wRetN, VL.wRet0, VL.wIfS, VL.wBrk, VL.wCnt, VL.wGt, VL.wGs, VL.wCB, VL.wCBN, VL.wCall, VL.wCallN, VL.wCallIo, VL.wCallIoN, VL.wCallK, VL.wIsi, VL.wIsi2, VL.wApp, VL.wExt, VL.wIns, VL.wSetIt, VL.wNoPart, VL.wPart, VL.wSl, VL.wSlN, VL.wChain, VL.wNeg, VL.wDnew, VL.wDput, VL.wDget, VL.wDin, VL.wDnin, VL.wIndex, VL.wRev, VL.wParNE, VL.wParEN, VL.wPar3, VL.wYes, VL.wSeqOf, VL.wRng1, VL.wRng2, VL.oI, VL.oI0, VL.oLt, VL.oLe, VL.oGt, VL.oGe, VL.oSub, VL.oMul, VL.oFdiv, VL.oMod, VL.oPow, VL.oShl', VL.oAbs, VL.oMax2, VL.oMin2, VL.oGcd, VL.atI_0, VL.atI_1, VL.atI_2, VL.ixN_20, VL.ixN_21, and_assoc, VL.shp_int, VL.shp_bool, VL.shp_none, VL.eqv_int, VL.eqv_bool, VL.isiD, VL.tyD, String.reduceBEq, Bool.not_true, Bool.not_false, Bool.and_true, Bool.and_false, Bool.true_and, Bool.false_and, Bool.or_true, Bool.or_false, Bool.true_or, Bool.false_or, decide_true, decide_false, Bool.not_eq_true', Bool.not_eq_eq_eq_not, decide_eq_true_eq, decide_eq_false_iff_not, VL.oInt1, VL.oInt2, VL.oLen, VL.oToInt, VL.oAdd, VL.oEq, VL.oNe, VL.oIsN, VL.oIn, VL.itemD, VL.isN, VL.der, VL.ders, VL.dats, VL.ioA, VL.endsV, VL.retE, VL.keepC, Option.map, List.range_succ, List.range_zero, List.map_cons, List.map_nil, List.map_append, List.nil_append, List.cons_append, List.append_nil, List.replicate_zero, List.replicate_succ, List.length_cons, List.length_nil, Nat.sub_self, List.getElem?_cons_zero, List.getElem?_cons_succ, List.set_cons_zero, List.set_cons_succ, Option.some.injEq, exists_eq_left', exists_eq_left, exists_eq_right, exists_and_left, exists_and_right, and_true, true_and, CV.d.injEq, CV.loc.injEq, Cell.lst.injEq, Cell.dat.injEq, Cell.dic.injEq, PyData.int.injEq, PyData.bool.injEq, PyData.list.injEq, PyData.tuple.injEq, PyData.str.injEq, reduceCtorEq, false_and, and_false, exists_false, false_or, or_false, if_true, if_false, reduceIte, Bool.false_eq_true, Nat.reduceAdd, Nat.reduceSub, Nat.succ_sub_succ, Nat.zero_add, VL.gP, List.filterMap_cons, List.filterMap_nil, List.cons.injEq, VL.wDisp0, VL.wDisp, VL.wPairs, VL.oLcm, VL.wPop, VL.wRevM, VL.wClearM, VL.wTupRg, VL.wListRg, VL.wR1, VL.wR2, VL.wRevN, VL.oRepT, VL.oRepL]
    rw [hB]
    simp only [VL.wSeq, VL.wNext, VL.wNever, VL.wAsg, VL.wSet, VL.wVar, VL.wFrz, VL.wC, VL.wOp, VL.wTest, VL.wNotT, VL.wAndT, VL.wOrT, VL.wAnd, VL.wOr, VL.wNot, VL.wIf, VL.wNil, VL.wCons, VL.wTup, VL.wLst, VL.wStay, VL.wNew, VL.wPar, VL.wAug, VL.wDrop, VL.wRet, VL.wRetN, VL.wRet0, VL.wIfS, VL.wBrk, VL.wCnt, VL.wGt, VL.wGs, VL.wCB, VL.wCBN, VL.wCall, VL.wCallN, VL.wCallIo, VL.wCallIoN, VL.wCallK, VL.wIsi, VL.wIsi2, VL.wApp, VL.wExt, VL.wIns, VL.wSetIt, VL.wNoPart, VL.wPart, VL.wSl, VL.wSlN, VL.wChain, VL.wNeg, VL.wDnew, VL.wDput, VL.wDget, VL.wDin, VL.wDnin, VL.wIndex, VL.wRev, VL.wParNE, VL.wParEN, VL.wPar3, VL.wYes, VL.wSeqOf, VL.wRng1, VL.wRng2, VL.oI, VL.oI0, VL.oLt, VL.oLe, VL.oGt, VL.oGe, VL.oSub, VL.oMul, VL.oFdiv, VL.oMod, VL.oPow, VL.oShl', VL.oAbs, VL.oMax2, VL.oMin2, VL.oGcd, VL.atI_0, VL.atI_1, VL.atI_2, VL.ixN_20, VL.ixN_21, and_assoc, VL.shp_int, VL.shp_bool, VL.shp_none, VL.eqv_int, VL.eqv_bool, VL.isiD, VL.tyD, String.reduceBEq, Bool.not_true, Bool.not_false, Bool.and_true, Bool.and_false, Bool.true_and, Bool.false_and, Bool.or_true, Bool.or_false, Bool.true_or, Bool.false_or, decide_true, decide_false, Bool.not_eq_true', Bool.not_eq_eq_eq_not, decide_eq_true_eq, decide_eq_false_iff_not, VL.oInt1, VL.oInt2, VL.oLen, VL.oToInt, VL.oAdd, VL.oEq, VL.oNe, VL.oIsN, VL.oIn, VL.itemD, VL.isN, VL.der, VL.ders, VL.dats, VL.ioA, VL.endsV, VL.retE, VL.keepC, Option.map, List.range_succ, List.range_zero, List.map_cons, List.map_nil, List.map_append, List.nil_append, List.cons_append, List.append_nil, List.replicate_zero, List.replicate_succ, List.length_cons, List.length_nil, Nat.sub_self, List.getElem?_cons_zero, List.getElem?_cons_succ, List.set_cons_zero, List.set_cons_succ, Option.some.injEq, exists_eq_left', exists_eq_left, exists_eq_right, exists_and_left, exists_and_right, and_true, true_and, CV.d.injEq, CV.loc.injEq, Cell.lst.injEq, Cell.dat.injEq, Cell.dic.injEq, PyData.int.injEq, PyData.bool.injEq, PyData.list.injEq, PyData.tuple.injEq, PyData.str.injEq, reduceCtorEq, false_and, and_false, exists_false, false_or, or_false, if_true, if_false, reduceIte, Bool.false_eq_true, Nat.reduceAdd, Nat.reduceSub, Nat.succ_sub_succ, Nat.zero_add, VL.gP, List.filterMap_cons, List.filterMap_nil, List.cons.injEq, VL.wDisp0, VL.wDisp, VL.wPairs, VL.oLcm, VL.wPop, VL.wRevM, VL.wClearM, VL.wTupRg, VL.wListRg, VL.wR1, VL.wR2, VL.wRevN, VL.oRepT, VL.oRepL, S_power]
    exact ⟨i, rfl, by omega, by omega, by omega, c1', n - i, by omega, by omega, by omega, by omega, c2', by rw [sumT_succ]; rfl, _, rfl⟩
  · rintro ρ ⟨c5, c6, rfl⟩
    obtain ⟨w1, w2⟩ := pw_bd' S h1
    rw [enum_len, List.length_map, mostL_len, hk]
    simp only [VL.wSeq, VL.wNext, VL.wNever, VL.wAsg, VL.wSet, VL.wVar, VL.wFrz, VL.wC, VL.wOp, VL.wTest, VL.wNotT, VL.wAndT, VL.wOrT, VL.wAnd, VL.wOr, VL.wNot, VL.wIf, VL.wNil, VL.wCons, VL.wTup, VL.wLst, VL.wStay, VL.wNew, VL.wPar, VL.wAug, VL.wDrop, VL.wRet, VL.wRetN, VL.wRet0, VL.wIfS, VL.wBrk, VL.wCnt, VL.wGt, VL.wGs, VL.wCB, VL.wCBN, VL.wCall, VL.wCallN, VL.wCallIo, VL.wCallIoN, VL.wCallK, VL.wIsi, VL.wIsi2, VL.wApp, VL.wExt, VL.wIns, VL.wSetIt, VL.wNoPart, VL.wPart, VL.wSl, VL.wSlN, VL.wChain, VL.wNeg, VL.wDnew, VL.wDput, VL.wDget, VL.wDin, VL.wDnin, VL.wIndex, VL.wRev, VL.wParNE, VL.wParEN, VL.wPar3, VL.wYes, VL.wSeqOf, VL.wRng1, VL.wRng2, VL.oI, VL.oI0, VL.oLt, VL.oLe, VL.oGt, VL.oGe, VL.oSub, VL.oMul, VL.oFdiv, VL.oMod, VL.oPow, VL.oShl', VL.oAbs, VL.oMax2, VL.oMin2, VL.oGcd, VL.atI_0, VL.atI_1, VL.atI_2, VL.ixN_20, VL.ixN_21, and_assoc, VL.shp_int, VL.shp_bool, VL.shp_none, VL.eqv_int, VL.eqv_bool, VL.isiD, VL.tyD, String.reduceBEq, Bool.not_true, Bool.not_false, Bool.and_true, Bool.and_false, Bool.true_and, Bool.false_and, Bool.or_true, Bool.or_false, Bool.true_or, Bool.false_or, decide_true, decide_false, Bool.not_eq_true', Bool.not_eq_eq_eq_not, decide_eq_true_eq, decide_eq_false_iff_not, VL.oInt1, VL.oInt2, VL.oLen, VL.oToInt, VL.oAdd, VL.oEq, VL.oNe, VL.oIsN, VL.oIn, VL.itemD, VL.isN, VL.der, VL.ders, VL.dats, VL.ioA, VL.endsV, VL.retE, VL.keepC, Option.map, List.range_succ, List.range_zero, List.map_cons, List.map_nil, List.map_append, List.nil_append, List.cons_append, List.append_nil, List.replicate_zero, List.replicate_succ, List.length_cons, List.length_nil, Nat.sub_self, List.getElem?_cons_zero, List.getElem?_cons_succ, List.set_cons_zero, List.set_cons_succ, Option.some.injEq, exists_eq_left', exists_eq_left, exists_eq_right, exists_and_left, exists_and_right, and_true, true_and, CV.d.injEq, CV.loc.injEq, Cell.lst.injEq, Cell.dat.injEq, Cell.dic.injEq, PyData.int.injEq, PyData.bool.injEq, PyData.list.injEq, PyData.tuple.injEq, PyData.str.injEq, reduceCtorEq, false_and, and_false, exists_false, false_or, or_false, if_true, if_false, reduceIte, Bool.false_eq_true, Nat.reduceAdd, Nat.reduceSub, Nat.succ_sub_succ, Nat.zero_add, VL.gP, List.filterMap_cons, List.filterMap_nil, List.cons.injEq, VL.wDisp0, VL.wDisp, VL.wPairs, VL.oLcm, VL.wPop, VL.wRevM, VL.wClearM, VL.wTupRg, VL.wListRg, VL.wR1, VL.wR2, VL.wRevN, VL.oRepT, VL.oRepL, S_power, S_lowest]
    exact ⟨n, rfl, by omega, by omega, h1, w1, w2, h⟩
end K35
end
section
set_option autoImplicit false
set_option maxRecDepth 100000
set_option maxHeartbeats 4000000
set_option exponentiation.threshold 7000
namespace K35
open PySem PySem.Spec PyProof.Rows L2 VL
theorem ok_rD (j : Nat) (q : Rat) : Ok (j + 2) (rD q) := .tup (j + 1) _ (show 2 ≤ 100 by decide) fun d hd => by
  simp only [List.mem_cons, List.not_mem_nil, or_false] at hd
  rcases hd with rfl | rfl
  · exact .int j _
  · exact .int j _
theorem ok_three (j : Nat) (q : Rat) : Ok (j + 3) (.list [rD q, rD q, rD q]) := .lst (j + 2) _ (show 3 ≤ 100 by decide) fun d hd => by
  simp only [List.mem_cons, List.not_mem_nil, or_false] at hd
  rcases hd with rfl | rfl | rfl <;> exact ok_rD j q
/-- the other side's share -/
theorem oth {q : Rat} (S : Sh q) : ∃ p : Rat, p.num = q.den - q.num ∧ p.den = q.den ∧ Sh p := by
  have s0 := S.lo
  have s1 := S.hi
  have s2 := S.den
  have dp := den_pos q
  have g : Int.gcd (q.den - q.num) q.den = 1 := by
    obtain ⟨a, ha⟩ : ∃ a : Nat, q.num = (a : Int) := ⟨q.num.toNat, by omega⟩
    have rd := q.reduced
    rw [ha, Int.natAbs_natCast] at rd
    have : (q.den : Int) - q.num = ((q.den - a : Nat) : Int) := by omega
    rw [this, Int.gcd_natCast_natCast, Nat.gcd_self_sub_left (by omega)]
    exact rd
  have n := low_num (q.den - q.num) q.den dp
  have d := low_den (q.den - q.num) q.den dp
  rw [g] at n d
  have f1 : ∀ x : Int, x.fdiv ((1 : Nat) : Int) = x := fun x => by
    rw [Int.fdiv_eq_ediv_of_nonneg _ (by decide)]
    simp
  rw [f1] at n d
  refine ⟨_, n.symm, by omega, ⟨by rw [← n]; omega, by rw [← n, ← d]; omega, by omega⟩⟩
theorem sh_low {a b : Int} (h0 : 0 < a) (h1 : a < b) (h2 : b ≤ 60) : Sh ((a : Rat) / (b : Rat)) := by
  have bp : 0 < b := by omega
  have n := low_num a b bp
  have d := low_den a b bp
  have gp := gcd_pos a b bp
  obtain ⟨x, hx⟩ := Int.gcd_dvd_left (a := a) (b := b)
  obtain ⟨y, hy⟩ := Int.gcd_dvd_right (a := a) (b := b)
  generalize Int.gcd a b = g at *
  have g0 : (0 : Int) < (g : Int) := by omega
  have e1 : a.fdiv (g : Int) = x := by rw [hx, Int.mul_fdiv_cancel_left _ (by omega)]
  have e2 : b.fdiv (g : Int) = y := by rw [hy, Int.mul_fdiv_cancel_left _ (by omega)]
  rw [e1] at n
  rw [e2] at d
  have x0 : 0 < x := Int.lt_of_mul_lt_mul_left (a := (g : Int)) (by rw [Int.mul_zero, ← hx]; exact h0) (by omega)
  have xy : x < y := Int.lt_of_mul_lt_mul_left (a := (g : Int)) (by rw [← hx, ← hy]; exact h1) (by omega)
  have yb : y ≤ b := by
    have := Int.mul_le_mul_of_nonneg_right (show (1 : Int) ≤ g by omega) (show 0 ≤ y by omega)
    rw [Int.one_mul, ← hy] at this
    exact this
  exact ⟨by rw [← n]; exact x0, by rw [← n, ← d]; exact xy, by omega⟩
theorem pick2 {x y : Int} {r : Nat} (h : (r : Int) < 2) : ∃ z : Int, (z = x ∨ z = y) ∧ atI [PyData.int x, PyData.int y] (r : Int) = some (.int z) := by
  have : r = 0 ∨ r = 1 := by omega
  rcases this with rfl | rfl
  · exact ⟨x, .inl rfl, rfl⟩
  · exact ⟨y, .inr rfl, rfl⟩
theorem h_law (ρ : En) (Q : RV → En → Prop) (h : S_law ρ Q) : t_law (endsV 1 Q) (ρ ++ List.replicate (10 - 1) .un) := by
  obtain ⟨ns, rfl, hl, h⟩ := h
  unfold t_law
  refine seq_gen fun k hk => ?_
  unfold intL
  refine for_body fun B hB => ?_
  unfold wFor
  simp only [VL.wSeq, VL.wNext, VL.wNever, VL.wAsg, VL.wSet, VL.wVar, VL.wFrz, VL.wC, VL.wOp, VL.wTest, VL.wNotT, VL.wAndT, VL.wOrT, VL.wAnd, VL.wOr, VL.wNot, VL.wIf, VL.wNil, VL.wCons, VL.wTup, VL.wLst, VL.wStay, VL.wNew, VL.wPar, VL.wAug, VL.wDrop, VL.wRet, VL.wRetN, VL.wRet0, VL.wIfS, VL.wBrk, VL.wCnt, VL.wGt, VL.wGs, VL.wCB, VL.wCBN, VL.wCall, VL.wCallN, VL.wCallIo, VL.wCallIoN, VL.wCallK, VL.wIsi, VL.wIsi2, VL.wApp, VL.wExt, VL.wIns, VL.wSetIt, VL.wNoPart, VL.wPart, VL.wSl, VL.wSlN, VL.wChain, VL.wNeg, VL.wDnew, VL.wDput, VL.wDget, VL.wDin, VL.wDnin, VL.wIndex, VL.wRev, VL.wParNE, VL.wParEN, VL.wPar3, VL.wYes, VL.wSeqOf, VL.wRng1, VL.wRng2, VL.oI, VL.oI0, VL.oLt, VL.oLe, VL.oGt, VL.oGe, VL.oSub, VL.oMul, VL.oFdiv, VL.oMod, VL.oPow, VL.oShl', VL.oAbs, VL.oMax2, VL.oMin2, VL.oGcd, VL.atI_0, VL.atI_1, VL.atI_2, VL.ixN_20, VL.ixN_21, and_assoc, VL.shp_int, VL.shp_bool, VL.shp_none, VL.eqv_int, VL.eqv_bool, VL.isiD, VL.tyD, String.reduceBEq, Bool.not_true, Bool.not_false, Bool.and_true, Bool.and_false, Bool.true_and, Bool.false_and, Bool.or_true, Bool.or_false, Bool.true_or, Bool.false_or, decide_true, decide_false, Bool.not_eq_true', Bool.not_eq_eq_eq_not, decide_eq_true_eq, decide_eq_false_iff_not, VL.oInt1, VL.oInt2, VL.oLen, VL.oToInt, VL.oAdd, VL.oEq, VL.oNe, VL.oIsN, VL.oIn, VL.itemD, VL.isN, VL.der, VL.ders, VL.dats, VL.ioA, VL.endsV, VL.retE, VL.keepC, Option.map, List.range_succ, List.range_zero, List.map_cons, List.map_nil, List.map_append, List.nil_append, List.cons_append, List.append_nil, List.replicate_zero, List.replicate_succ, List.length_cons, List.length_nil, Nat.sub_self, List.getElem?_cons_zero, List.getElem?_cons_succ, List.set_cons_zero, List.set_cons_succ, Option.some.injEq, exists_eq_left', exists_eq_left, exists_eq_right, exists_and_left, exists_and_right, and_true, true_and, CV.d.injEq, CV.loc.injEq, Cell.lst.injEq, Cell.dat.injEq, Cell.dic.injEq, PyData.int.injEq, PyData.bool.injEq, PyData.list.injEq, PyData.tuple.injEq, PyData.str.injEq, reduceCtorEq, false_and, and_false, exists_false, false_or, or_false, if_true, if_false, reduceIte, Bool.false_eq_true, Nat.reduceAdd, Nat.reduceSub, Nat.succ_sub_succ, Nat.zero_add, VL.gP, List.filterMap_cons, List.filterMap_nil, List.cons.injEq, VL.wDisp0, VL.wDisp, VL.wPairs, VL.oLcm, VL.wPop, VL.wRevM, VL.wClearM, VL.wTupRg, VL.wListRg, VL.wR1, VL.wR2, VL.wRevN, VL.oRepT, VL.oRepL, List.length_map]
  obtain ⟨m, hm⟩ : ∃ m : Nat, (if (if (ns.length : Int) < 6 then (ns.length : Int) else 6) > 1 then (if (ns.length : Int) < 6 then (ns.length : Int) else 6) else 1) = (m : Int) ∧ m ≤ 100 := by
    refine ⟨(if (if (ns.length : Int) < 6 then (ns.length : Int) else 6) > 1 then (if (ns.length : Int) < 6 then (ns.length : Int) else 6) else 1).toNat, ?_, ?_⟩ <;> (repeat' split) <;> omega
  rw [hm.1]
  have hm2 := hm.2
  refine ⟨⟨by omega, by omega⟩, fun i ρ => ∃ c1 c2 c3 c4 c5 c6 c7 c8 c9, ρ = [.dat (.list (ns.map .int)), c1, c2, c3, c4, c5, c6, c7, c8, c9], ⟨_, _, _, _, _, _, _, _, _, rfl⟩, ?_, ?_⟩
  · rintro i ρ d ⟨c1, c2, c3, c4, c5, c6, c7, c8, c9, rfl⟩ hx
    obtain ⟨rfl, hi⟩ := rng_at hx
    simp only [VL.wSeq, VL.wNext, VL.wNever, VL.wAsg, VL.wSet, VL.wVar, VL.wFrz, VL.wC, VL.wOp, VL.wTest, VL.wNotT, VL.wAndT, VL.wOrT, VL.wAnd, VL.wOr, VL.wNot, VL.wIf, VL.wNil, VL.wCons, VL.wTup, VL.wLst, VL.wStay, VL.wNew, VL.wPar, VL.wAug, VL.wDrop, VL.wRet, VL.wRetN, VL.wRet0, VL.wIfS, VL.wBrk, VL.wCnt, VL.wGt, VL.wGs, VL.wCB, VL.wCBN, VL.wCall, VL.wCallN, VL.wCallIo, VL.wCallIoN, VL.wCallK, VL.wIsi, VL.wIsi2, VL.wApp, VL.wExt, VL.wIns, VL.wSetIt, VL.wNoPart, VL.wPart, VL.wSl, VL.wSlN, VL.wChain, VL.wNeg, VL.wDnew, VL.wDput, VL.wDget, VL.wDin, VL.wDnin, VL.wIndex, VL.wRev, VL.wParNE, VL.wParEN, VL.wPar3, VL.wYes, VL.wSeqOf, VL.wRng1, VL.wRng2, VL.oI, VL.oI0, VL.oLt, VL.oLe, VL.oGt, VL.oGe, VL.oSub, VL.oMul, VL.oFdiv, VL.oMod, VL.oPow, VL.oShl', VL.oAbs, VL.oMax2, VL.oMin2, VL.oGcd, VL.atI_0, VL.atI_1, VL.atI_2, VL.ixN_20, VL.ixN_21, and_assoc, VL.shp_int, VL.shp_bool, VL.shp_none, VL.eqv_int, VL.eqv_bool, VL.isiD, VL.tyD, String.reduceBEq, Bool.not_true, Bool.not_false, Bool.and_true, Bool.and_false, Bool.true_and, Bool.false_and, Bool.or_true, Bool.or_false, Bool.true_or, Bool.false_or, decide_true, decide_false, Bool.not_eq_true', Bool.not_eq_eq_eq_not, decide_eq_true_eq, decide_eq_false_iff_not, VL.oInt1, VL.oInt2, VL.oLen, VL.oToInt, VL.oAdd, VL.oEq, VL.oNe, VL.oIsN, VL.oIn, VL.itemD, VL.isN, VL.der, VL.ders, VL.dats, VL.ioA, VL.endsV, VL.retE, VL.keepC, Option.map, List.range_succ, List.range_zero, List.map_cons, List.map_nil, List.map_append, List.nil_append, List.cons_append, List.append_nil, List.replicate_zero, List.replicate_succ, List.length_cons, List.length_nil, Nat.sub_self, List.getElem?_cons_zero, List.getElem?_cons_succ, List.set_cons_zero, List.set_cons_succ, Option.some.injEq, exists_eq_left', exists_eq_left, exists_eq_right, exists_and_left, exists_and_right, and_true, true_and, CV.d.injEq, CV.loc.injEq, Cell.lst.injEq, Cell.dat.injEq, Cell.dic.injEq, PyData.int.injEq, PyData.bool.injEq, PyData.list.injEq, PyData.tuple.injEq, PyData.str.injEq, reduceCtorEq, false_and, and_false, exists_false, false_or, or_false, if_true, if_false, reduceIte, Bool.false_eq_true, Nat.reduceAdd, Nat.reduceSub, Nat.succ_sub_succ, Nat.zero_add, VL.gP, List.filterMap_cons, List.filterMap_nil, List.cons.injEq, VL.wDisp0, VL.wDisp, VL.wPairs, VL.oLcm, VL.wPop, VL.wRevM, VL.wClearM, VL.wTupRg, VL.wListRg, VL.wR1, VL.wR2, VL.wRevN, VL.oRepT, VL.oRepL]
    rw [hB]
    refine seq_gen fun k2 hk2 => ?_
    simp only [VL.wSeq, VL.wNext, VL.wNever, VL.wAsg, VL.wSet, VL.wVar, VL.wFrz, VL.wC, VL.wOp, VL.wTest, VL.wNotT, VL.wAndT, VL.wOrT, VL.wAnd, VL.wOr, VL.wNot, VL.wIf, VL.wNil, VL.wCons, VL.wTup, VL.wLst, VL.wStay, VL.wNew, VL.wPar, VL.wAug, VL.wDrop, VL.wRet, VL.wRetN, VL.wRet0, VL.wIfS, VL.wBrk, VL.wCnt, VL.wGt, VL.wGs, VL.wCB, VL.wCBN, VL.wCall, VL.wCallN, VL.wCallIo, VL.wCallIoN, VL.wCallK, VL.wIsi, VL.wIsi2, VL.wApp, VL.wExt, VL.wIns, VL.wSetIt, VL.wNoPart, VL.wPart, VL.wSl, VL.wSlN, VL.wChain, VL.wNeg, VL.wDnew, VL.wDput, VL.wDget, VL.wDin, VL.wDnin, VL.wIndex, VL.wRev, VL.wParNE, VL.wParEN, VL.wPar3, VL.wYes, VL.wSeqOf, VL.wRng1, VL.wRng2, VL.oI, VL.oI0, VL.oLt, VL.oLe, VL.oGt, VL.oGe, VL.oSub, VL.oMul, VL.oFdiv, VL.oMod, VL.oPow, VL.oShl', VL.oAbs, VL.oMax2, VL.oMin2, VL.oGcd, VL.atI_0, VL.atI_1, VL.atI_2, VL.ixN_20, VL.ixN_21, and_assoc, VL.shp_int, VL.shp_bool, VL.shp_none, VL.eqv_int, VL.eqv_bool, VL.isiD, VL.tyD, String.reduceBEq, Bool.not_true, Bool.not_false, Bool.and_true, Bool.and_false, Bool.true_and, Bool.false_and, Bool.or_true, Bool.or_false, Bool.true_or, Bool.false_or, decide_true, decide_false, Bool.not_eq_true', Bool.not_eq_eq_eq_not, decide_eq_true_eq, decide_eq_false_iff_not, VL.oInt1, VL.oInt2, VL.oLen, VL.oToInt, VL.oAdd, VL.oEq, VL.oNe, VL.oIsN, VL.oIn, VL.itemD, VL.isN, VL.der, VL.ders, VL.dats, VL.ioA, VL.endsV, VL.retE, VL.keepC, Option.map, List.range_succ, List.range_zero, List.map_cons, List.map_nil, List.map_append, List.nil_append, List.cons_append, List.append_nil, List.replicate_zero, List.replicate_succ, List.length_cons, List.length_nil, Nat.sub_self, List.getElem?_cons_zero, List.getElem?_cons_succ, List.set_cons_zero, List.set_cons_succ, Option.some.injEq, exists_eq_left', exists_eq_left, exists_eq_right, exists_and_left, exists_and_right, and_true, true_and, CV.d.injEq, CV.loc.injEq, Cell.lst.injEq, Cell.dat.injEq, Cell.dic.injEq, PyData.int.injEq, PyData.bool.injEq, PyData.list.injEq, PyData.tuple.injEq, PyData.str.injEq, reduceCtorEq, false_and, and_false, exists_false, false_or, or_false, if_true, if_false, reduceIte, Bool.false_eq_true, Nat.reduceAdd, Nat.reduceSub, Nat.succ_sub_succ, Nat.zero_add, VL.gP, List.filterMap_cons, List.filterMap_nil, List.cons.injEq, VL.wDisp0, VL.wDisp, VL.wPairs, VL.oLcm, VL.wPop, VL.wRevM, VL.wClearM, VL.wTupRg, VL.wListRg, VL.wR1, VL.wR2, VL.wRevN, VL.oRepT, VL.oRepL, S__law_well]
    refine ⟨ns, rfl, i, rfl, hl, by omega, fun a b b0 b1 => ⟨by decide, ?_⟩⟩
    rw [hk2]
    clear hk2 k2
    refine seq_gen fun k2 hk2 => ?_
    simp only [VL.wSeq, VL.wNext, VL.wNever, VL.wAsg, VL.wSet, VL.wVar, VL.wFrz, VL.wC, VL.wOp, VL.wTest, VL.wNotT, VL.wAndT, VL.wOrT, VL.wAnd, VL.wOr, VL.wNot, VL.wIf, VL.wNil, VL.wCons, VL.wTup, VL.wLst, VL.wStay, VL.wNew, VL.wPar, VL.wAug, VL.wDrop, VL.wRet, VL.wRetN, VL.wRet0, VL.wIfS, VL.wBrk, VL.wCnt, VL.wGt, VL.wGs, VL.wCB, VL.wCBN, VL.wCall, VL.wCallN, VL.wCallIo, VL.wCallIoN, VL.wCallK, VL.wIsi, VL.wIsi2, VL.wApp, VL.wExt, VL.wIns, VL.wSetIt, VL.wNoPart, VL.wPart, VL.wSl, VL.wSlN, VL.wChain, VL.wNeg, VL.wDnew, VL.wDput, VL.wDget, VL.wDin, VL.wDnin, VL.wIndex, VL.wRev, VL.wParNE, VL.wParEN, VL.wPar3, VL.wYes, VL.wSeqOf, VL.wRng1, VL.wRng2, VL.oI, VL.oI0, VL.oLt, VL.oLe, VL.oGt, VL.oGe, VL.oSub, VL.oMul, VL.oFdiv, VL.oMod, VL.oPow, VL.oShl', VL.oAbs, VL.oMax2, VL.oMin2, VL.oGcd, VL.atI_0, VL.atI_1, VL.atI_2, VL.ixN_20, VL.ixN_21, and_assoc, VL.shp_int, VL.shp_bool, VL.shp_none, VL.eqv_int, VL.eqv_bool, VL.isiD, VL.tyD, String.reduceBEq, Bool.not_true, Bool.not_false, Bool.and_true, Bool.and_false, Bool.true_and, Bool.false_and, Bool.or_true, Bool.or_false, Bool.true_or, Bool.false_or, decide_true, decide_false, Bool.not_eq_true', Bool.not_eq_eq_eq_not, decide_eq_true_eq, decide_eq_false_iff_not, VL.oInt1, VL.oInt2, VL.oLen, VL.oToInt, VL.oAdd, VL.oEq, VL.oNe, VL.oIsN, VL.oIn, VL.itemD, VL.isN, VL.der, VL.ders, VL.dats, VL.ioA, VL.endsV, VL.retE, VL.keepC, Option.map, List.range_succ, List.range_zero, List.map_cons, List.map_nil, List.map_append, List.nil_append, List.cons_append, List.append_nil, List.replicate_zero, List.replicate_succ, List.length_cons, List.length_nil, Nat.sub_self, List.getElem?_cons_zero, List.getElem?_cons_succ, List.set_cons_zero, List.set_cons_succ, Option.some.injEq, exists_eq_left', exists_eq_left, exists_eq_right, exists_and_left, exists_and_right, and_true, true_and, CV.d.injEq, CV.loc.injEq, Cell.lst.injEq, Cell.dat.injEq, Cell.dic.injEq, PyData.int.injEq, PyData.bool.injEq, PyData.list.injEq, PyData.tuple.injEq, PyData.str.injEq, reduceCtorEq, false_and, and_false, exists_false, false_or, or_false, if_true, if_false, reduceIte, Bool.false_eq_true, Nat.reduceAdd, Nat.reduceSub, Nat.succ_sub_succ, Nat.zero_add, VL.gP, List.filterMap_cons, List.filterMap_nil, List.cons.injEq, VL.wDisp0, VL.wDisp, VL.wPairs, VL.oLcm, VL.wPop, VL.wRevM, VL.wClearM, VL.wTupRg, VL.wListRg, VL.wR1, VL.wR2, VL.wRevN, VL.oRepT, VL.oRepL, S__law_dip, Prod.mk.injEq]
    refine ⟨by decide, b0, b1, by decide, by decide, by decide, by decide, fun r a' c hr hc0 hc1 => ?_⟩
    obtain ⟨x, hx2, ex⟩ := pick2 (x := 5) (y := 12) hr
    refine ⟨_, ex, x, rfl, b0, b1, hc0, by omega, by omega, by omega, fun r2 a2 c' hr2 hd0 hd1 => ?_⟩
    rw [hk2]
    clear hk2 k2
    rw [show (1 : Int) + (r2 : Int) = ((r2 + 1 : Nat) : Int) by omega]
    generalize hn : r2 + 1 = n
    have n1 : 1 ≤ n := by omega
    have n2 : n ≤ 12 := by omega
    refine for_body fun B hB => ?_
    unfold wFor
    simp only [VL.wSeq, VL.wNext, VL.wNever, VL.wAsg, VL.wSet, VL.wVar, VL.wFrz, VL.wC, VL.wOp, VL.wTest, VL.wNotT, VL.wAndT, VL.wOrT, VL.wAnd, VL.wOr, VL.wNot, VL.wIf, VL.wNil, VL.wCons, VL.wTup, VL.wLst, VL.wStay, VL.wNew, VL.wPar, VL.wAug, VL.wDrop, VL.wRet, VL.wRetN, VL.wRet0, VL.wIfS, VL.wBrk, VL.wCnt, VL.wGt, VL.wGs, VL.wCB, VL.wCBN, VL.wCall, VL.wCallN, VL.wCallIo, VL.wCallIoN, VL.wCallK, VL.wIsi, VL.wIsi2, VL.wApp, VL.wExt, VL.wIns, VL.wSetIt, VL.wNoPart, VL.wPart, VL.wSl, VL.wSlN, VL.wChain, VL.wNeg, VL.wDnew, VL.wDput, VL.wDget, VL.wDin, VL.wDnin, VL.wIndex, VL.wRev, VL.wParNE, VL.wParEN, VL.wPar3, VL.wYes, VL.wSeqOf, VL.wRng1, VL.wRng2, VL.oI, VL.oI0, VL.oLt, VL.oLe, VL.oGt, VL.oGe, VL.oSub, VL.oMul, VL.oFdiv, VL.oMod, VL.oPow, VL.oShl', VL.oAbs, VL.oMax2, VL.oMin2, VL.oGcd, VL.atI_0, VL.atI_1, VL.atI_2, VL.ixN_20, VL.ixN_21, and_assoc, VL.shp_int, VL.shp_bool, VL.shp_none, VL.eqv_int, VL.eqv_bool, VL.isiD, VL.tyD, String.reduceBEq, Bool.not_true, Bool.not_false, Bool.and_true, Bool.and_false, Bool.true_and, Bool.false_and, Bool.or_true, Bool.or_false, Bool.true_or, Bool.false_or, decide_true, decide_false, Bool.not_eq_true', Bool.not_eq_eq_eq_not, decide_eq_true_eq, decide_eq_false_iff_not, VL.oInt1, VL.oInt2, VL.oLen, VL.oToInt, VL.oAdd, VL.oEq, VL.oNe, VL.oIsN, VL.oIn, VL.itemD, VL.isN, VL.der, VL.ders, VL.dats, VL.ioA, VL.endsV, VL.retE, VL.keepC, Option.map, List.range_succ, List.range_zero, List.map_cons, List.map_nil, List.map_append, List.nil_append, List.cons_append, List.append_nil, List.replicate_zero, List.replicate_succ, List.length_cons, List.length_nil, Nat.sub_self, List.getElem?_cons_zero, List.getElem?_cons_succ, List.set_cons_zero, List.set_cons_succ, Option.some.injEq, exists_eq_left', exists_eq_left, exists_eq_right, exists_and_left, exists_and_right, and_true, true_and, CV.d.injEq, CV.loc.injEq, Cell.lst.injEq, Cell.dat.injEq, Cell.dic.injEq, PyData.int.injEq, PyData.bool.injEq, PyData.list.injEq, PyData.tuple.injEq, PyData.str.injEq, reduceCtorEq, false_and, and_false, exists_false, false_or, or_false, if_true, if_false, reduceIte, Bool.false_eq_true, Nat.reduceAdd, Nat.reduceSub, Nat.succ_sub_succ, Nat.zero_add, VL.gP, List.filterMap_cons, List.filterMap_nil, List.cons.injEq, VL.wDisp0, VL.wDisp, VL.wPairs, VL.oLcm, VL.wPop, VL.wRevM, VL.wClearM, VL.wTupRg, VL.wListRg, VL.wR1, VL.wR2, VL.wRevN, VL.oRepT, VL.oRepL]
    refine ⟨⟨by decide, by decide⟩, fun j ρ => ∃ (a c : Int) (c4 c5 c6 c7 c8 c9 : Cell), ρ = [.dat (.list (ns.map .int)), .dat (.int i), .lst false [.int a, .int b, .int c], .dat (.int n), c4, c5, c6, c7, c8, c9] ∧ 0 ≤ c ∧ c ≤ 10 + 5 * j, ⟨a2, c', _, _, _, _, _, _, rfl, hd0, by omega⟩, ?_, ?_⟩
    · rintro j ρ d ⟨a, c, c4, c5, c6, c7, c8, c9, rfl, e0, e1⟩ hx
      obtain ⟨rfl, hj⟩ := rng_at (n := 2) hx
      simp only [VL.wSeq, VL.wNext, VL.wNever, VL.wAsg, VL.wSet, VL.wVar, VL.wFrz, VL.wC, VL.wOp, VL.wTest, VL.wNotT, VL.wAndT, VL.wOrT, VL.wAnd, VL.wOr, VL.wNot, VL.wIf, VL.wNil, VL.wCons, VL.wTup, VL.wLst, VL.wStay, VL.wNew, VL.wPar, VL.wAug, VL.wDrop, VL.wRet, VL.wRetN, VL.wRet0, VL.wIfS, VL.wBrk, VL.wCnt, VL.wGt, VL.wGs, VL.wCB, VL.wCBN, VL.wCall, VL.wCallN, VL.wCallIo, VL.wCallIoN, VL.wCallK, VL.wIsi, VL.wIsi2, VL.wApp, VL.wExt, VL.wIns, VL.wSetIt, VL.wNoPart, VL.wPart, VL.wSl, VL.wSlN, VL.wChain, VL.wNeg, VL.wDnew, VL.wDput, VL.wDget, VL.wDin, VL.wDnin, VL.wIndex, VL.wRev, VL.wParNE, VL.wParEN, VL.wPar3, VL.wYes, VL.wSeqOf, VL.wRng1, VL.wRng2, VL.oI, VL.oI0, VL.oLt, VL.oLe, VL.oGt, VL.oGe, VL.oSub, VL.oMul, VL.oFdiv, VL.oMod, VL.oPow, VL.oShl', VL.oAbs, VL.oMax2, VL.oMin2, VL.oGcd, VL.atI_0, VL.atI_1, VL.atI_2, VL.ixN_20, VL.ixN_21, and_assoc, VL.shp_int, VL.shp_bool, VL.shp_none, VL.eqv_int, VL.eqv_bool, VL.isiD, VL.tyD, String.reduceBEq, Bool.not_true, Bool.not_false, Bool.and_true, Bool.and_false, Bool.true_and, Bool.false_and, Bool.or_true, Bool.or_false, Bool.true_or, Bool.false_or, decide_true, decide_false, Bool.not_eq_true', Bool.not_eq_eq_eq_not, decide_eq_true_eq, decide_eq_false_iff_not, VL.oInt1, VL.oInt2, VL.oLen, VL.oToInt, VL.oAdd, VL.oEq, VL.oNe, VL.oIsN, VL.oIn, VL.itemD, VL.isN, VL.der, VL.ders, VL.dats, VL.ioA, VL.endsV, VL.retE, VL.keepC, Option.map, List.range_succ, List.range_zero, List.map_cons, List.map_nil, List.map_append, List.nil_append, List.cons_append, List.append_nil, List.replicate_zero, List.replicate_succ, List.length_cons, List.length_nil, Nat.sub_self, List.getElem?_cons_zero, List.getElem?_cons_succ, List.set_cons_zero, List.set_cons_succ, Option.some.injEq, exists_eq_left', exists_eq_left, exists_eq_right, exists_and_left, exists_and_right, and_true, true_and, CV.d.injEq, CV.loc.injEq, Cell.lst.injEq, Cell.dat.injEq, Cell.dic.injEq, PyData.int.injEq, PyData.bool.injEq, PyData.list.injEq, PyData.tuple.injEq, PyData.str.injEq, reduceCtorEq, false_and, and_false, exists_false, false_or, or_false, if_true, if_false, reduceIte, Bool.false_eq_true, Nat.reduceAdd, Nat.reduceSub, Nat.succ_sub_succ, Nat.zero_add, VL.gP, List.filterMap_cons, List.filterMap_nil, List.cons.injEq, VL.wDisp0, VL.wDisp, VL.wPairs, VL.oLcm, VL.wPop, VL.wRevM, VL.wClearM, VL.wTupRg, VL.wListRg, VL.wR1, VL.wR2, VL.wRevN, VL.oRepT, VL.oRepL]
      rw [hB]
      refine seq_gen fun k2 hk2 => ?_
      simp only [VL.wSeq, VL.wNext, VL.wNever, VL.wAsg, VL.wSet, VL.wVar, VL.wFrz, VL.wC, VL.wOp, VL.wTest, VL.wNotT, VL.wAndT, VL.wOrT, VL.wAnd, VL.wOr, VL.wNot, VL.wIf, VL.wNil, VL.wCons, VL.wTup, VL.wLst, VL.wStay, VL.wNew, VL.wPar, VL.wAug, VL.wDrop, VL.wRet, VL.wRetN, VL.wRet0, VL.wIfS, VL.wBrk, VL.wCnt, VL.wGt, VL.wGs, VL.wCB, VL.wCBN, VL.wCall, VL.wCallN, VL.wCallIo, VL.wCallIoN, VL.wCallK, VL.wIsi, VL.wIsi2, VL.wApp, VL.wExt, VL.wIns, VL.wSetIt, VL.wNoPart, VL.wPart, VL.wSl, VL.wSlN, VL.wChain, VL.wNeg, VL.wDnew, VL.wDput, VL.wDget, VL.wDin, VL.wDnin, VL.wIndex, VL.wRev, VL.wParNE, VL.wParEN, VL.wPar3, VL.wYes, VL.wSeqOf, VL.wRng1, VL.wRng2, VL.oI, VL.oI0, VL.oLt, VL.oLe, VL.oGt, VL.oGe, VL.oSub, VL.oMul, VL.oFdiv, VL.oMod, VL.oPow, VL.oShl', VL.oAbs, VL.oMax2, VL.oMin2, VL.oGcd, VL.atI_0, VL.atI_1, VL.atI_2, VL.ixN_20, VL.ixN_21, and_assoc, VL.shp_int, VL.shp_bool, VL.shp_none, VL.eqv_int, VL.eqv_bool, VL.isiD, VL.tyD, String.reduceBEq, Bool.not_true, Bool.not_false, Bool.and_true, Bool.and_false, Bool.true_and, Bool.false_and, Bool.or_true, Bool.or_false, Bool.true_or, Bool.false_or, decide_true, decide_false, Bool.not_eq_true', Bool.not_eq_eq_eq_not, decide_eq_true_eq, decide_eq_false_iff_not, VL.oInt1, VL.oInt2, VL.oLen, VL.oToInt, VL.oAdd, VL.oEq, VL.oNe, VL.oIsN, VL.oIn, VL.itemD, VL.isN, VL.der, VL.ders, VL.dats, VL.ioA, VL.endsV, VL.retE, VL.keepC, Option.map, List.range_succ, List.range_zero, List.map_cons, List.map_nil, List.map_append, List.nil_append, List.cons_append, List.append_nil, List.replicate_zero, List.replicate_succ, List.length_cons, List.length_nil, Nat.sub_self, List.getElem?_cons_zero, List.getElem?_cons_succ, List.set_cons_zero, List.set_cons_succ, Option.some.injEq, exists_eq_left', exists_eq_left, exists_eq_right, exists_and_left, exists_and_right, and_true, true_and, CV.d.injEq, CV.loc.injEq, Cell.lst.injEq, Cell.dat.injEq, Cell.dic.injEq, PyData.int.injEq, PyData.bool.injEq, PyData.list.injEq, PyData.tuple.injEq, PyData.str.injEq, reduceCtorEq, false_and, and_false, exists_false, false_or, or_false, if_true, if_false, reduceIte, Bool.false_eq_true, Nat.reduceAdd, Nat.reduceSub, Nat.succ_sub_succ, Nat.zero_add, VL.gP, List.filterMap_cons, List.filterMap_nil, List.cons.injEq, VL.wDisp0, VL.wDisp, VL.wPairs, VL.oLcm, VL.wPop, VL.wRevM, VL.wClearM, VL.wTupRg, VL.wListRg, VL.wR1, VL.wR2, VL.wRevN, VL.oRepT, VL.oRepL, S__law_dip, Prod.mk.injEq]
      refine ⟨by decide, b0, b1, e0, by omega, by decide, by decide, fun r a' c' hr f0 f1 => ?_⟩
      obtain ⟨x, hx2, ex⟩ := pick2 (x := 3) (y := 59) hr
      refine ⟨_, ex, x, rfl, b0, b1, f0, by omega, by omega, by omega, fun r2 a2 c2 hr2 g0 g1 => ?_⟩
      rw [hk2]
      clear hk2 k2
      generalize hbt : (2 : Int) + (r2 : Int) = bt
      have bt0 : 2 ≤ bt := by omega
      have bt1 : bt ≤ 60 := by omega
      refine seq_gen fun k2 hk2 => ?_
      simp only [VL.wSeq, VL.wNext, VL.wNever, VL.wAsg, VL.wSet, VL.wVar, VL.wFrz, VL.wC, VL.wOp, VL.wTest, VL.wNotT, VL.wAndT, VL.wOrT, VL.wAnd, VL.wOr, VL.wNot, VL.wIf, VL.wNil, VL.wCons, VL.wTup, VL.wLst, VL.wStay, VL.wNew, VL.wPar, VL.wAug, VL.wDrop, VL.wRet, VL.wRetN, VL.wRet0, VL.wIfS, VL.wBrk, VL.wCnt, VL.wGt, VL.wGs, VL.wCB, VL.wCBN, VL.wCall, VL.wCallN, VL.wCallIo, VL.wCallIoN, VL.wCallK, VL.wIsi, VL.wIsi2, VL.wApp, VL.wExt, VL.wIns, VL.wSetIt, VL.wNoPart, VL.wPart, VL.wSl, VL.wSlN, VL.wChain, VL.wNeg, VL.wDnew, VL.wDput, VL.wDget, VL.wDin, VL.wDnin, VL.wIndex, VL.wRev, VL.wParNE, VL.wParEN, VL.wPar3, VL.wYes, VL.wSeqOf, VL.wRng1, VL.wRng2, VL.oI, VL.oI0, VL.oLt, VL.oLe, VL.oGt, VL.oGe, VL.oSub, VL.oMul, VL.oFdiv, VL.oMod, VL.oPow, VL.oShl', VL.oAbs, VL.oMax2, VL.oMin2, VL.oGcd, VL.atI_0, VL.atI_1, VL.atI_2, VL.ixN_20, VL.ixN_21, and_assoc, VL.shp_int, VL.shp_bool, VL.shp_none, VL.eqv_int, VL.eqv_bool, VL.isiD, VL.tyD, String.reduceBEq, Bool.not_true, Bool.not_false, Bool.and_true, Bool.and_false, Bool.true_and, Bool.false_and, Bool.or_true, Bool.or_false, Bool.true_or, Bool.false_or, decide_true, decide_false, Bool.not_eq_true', Bool.not_eq_eq_eq_not, decide_eq_true_eq, decide_eq_false_iff_not, VL.oInt1, VL.oInt2, VL.oLen, VL.oToInt, VL.oAdd, VL.oEq, VL.oNe, VL.oIsN, VL.oIn, VL.itemD, VL.isN, VL.der, VL.ders, VL.dats, VL.ioA, VL.endsV, VL.retE, VL.keepC, Option.map, List.range_succ, List.range_zero, List.map_cons, List.map_nil, List.map_append, List.nil_append, List.cons_append, List.append_nil, List.replicate_zero, List.replicate_succ, List.length_cons, List.length_nil, Nat.sub_self, List.getElem?_cons_zero, List.getElem?_cons_succ, List.set_cons_zero, List.set_cons_succ, Option.some.injEq, exists_eq_left', exists_eq_left, exists_eq_right, exists_and_left, exists_and_right, and_true, true_and, CV.d.injEq, CV.loc.injEq, Cell.lst.injEq, Cell.dat.injEq, Cell.dic.injEq, PyData.int.injEq, PyData.bool.injEq, PyData.list.injEq, PyData.tuple.injEq, PyData.str.injEq, reduceCtorEq, false_and, and_false, exists_false, false_or, or_false, if_true, if_false, reduceIte, Bool.false_eq_true, Nat.reduceAdd, Nat.reduceSub, Nat.succ_sub_succ, Nat.zero_add, VL.gP, List.filterMap_cons, List.filterMap_nil, List.cons.injEq, VL.wDisp0, VL.wDisp, VL.wPairs, VL.oLcm, VL.wPop, VL.wRevM, VL.wClearM, VL.wTupRg, VL.wListRg, VL.wR1, VL.wR2, VL.wRevN, VL.oRepT, VL.oRepL, S__law_dip, Prod.mk.injEq, S__law_low]
      refine ⟨b0, b1, g0, by omega, by omega, by omega, fun r3 a3 c3 hr3 i0 i1 => ?_⟩
      have hs := sh_low (a := 1 + (r3 : Int)) (b := bt) (by omega) (by omega) bt1
      generalize ((1 + (r3 : Int) : Int) : Rat) / (bt : Rat) = q at hs ⊢
      refine ⟨by omega, small_bd (by omega) (by omega), ?_⟩
      rw [hk2]
      clear hk2 k2
      obtain ⟨p, pn, pd, hp⟩ := oth hs
      refine seq_gen fun k2 hk2 => ?_
      simp only [VL.wSeq, VL.wNext, VL.wNever, VL.wAsg, VL.wSet, VL.wVar, VL.wFrz, VL.wC, VL.wOp, VL.wTest, VL.wNotT, VL.wAndT, VL.wOrT, VL.wAnd, VL.wOr, VL.wNot, VL.wIf, VL.wNil, VL.wCons, VL.wTup, VL.wLst, VL.wStay, VL.wNew, VL.wPar, VL.wAug, VL.wDrop, VL.wRet, VL.wRetN, VL.wRet0, VL.wIfS, VL.wBrk, VL.wCnt, VL.wGt, VL.wGs, VL.wCB, VL.wCBN, VL.wCall, VL.wCallN, VL.wCallIo, VL.wCallIoN, VL.wCallK, VL.wIsi, VL.wIsi2, VL.wApp, VL.wExt, VL.wIns, VL.wSetIt, VL.wNoPart, VL.wPart, VL.wSl, VL.wSlN, VL.wChain, VL.wNeg, VL.wDnew, VL.wDput, VL.wDget, VL.wDin, VL.wDnin, VL.wIndex, VL.wRev, VL.wParNE, VL.wParEN, VL.wPar3, VL.wYes, VL.wSeqOf, VL.wRng1, VL.wRng2, VL.oI, VL.oI0, VL.oLt, VL.oLe, VL.oGt, VL.oGe, VL.oSub, VL.oMul, VL.oFdiv, VL.oMod, VL.oPow, VL.oShl', VL.oAbs, VL.oMax2, VL.oMin2, VL.oGcd, VL.atI_0, VL.atI_1, VL.atI_2, VL.ixN_20, VL.ixN_21, and_assoc, VL.shp_int, VL.shp_bool, VL.shp_none, VL.eqv_int, VL.eqv_bool, VL.isiD, VL.tyD, String.reduceBEq, Bool.not_true, Bool.not_false, Bool.and_true, Bool.and_false, Bool.true_and, Bool.false_and, Bool.or_true, Bool.or_false, Bool.true_or, Bool.false_or, decide_true, decide_false, Bool.not_eq_true', Bool.not_eq_eq_eq_not, decide_eq_true_eq, decide_eq_false_iff_not, VL.oInt1, VL.oInt2, VL.oLen, VL.oToInt, VL.oAdd, VL.oEq, VL.oNe, VL.oIsN, VL.oIn, VL.itemD, VL.isN, VL.der, VL.ders, VL.dats, VL.ioA, VL.endsV, VL.retE, VL.keepC, Option.map, List.range_succ, List.range_zero, List.map_cons, List.map_nil, List.map_append, List.nil_append, List.cons_append, List.append_nil, List.replicate_zero, List.replicate_succ, List.length_cons, List.length_nil, Nat.sub_self, List.getElem?_cons_zero, List.getElem?_cons_succ, List.set_cons_zero, List.set_cons_succ, Option.some.injEq, exists_eq_left', exists_eq_left, exists_eq_right, exists_and_left, exists_and_right, and_true, true_and, CV.d.injEq, CV.loc.injEq, Cell.lst.injEq, Cell.dat.injEq, Cell.dic.injEq, PyData.int.injEq, PyData.bool.injEq, PyData.list.injEq, PyData.tuple.injEq, PyData.str.injEq, reduceCtorEq, false_and, and_false, exists_false, false_or, or_false, if_true, if_false, reduceIte, Bool.false_eq_true, Nat.reduceAdd, Nat.reduceSub, Nat.succ_sub_succ, Nat.zero_add, VL.gP, List.filterMap_cons, List.filterMap_nil, List.cons.injEq, VL.wDisp0, VL.wDisp, VL.wPairs, VL.oLcm, VL.wPop, VL.wRevM, VL.wClearM, VL.wTupRg, VL.wListRg, VL.wR1, VL.wR2, VL.wRevN, VL.oRepT, VL.oRepL, S__law_mean]
      refine ⟨n, rfl, q, rfl, n1, n2, hs, ?_⟩
      have e1 : atI [PyData.int q.num, PyData.int (q.den : Int)] 1 = some (.int (q.den : Int)) := rfl
      have e2 : atI [PyData.int q.num, PyData.int (q.den : Int)] 0 = some (.int q.num) := rfl
      unfold rD
      simp only [VL.wSeq, VL.wNext, VL.wNever, VL.wAsg, VL.wSet, VL.wVar, VL.wFrz, VL.wC, VL.wOp, VL.wTest, VL.wNotT, VL.wAndT, VL.wOrT, VL.wAnd, VL.wOr, VL.wNot, VL.wIf, VL.wNil, VL.wCons, VL.wTup, VL.wLst, VL.wStay, VL.wNew, VL.wPar, VL.wAug, VL.wDrop, VL.wRet, VL.wRetN, VL.wRet0, VL.wIfS, VL.wBrk, VL.wCnt, VL.wGt, VL.wGs, VL.wCB, VL.wCBN, VL.wCall, VL.wCallN, VL.wCallIo, VL.wCallIoN, VL.wCallK, VL.wIsi, VL.wIsi2, VL.wApp, VL.wExt, VL.wIns, VL.wSetIt, VL.wNoPart, VL.wPart, VL.wSl, VL.wSlN, VL.wChain, VL.wNeg, VL.wDnew, VL.wDput, VL.wDget, VL.wDin, VL.wDnin, VL.wIndex, VL.wRev, VL.wParNE, VL.wParEN, VL.wPar3, VL.wYes, VL.wSeqOf, VL.wRng1, VL.wRng2, VL.oI, VL.oI0, VL.oLt, VL.oLe, VL.oGt, VL.oGe, VL.oSub, VL.oMul, VL.oFdiv, VL.oMod, VL.oPow, VL.oShl', VL.oAbs, VL.oMax2, VL.oMin2, VL.oGcd, VL.atI_0, VL.atI_1, VL.atI_2, VL.ixN_20, VL.ixN_21, and_assoc, VL.shp_int, VL.shp_bool, VL.shp_none, VL.eqv_int, VL.eqv_bool, VL.isiD, VL.tyD, String.reduceBEq, Bool.not_true, Bool.not_false, Bool.and_true, Bool.and_false, Bool.true_and, Bool.false_and, Bool.or_true, Bool.or_false, Bool.true_or, Bool.false_or, decide_true, decide_false, Bool.not_eq_true', Bool.not_eq_eq_eq_not, decide_eq_true_eq, decide_eq_false_iff_not, VL.oInt1, VL.oInt2, VL.oLen, VL.oToInt, VL.oAdd, VL.oEq, VL.oNe, VL.oIsN, VL.oIn, VL.itemD, VL.isN, VL.der, VL.ders, VL.dats, VL.ioA, VL.endsV, VL.retE, VL.keepC, Option.map, List.range_succ, List.range_zero, List.map_cons, List.map_nil, List.map_append, List.nil_append, List.cons_append, List.append_nil, List.replicate_zero, List.replicate_succ, List.length_cons, List.length_nil, Nat.sub_self, List.getElem?_cons_zero, List.getElem?_cons_succ, List.set_cons_zero, List.set_cons_succ, Option.some.injEq, exists_eq_left', exists_eq_left, exists_eq_right, exists_and_left, exists_and_right, and_true, true_and, CV.d.injEq, CV.loc.injEq, Cell.lst.injEq, Cell.dat.injEq, Cell.dic.injEq, PyData.int.injEq, PyData.bool.injEq, PyData.list.injEq, PyData.tuple.injEq, PyData.str.injEq, reduceCtorEq, false_and, and_false, exists_false, false_or, or_false, if_true, if_false, reduceIte, Bool.false_eq_true, Nat.reduceAdd, Nat.reduceSub, Nat.succ_sub_succ, Nat.zero_add, VL.gP, List.filterMap_cons, List.filterMap_nil, List.cons.injEq, VL.wDisp0, VL.wDisp, VL.wPairs, VL.oLcm, VL.wPop, VL.wRevM, VL.wClearM, VL.wTupRg, VL.wListRg, VL.wR1, VL.wR2, VL.wRevN, VL.oRepT, VL.oRepL, e1, e2]
      have fq : PyData.tuple [.int q.num, .int (q.den : Int)] = rD q := rfl
      have fp : PyData.tuple [.int ((q.den : Int) - q.num), .int (q.den : Int)] = rD p := by
        unfold rD
        rw [pn, pd]
      have mp : ((meanNum n p.num (p.den - p.num) : Int) : Rat) / (((p.den : Int) ^ n : Int) : Rat) = ((meanNum n q.num (q.den - q.num) : Int) : Rat) / (((q.den : Int) ^ n : Int) : Rat) := by
        rw [pn, pd, show (q.den : Int) - (q.den - q.num) = q.num by omega, mean_rev n2]
      generalize hM : ((meanNum n q.num (q.den - q.num) : Int) : Rat) / (((q.den : Int) ^ n : Int) : Rat) = M at *
      have fM : PyData.tuple [.int M.num, .int (M.den : Int)] = rD M := rfl
      rw [fq, fp, fM]
      refine ⟨by decide, ?_⟩
      rw [hk2]
      clear hk2 k2
      refine seq_gen fun k2 hk2 => ?_
      simp only [VL.wSeq, VL.wNext, VL.wNever, VL.wAsg, VL.wSet, VL.wVar, VL.wFrz, VL.wC, VL.wOp, VL.wTest, VL.wNotT, VL.wAndT, VL.wOrT, VL.wAnd, VL.wOr, VL.wNot, VL.wIf, VL.wNil, VL.wCons, VL.wTup, VL.wLst, VL.wStay, VL.wNew, VL.wPar, VL.wAug, VL.wDrop, VL.wRet, VL.wRetN, VL.wRet0, VL.wIfS, VL.wBrk, VL.wCnt, VL.wGt, VL.wGs, VL.wCB, VL.wCBN, VL.wCall, VL.wCallN, VL.wCallIo, VL.wCallIoN, VL.wCallK, VL.wIsi, VL.wIsi2, VL.wApp, VL.wExt, VL.wIns, VL.wSetIt, VL.wNoPart, VL.wPart, VL.wSl, VL.wSlN, VL.wChain, VL.wNeg, VL.wDnew, VL.wDput, VL.wDget, VL.wDin, VL.wDnin, VL.wIndex, VL.wRev, VL.wParNE, VL.wParEN, VL.wPar3, VL.wYes, VL.wSeqOf, VL.wRng1, VL.wRng2, VL.oI, VL.oI0, VL.oLt, VL.oLe, VL.oGt, VL.oGe, VL.oSub, VL.oMul, VL.oFdiv, VL.oMod, VL.oPow, VL.oShl', VL.oAbs, VL.oMax2, VL.oMin2, VL.oGcd, VL.atI_0, VL.atI_1, VL.atI_2, VL.ixN_20, VL.ixN_21, and_assoc, VL.shp_int, VL.shp_bool, VL.shp_none, VL.eqv_int, VL.eqv_bool, VL.isiD, VL.tyD, String.reduceBEq, Bool.not_true, Bool.not_false, Bool.and_true, Bool.and_false, Bool.true_and, Bool.false_and, Bool.or_true, Bool.or_false, Bool.true_or, Bool.false_or, decide_true, decide_false, Bool.not_eq_true', Bool.not_eq_eq_eq_not, decide_eq_true_eq, decide_eq_false_iff_not, VL.oInt1, VL.oInt2, VL.oLen, VL.oToInt, VL.oAdd, VL.oEq, VL.oNe, VL.oIsN, VL.oIn, VL.itemD, VL.isN, VL.der, VL.ders, VL.dats, VL.ioA, VL.endsV, VL.retE, VL.keepC, Option.map, List.range_succ, List.range_zero, List.map_cons, List.map_nil, List.map_append, List.nil_append, List.cons_append, List.append_nil, List.replicate_zero, List.replicate_succ, List.length_cons, List.length_nil, Nat.sub_self, List.getElem?_cons_zero, List.getElem?_cons_succ, List.set_cons_zero, List.set_cons_succ, Option.some.injEq, exists_eq_left', exists_eq_left, exists_eq_right, exists_and_left, exists_and_right, and_true, true_and, CV.d.injEq, CV.loc.injEq, Cell.lst.injEq, Cell.dat.injEq, Cell.dic.injEq, PyData.int.injEq, PyData.bool.injEq, PyData.list.injEq, PyData.tuple.injEq, PyData.str.injEq, reduceCtorEq, false_and, and_false, exists_false, false_or, or_false, if_true, if_false, reduceIte, Bool.false_eq_true, Nat.reduceAdd, Nat.reduceSub, Nat.succ_sub_succ, Nat.zero_add, VL.gP, List.filterMap_cons, List.filterMap_nil, List.cons.injEq, VL.wDisp0, VL.wDisp, VL.wPairs, VL.oLcm, VL.wPop, VL.wRevM, VL.wClearM, VL.wTupRg, VL.wListRg, VL.wR1, VL.wR2, VL.wRevN, VL.oRepT, VL.oRepL, S_mean_out]
      refine ⟨n, rfl, q, rfl, n1, n2, hs, n, rfl, q, rfl, n1, n2, hs, n, rfl, p, rfl, n1, n2, hp, ?_⟩
      refine ⟨by decide, ?_⟩
      rw [hk2, mp, hM]
      clear hk2 k2
      simp only [VL.wSeq, VL.wNext, VL.wNever, VL.wAsg, VL.wSet, VL.wVar, VL.wFrz, VL.wC, VL.wOp, VL.wTest, VL.wNotT, VL.wAndT, VL.wOrT, VL.wAnd, VL.wOr, VL.wNot, VL.wIf, VL.wNil, VL.wCons, VL.wTup, VL.wLst, VL.wStay, VL.wNew, VL.wPar, VL.wAug, VL.wDrop, VL.wRet, VL.wRetN, VL.wRet0, VL.wIfS, VL.wBrk, VL.wCnt, VL.wGt, VL.wGs, VL.wCB, VL.wCBN, VL.wCall, VL.wCallN, VL.wCallIo, VL.wCallIoN, VL.wCallK, VL.wIsi, VL.wIsi2, VL.wApp, VL.wExt, VL.wIns, VL.wSetIt, VL.wNoPart, VL.wPart, VL.wSl, VL.wSlN, VL.wChain, VL.wNeg, VL.wDnew, VL.wDput, VL.wDget, VL.wDin, VL.wDnin, VL.wIndex, VL.wRev, VL.wParNE, VL.wParEN, VL.wPar3, VL.wYes, VL.wSeqOf, VL.wRng1, VL.wRng2, VL.oI, VL.oI0, VL.oLt, VL.oLe, VL.oGt, VL.oGe, VL.oSub, VL.oMul, VL.oFdiv, VL.oMod, VL.oPow, VL.oShl', VL.oAbs, VL.oMax2, VL.oMin2, VL.oGcd, VL.atI_0, VL.atI_1, VL.atI_2, VL.ixN_20, VL.ixN_21, and_assoc, VL.shp_int, VL.shp_bool, VL.shp_none, VL.eqv_int, VL.eqv_bool, VL.isiD, VL.tyD, String.reduceBEq, Bool.not_true, Bool.not_false, Bool.and_true, Bool.and_false, Bool.true_and, Bool.false_and, Bool.or_true, Bool.or_false, Bool.true_or, Bool.false_or, decide_true, decide_false, Bool.not_eq_true', Bool.not_eq_eq_eq_not, decide_eq_true_eq, decide_eq_false_iff_not, VL.oInt1, VL.oInt2, VL.oLen, VL.oToInt, VL.oAdd, VL.oEq, VL.oNe, VL.oIsN, VL.oIn, VL.itemD, VL.isN, VL.der, VL.ders, VL.dats, VL.ioA, VL.endsV, VL.retE, VL.keepC, Option.map, List.range_succ, List.range_zero, List.map_cons, List.map_nil, List.map_append, List.nil_append, List.cons_append, List.append_nil, List.replicate_zero, List.replicate_succ, List.length_cons, List.length_nil, Nat.sub_self, List.getElem?_cons_zero, List.getElem?_cons_succ, List.set_cons_zero, List.set_cons_succ, Option.some.injEq, exists_eq_left', exists_eq_left, exists_eq_right, exists_and_left, exists_and_right, and_true, true_and, CV.d.injEq, CV.loc.injEq, Cell.lst.injEq, Cell.dat.injEq, Cell.dic.injEq, PyData.int.injEq, PyData.bool.injEq, PyData.list.injEq, PyData.tuple.injEq, PyData.str.injEq, reduceCtorEq, false_and, and_false, exists_false, false_or, or_false, if_true, if_false, reduceIte, Bool.false_eq_true, Nat.reduceAdd, Nat.reduceSub, Nat.succ_sub_succ, Nat.zero_add, VL.gP, List.filterMap_cons, List.filterMap_nil, List.cons.injEq, VL.wDisp0, VL.wDisp, VL.wPairs, VL.oLcm, VL.wPop, VL.wRevM, VL.wClearM, VL.wTupRg, VL.wListRg, VL.wR1, VL.wR2, VL.wRevN, VL.oRepT, VL.oRepL, S__law_same]
      exact ⟨by decide, ok_three 5 _, ⟨_, rfl⟩, by omega, by omega⟩
    · rintro ρ ⟨a, c, c4, c5, c6, c7, c8, c9, rfl, _, _⟩
      exact ⟨_, _, _, _, _, _, _, _, _, rfl⟩
  · rintro ρ ⟨c1, c2, c3, c4, c5, c6, c7, c8, c9, rfl⟩
    rw [hk]
    simp only [VL.wSeq, VL.wNext, VL.wNever, VL.wAsg, VL.wSet, VL.wVar, VL.wFrz, VL.wC, VL.wOp, VL.wTest, VL.wNotT, VL.wAndT, VL.wOrT, VL.wAnd, VL.wOr, VL.wNot, VL.wIf, VL.wNil, VL.wCons, VL.wTup, VL.wLst, VL.wStay, VL.wNew, VL.wPar, VL.wAug, VL.wDrop, VL.wRet, VL.wRetN, VL.wRet0, VL.wIfS, VL.wBrk, VL.wCnt, VL.wGt, VL.wGs, VL.wCB, VL.wCBN, VL.wCall, VL.wCallN, VL.wCallIo, VL.wCallIoN, VL.wCallK, VL.wIsi, VL.wIsi2, VL.wApp, VL.wExt, VL.wIns, VL.wSetIt, VL.wNoPart, VL.wPart, VL.wSl, VL.wSlN, VL.wChain, VL.wNeg, VL.wDnew, VL.wDput, VL.wDget, VL.wDin, VL.wDnin, VL.wIndex, VL.wRev, VL.wParNE, VL.wParEN, VL.wPar3, VL.wYes, VL.wSeqOf, VL.wRng1, VL.wRng2, VL.oI, VL.oI0, VL.oLt, VL.oLe, VL.oGt, VL.oGe, VL.oSub, VL.oMul, VL.oFdiv, VL.oMod, VL.oPow, VL.oShl', VL.oAbs, VL.oMax2, VL.oMin2, VL.oGcd, VL.atI_0, VL.atI_1, VL.atI_2, VL.ixN_20, VL.ixN_21, and_assoc, VL.shp_int, VL.shp_bool, VL.shp_none, VL.eqv_int, VL.eqv_bool, VL.isiD, VL.tyD, String.reduceBEq, Bool.not_true, Bool.not_false, Bool.and_true, Bool.and_false, Bool.true_and, Bool.false_and, Bool.or_true, Bool.or_false, Bool.true_or, Bool.false_or, decide_true, decide_false, Bool.not_eq_true', Bool.not_eq_eq_eq_not, decide_eq_true_eq, decide_eq_false_iff_not, VL.oInt1, VL.oInt2, VL.oLen, VL.oToInt, VL.oAdd, VL.oEq, VL.oNe, VL.oIsN, VL.oIn, VL.itemD, VL.isN, VL.der, VL.ders, VL.dats, VL.ioA, VL.endsV, VL.retE, VL.keepC, Option.map, List.range_succ, List.range_zero, List.map_cons, List.map_nil, List.map_append, List.nil_append, List.cons_append, List.append_nil, List.replicate_zero, List.replicate_succ, List.length_cons, List.length_nil, Nat.sub_self, List.getElem?_cons_zero, List.getElem?_cons_succ, List.set_cons_zero, List.set_cons_succ, Option.some.injEq, exists_eq_left', exists_eq_left, exists_eq_right, exists_and_left, exists_and_right, and_true, true_and, CV.d.injEq, CV.loc.injEq, Cell.lst.injEq, Cell.dat.injEq, Cell.dic.injEq, PyData.int.injEq, PyData.bool.injEq, PyData.list.injEq, PyData.tuple.injEq, PyData.str.injEq, reduceCtorEq, false_and, and_false, exists_false, false_or, or_false, if_true, if_false, reduceIte, Bool.false_eq_true, Nat.reduceAdd, Nat.reduceSub, Nat.succ_sub_succ, Nat.zero_add, VL.gP, List.filterMap_cons, List.filterMap_nil, List.cons.injEq, VL.wDisp0, VL.wDisp, VL.wPairs, VL.oLcm, VL.wPop, VL.wRevM, VL.wClearM, VL.wTupRg, VL.wListRg, VL.wR1, VL.wR2, VL.wRevN, VL.oRepT, VL.oRepL]
    exact h
theorem law_top (ns : List Int) (h : ns.length ≤ 63) : S_law [.dat (.list (ns.map .int))] fun rv _ => rv = .d (.bool true) := ⟨ns, rfl, h, rfl⟩
end K35
end
section
set_option autoImplicit false
set_option maxRecDepth 100000
set_option maxHeartbeats 4000000
namespace K35
open PySem PySem.Spec PyProof.Rows L2 VL
section
variable {P : Program} {w : World} {K : PySem.W.Frag} {mg : Str → Option Value} {base : Heap} {ts : List Addr}
theorem ok__law_well {fa : Addr} {fd : FuncData} (F : Fun K "_law_well" "_law_well" s__law_well fa fd) (hm : mg "_law_well" = some (.ref fa)) (T : Tx mg) : FOk P w K ts mg base 1 2 "_law_well" fa fd ["script", "place"] S__law_well :=
  ⟨fnV F sc__law_well rfl (by decide) (fun cdv A outer s H E as hr => d__law_well T  hr) h__law_well, hm, F.kp, F.binds (ps := ["script", "place"]) fun _ _ _ _ _ _ us hl => match us, hl with | [_, _], _ => rfl⟩
theorem ok__law_dip {fa : Addr} {fd : FuncData} (F : Fun K "_law_dip" "_law_dip" s__law_dip fa fd) (hm : mg "_law_dip" = some (.ref fa)) (T : Tx mg) : FOk P w K ts mg base 1 2 "_law_dip" fa fd ["well", "upto"] S__law_dip :=
  ⟨fnV F sc__law_dip rfl (by decide) (fun cdv A outer s H E as hr => d__law_dip T  hr) h__law_dip, hm, F.kp, F.binds (ps := ["well", "upto"]) fun _ _ _ _ _ _ us hl => match us, hl with | [_, _], _ => rfl⟩
theorem ok__law_low {fa : Addr} {fd : FuncData} (F : Fun K "_law_low" "_law_low" s__law_low fa fd) (hm : mg "_law_low" = some (.ref fa)) (T : Tx mg) : FOk P w K ts mg base 1 2 "_law_low" fa fd ["top", "bottom"] S__law_low :=
  ⟨fnV F sc__law_low rfl (by decide) (fun cdv A outer s H E as hr => d__law_low T  hr) h__law_low, hm, F.kp, F.binds (ps := ["top", "bottom"]) fun _ _ _ _ _ _ us hl => match us, hl with | [_, _], _ => rfl⟩
theorem ok__law_rows {fa : Addr} {fd : FuncData} (F : Fun K "_law_rows" "_law_rows" s__law_rows fa fd) (hm : mg "_law_rows" = some (.ref fa)) (T : Tx mg) : FOk P w K ts mg base 1 1 "_law_rows" fa fd ["n"] S__law_rows :=
  ⟨fnV F sc__law_rows rfl (by decide) (fun cdv A outer s H E as hr => d__law_rows T  hr) h__law_rows, hm, F.kp, F.binds (ps := ["n"]) fun _ _ _ _ _ _ us hl => match us, hl with | [_], _ => rfl⟩
theorem ok__law_power {fa : Addr} {fd : FuncData} (F : Fun K "_law_power" "_law_power" s__law_power fa fd) (hm : mg "_law_power" = some (.ref fa)) (T : Tx mg) : FOk P w K ts mg base 1 2 "_law_power" fa fd ["b", "n"] S__law_power :=
  ⟨fnV F sc__law_power rfl (by decide) (fun cdv A outer s H E as hr => d__law_power T  hr) h__law_power, hm, F.kp, F.binds (ps := ["b", "n"]) fun _ _ _ _ _ _ us hl => match us, hl with | [_, _], _ => rfl⟩
theorem ok__law_best {fa : Addr} {fd : FuncData} (F : Fun K "_law_best" "_law_best" s__law_best fa fd) (hm : mg "_law_best" = some (.ref fa)) (T : Tx mg) : FOk P w K ts mg base 1 1 "_law_best" fa fd ["rows"] S__law_best :=
  ⟨fnV F sc__law_best rfl (by decide) (fun cdv A outer s H E as hr => d__law_best T  hr) h__law_best, hm, F.kp, F.binds (ps := ["rows"]) fun _ _ _ _ _ _ us hl => match us, hl with | [_], _ => rfl⟩
theorem ok__law_mean {fa : Addr} {fd : FuncData} (F : Fun K "_law_mean" "_law_mean" s__law_mean fa fd) (hm : mg "_law_mean" = some (.ref fa)) (T : Tx mg) {f__law_low : Addr} {fd__law_low : FuncData} (c__law_low : FOk P w K ts mg base 1 2 "_law_low" f__law_low fd__law_low ["top", "bottom"] S__law_low) {f__law_rows : Addr} {fd__law_rows : FuncData} (c__law_rows : FOk P w K ts mg base 1 1 "_law_rows" f__law_rows fd__law_rows ["n"] S__law_rows) {f__law_power : Addr} {fd__law_power : FuncData} (c__law_power : FOk P w K ts mg base 1 2 "_law_power" f__law_power fd__law_power ["b", "n"] S__law_power) {f__law_best : Addr} {fd__law_best : FuncData} (c__law_best : FOk P w K ts mg base 1 1 "_law_best" f__law_best fd__law_best ["rows"] S__law_best) : FOk P w K ts mg base 2 2 "_law_mean" fa fd ["n", "share"] S__law_mean :=
  ⟨fnV F sc__law_mean rfl (by decide) (fun cdv A outer s H E as hr => d__law_mean T c__law_low c__law_rows c__law_power c__law_best hr) h__law_mean, hm, F.kp, F.binds (ps := ["n", "share"]) fun _ _ _ _ _ _ us hl => match us, hl with | [_, _], _ => rfl⟩
theorem ok_is_integer {fa : Addr} {fd : FuncData} (F : Fun K "is_integer" "is_integer" s_is_integer fa fd) (hm : mg "is_integer" = some (.ref fa)) (T : Tx mg) : FOk P w K ts mg base 1 1 "is_integer" fa fd ["told"] S_is_integer :=
  ⟨fnV F sc_is_integer rfl (by decide) (fun cdv A outer s H E as hr => d_is_integer T  hr) h_is_integer, hm, F.kp, F.binds (ps := ["told"]) fun _ _ _ _ _ _ us hl => match us, hl with | [_], _ => rfl⟩
theorem ok_is_integer_from {fa : Addr} {fd : FuncData} (F : Fun K "is_integer_from" "is_integer_from" s_is_integer_from fa fd) (hm : mg "is_integer_from" = some (.ref fa)) (T : Tx mg) {f_is_integer : Addr} {fd_is_integer : FuncData} (c_is_integer : FOk P w K ts mg base 1 1 "is_integer" f_is_integer fd_is_integer ["told"] S_is_integer) : FOk P w K ts mg base 2 2 "is_integer_from" fa fd ["told", "least"] S_is_integer_from :=
  ⟨fnV F sc_is_integer_from rfl (by decide) (fun cdv A outer s H E as hr => d_is_integer_from T c_is_integer hr) h_is_integer_from, hm, F.kp, F.binds (ps := ["told", "least"]) fun _ _ _ _ _ _ us hl => match us, hl with | [_, _], _ => rfl⟩
theorem ok_check_count {fa : Addr} {fd : FuncData} (F : Fun K "check_count" "check_count" s_check_count fa fd) (hm : mg "check_count" = some (.ref fa)) (T : Tx mg) {f_is_integer_from : Addr} {fd_is_integer_from : FuncData} (c_is_integer_from : FOk P w K ts mg base 2 2 "is_integer_from" f_is_integer_from fd_is_integer_from ["told", "least"] S_is_integer_from) : FOk P w K ts mg base 3 1 "check_count" fa fd ["told"] S_check_count :=
  ⟨fnV F sc_check_count rfl (by decide) (fun cdv A outer s H E as hr => d_check_count T c_is_integer_from hr) h_check_count, hm, F.kp, F.binds (ps := ["told"]) fun _ _ _ _ _ _ us hl => match us, hl with | [_], _ => rfl⟩
theorem ok_lowest {fa : Addr} {fd : FuncData} (F : Fun K "lowest" "lowest" s_lowest fa fd) (hm : mg "lowest" = some (.ref fa)) (T : Tx mg) : FOk P w K ts mg base 1 2 "lowest" fa fd ["top", "bottom"] S_lowest :=
  ⟨fnV F sc_lowest rfl (by decide) (fun cdv A outer s H E as hr => d_lowest T  hr) h_lowest, hm, F.kp, F.binds (ps := ["top", "bottom"]) fun _ _ _ _ _ _ us hl => match us, hl with | [_, _], _ => rfl⟩
theorem ok_stretches_of {fa : Addr} {fd : FuncData} (F : Fun K "stretches_of" "stretches_of" s_stretches_of fa fd) (hm : mg "stretches_of" = some (.ref fa)) (T : Tx mg) : FOk P w K ts mg base 1 1 "stretches_of" fa fd ["many"] S_stretches_of :=
  ⟨fnV F sc_stretches_of rfl (by decide) (fun cdv A outer s H E as hr => d_stretches_of T  hr) h_stretches_of, hm, F.kp, F.binds (ps := ["many"]) fun _ _ _ _ _ _ us hl => match us, hl with | [_], _ => rfl⟩
theorem ok_most {fa : Addr} {fd : FuncData} (F : Fun K "most" "most" s_most fa fd) (hm : mg "most" = some (.ref fa)) (T : Tx mg) {cdv : Value} (FC : FunC K "most" "most" s_most fa fd cdv) {c_ P_ : Addr} (G : GxD base mg ts cdv c_ P_) {f_check_count : Addr} {fd_check_count : FuncData} (c_check_count : FOk P w K ts mg base 3 1 "check_count" f_check_count fd_check_count ["told"] S_check_count) {f_stretches_of : Addr} {fd_stretches_of : FuncData} (c_stretches_of : FOk P w K ts mg base 1 1 "stretches_of" f_stretches_of fd_stretches_of ["many"] S_stretches_of) : FOk P w K ts mg base 5 1 "most" fa fd ["n"] S_most :=
  ⟨fnVC FC sc_most rfl (by decide) (fun A outer s H E as hr => d_most T G c_check_count c_stretches_of hr) h_most, hm, F.kp, F.binds (ps := ["n"]) fun _ _ _ _ _ _ us hl => match us, hl with | [_], _ => rfl⟩
theorem ok_power {fa : Addr} {fd : FuncData} (F : Fun K "power" "power" s_power fa fd) (hm : mg "power" = some (.ref fa)) (T : Tx mg) : FOk P w K ts mg base 1 2 "power" fa fd ["base", "exponent"] S_power :=
  ⟨fnV F sc_power rfl (by decide) (fun cdv A outer s H E as hr => d_power T  hr) h_power, hm, F.kp, F.binds (ps := ["base", "exponent"]) fun _ _ _ _ _ _ us hl => match us, hl with | [_, _], _ => rfl⟩
theorem ok_is_number {fa : Addr} {fd : FuncData} (F : Fun K "is_number" "is_number" s_is_number fa fd) (hm : mg "is_number" = some (.ref fa)) (T : Tx mg) {f_is_integer : Addr} {fd_is_integer : FuncData} (c_is_integer : FOk P w K ts mg base 1 1 "is_integer" f_is_integer fd_is_integer ["told"] S_is_integer) {f_is_integer_from : Addr} {fd_is_integer_from : FuncData} (c_is_integer_from : FOk P w K ts mg base 2 2 "is_integer_from" f_is_integer_from fd_is_integer_from ["told", "least"] S_is_integer_from) {f_lowest : Addr} {fd_lowest : FuncData} (c_lowest : FOk P w K ts mg base 1 2 "lowest" f_lowest fd_lowest ["top", "bottom"] S_lowest) : FOk P w K ts mg base 3 1 "is_number" fa fd ["told"] S_is_number :=
  ⟨fnV F sc_is_number rfl (by decide) (fun cdv A outer s H E as hr => d_is_number T c_is_integer c_is_integer_from c_lowest hr) h_is_number, hm, F.kp, F.binds (ps := ["told"]) fun _ _ _ _ _ _ us hl => match us, hl with | [_], _ => rfl⟩
theorem ok_mean_out {fa : Addr} {fd : FuncData} (F : Fun K "mean_out" "mean_out" s_mean_out fa fd) (hm : mg "mean_out" = some (.ref fa)) (T : Tx mg) {f_check_count : Addr} {fd_check_count : FuncData} (c_check_count : FOk P w K ts mg base 3 1 "check_count" f_check_count fd_check_count ["told"] S_check_count) {f_lowest : Addr} {fd_lowest : FuncData} (c_lowest : FOk P w K ts mg base 1 2 "lowest" f_lowest fd_lowest ["top", "bottom"] S_lowest) {f_most : Addr} {fd_most : FuncData} (c_most : FOk P w K ts mg base 5 1 "most" f_most fd_most ["n"] S_most) {f_power : Addr} {fd_power : FuncData} (c_power : FOk P w K ts mg base 1 2 "power" f_power fd_power ["base", "exponent"] S_power) {f_is_number : Addr} {fd_is_number : FuncData} (c_is_number : FOk P w K ts mg base 3 1 "is_number" f_is_number fd_is_number ["told"] S_is_number) : FOk P w K ts mg base 6 2 "mean_out" fa fd ["n", "share"] S_mean_out :=
  ⟨fnV F sc_mean_out rfl (by decide) (fun cdv A outer s H E as hr => d_mean_out T c_check_count c_lowest c_most c_power c_is_number hr) h_mean_out, hm, F.kp, F.binds (ps := ["n", "share"]) fun _ _ _ _ _ _ us hl => match us, hl with | [_, _], _ => rfl⟩
theorem ok__law_same {fa : Addr} {fd : FuncData} (F : Fun K "_law_same" "_law_same" s__law_same fa fd) (hm : mg "_law_same" = some (.ref fa)) (T : Tx mg) : ∀ j : Nat, FOk P w K ts mg base (1 + j) 2 "_law_same" fa fd ["told", "due"] (S__law_same j)
  | 0 => ⟨no_spec F sc__law_same rfl (by decide) (fun ρ Q h => z__law_same h), hm, F.kp, F.binds (ps := ["told", "due"]) fun _ _ _ _ _ _ us hl => match us, hl with | [_, _], _ => rfl⟩
  | j + 1 => by
    have c__law_same := ok__law_same F hm T  j
    exact ⟨fnV F sc__law_same rfl (by decide) (fun cdv A outer s H E as hr => d__law_same T c__law_same hr) (h__law_same j), hm, F.kp, F.binds (ps := ["told", "due"]) fun _ _ _ _ _ _ us hl => match us, hl with | [_, _], _ => rfl⟩
theorem ok_law {fa : Addr} {fd : FuncData} (F : Fun K "law" "law" s_law fa fd) (hm : mg "law" = some (.ref fa)) (T : Tx mg) {f__law_well : Addr} {fd__law_well : FuncData} (c__law_well : FOk P w K ts mg base 1 2 "_law_well" f__law_well fd__law_well ["script", "place"] S__law_well) {f__law_dip : Addr} {fd__law_dip : FuncData} (c__law_dip : FOk P w K ts mg base 1 2 "_law_dip" f__law_dip fd__law_dip ["well", "upto"] S__law_dip) {f__law_low : Addr} {fd__law_low : FuncData} (c__law_low : FOk P w K ts mg base 1 2 "_law_low" f__law_low fd__law_low ["top", "bottom"] S__law_low) {f__law_mean : Addr} {fd__law_mean : FuncData} (c__law_mean : FOk P w K ts mg base 2 2 "_law_mean" f__law_mean fd__law_mean ["n", "share"] S__law_mean) {f_mean_out : Addr} {fd_mean_out : FuncData} (c_mean_out : FOk P w K ts mg base 6 2 "mean_out" f_mean_out fd_mean_out ["n", "share"] S_mean_out) {f__law_same : Addr} {fd__law_same : FuncData} (c__law_same : FOk P w K ts mg base 9 2 "_law_same" f__law_same fd__law_same ["told", "due"] (S__law_same 8)) (kw_mean_out_0_share_n : KwB K fd_mean_out ["n", "share"] 0 ["share", "n"] [1, 0]) : FOk P w K ts mg base 10 1 "law" fa fd ["script"] S_law :=
  ⟨fnV F sc_law rfl (by decide) (fun cdv A outer s H E as hr => d_law T c__law_well c__law_dip c__law_low c__law_mean c_mean_out c__law_same kw_mean_out_0_share_n hr) h_law, hm, F.kp, F.binds (ps := ["script"]) fun _ _ _ _ _ _ us hl => match us, hl with | [_], _ => rfl⟩
end
theorem all_mk {l : PySem.W.OpenLaw} {w : World} {K : PySem.W.Frag} {h : Heap} {mg : Str → Option Value} {fa : Addr} (X : K.In h) (G : h.Ns mainGlobals mg) (hfa : mg "law" = some (.ref fa))
    {od0 an0 : Option Addr} {sl0 : Array (Option Value)} {oc0 kV0 dc0 pm0 cd0 ct0 : Value} {f0 : Addr}
    {od1 an1 : Option Addr} {sl1 : Array (Option Value)} {oc1 kV1 dc1 pm1 cd1 ct1 : Value} {f1 : Addr}
    {od2 an2 : Option Addr} {sl2 : Array (Option Value)} {oc2 kV2 dc2 pm2 cd2 ct2 : Value} {f2 : Addr}
    {od3 an3 : Option Addr} {sl3 : Array (Option Value)} {oc3 kV3 dc3 pm3 cd3 ct3 : Value} {f3 : Addr}
    {od4 an4 : Option Addr} {sl4 : Array (Option Value)} {oc4 kV4 dc4 pm4 cd4 ct4 : Value} {f4 : Addr}
    {od5 an5 : Option Addr} {sl5 : Array (Option Value)} {oc5 kV5 dc5 pm5 cd5 ct5 : Value} {f5 : Addr}
    {od6 an6 : Option Addr} {sl6 : Array (Option Value)} {oc6 kV6 dc6 pm6 cd6 ct6 : Value} {f6 : Addr}
    {od7 an7 : Option Addr} {sl7 : Array (Option Value)} {oc7 kV7 dc7 pm7 cd7 ct7 : Value} {f7 : Addr}
    {od8 an8 : Option Addr} {sl8 : Array (Option Value)} {oc8 kV8 dc8 pm8 cd8 ct8 : Value} {f8 : Addr}
    {od9 an9 : Option Addr} {sl9 : Array (Option Value)} {oc9 kV9 dc9 pm9 cd9 ct9 : Value} {f9 : Addr}
    {od10 an10 : Option Addr} {sl10 : Array (Option Value)} {oc10 kV10 dc10 pm10 cd10 ct10 : Value} {f10 : Addr}
    {od11 an11 : Option Addr} {sl11 : Array (Option Value)} {oc11 kV11 dc11 pm11 cd11 ct11 : Value} {f11 : Addr}
    {od12 an12 : Option Addr} {sl12 : Array (Option Value)} {oc12 kV12 dc12 pm12 cd12 ct12 : Value} {f12 : Addr}
    {od13 an13 : Option Addr} {sl13 : Array (Option Value)} {oc13 kV13 dc13 pm13 cd13 ct13 : Value} {f13 : Addr}
    {od14 an14 : Option Addr} {sl14 : Array (Option Value)} {oc14 kV14 dc14 pm14 cd14 ct14 : Value} {f14 : Addr}
    {od15 an15 : Option Addr} {sl15 : Array (Option Value)} {oc15 kV15 dc15 pm15 cd15 ct15 : Value} {f15 : Addr}
    {od16 an16 : Option Addr} {sl16 : Array (Option Value)} {oc16 kV16 dc16 pm16 cd16 ct16 : Value} {f16 : Addr}
    {od17 an17 : Option Addr} {sl17 : Array (Option Value)} {oc17 kV17 dc17 pm17 cd17 ct17 : Value} {f17 : Addr}
    (a0 : PySem.W.nsIn K mainGlobals "_law_well" = some (some (.ref f0))) (l0 : K.lookup f0 = some ⟨oc0, od0, .func (PySem.W.fnOf "_law_well" "_law_well" (defArgs s__law_well) (defBody s__law_well) (defScope s__law_well) .none kV0 dc0 pm0 an0 cd0 ct0), sl0⟩) (c0 : PySem.W.codeIn K cd0 "_law_well" = true) (k0 : PySem.W.keepIn K (.ref f0) = true)
    (a1 : PySem.W.nsIn K mainGlobals "_law_dip" = some (some (.ref f1))) (l1 : K.lookup f1 = some ⟨oc1, od1, .func (PySem.W.fnOf "_law_dip" "_law_dip" (defArgs s__law_dip) (defBody s__law_dip) (defScope s__law_dip) .none kV1 dc1 pm1 an1 cd1 ct1), sl1⟩) (c1 : PySem.W.codeIn K cd1 "_law_dip" = true) (k1 : PySem.W.keepIn K (.ref f1) = true)
    (a2 : PySem.W.nsIn K mainGlobals "_law_low" = some (some (.ref f2))) (l2 : K.lookup f2 = some ⟨oc2, od2, .func (PySem.W.fnOf "_law_low" "_law_low" (defArgs s__law_low) (defBody s__law_low) (defScope s__law_low) .none kV2 dc2 pm2 an2 cd2 ct2), sl2⟩) (c2 : PySem.W.codeIn K cd2 "_law_low" = true) (k2 : PySem.W.keepIn K (.ref f2) = true)
    (a3 : PySem.W.nsIn K mainGlobals "_law_rows" = some (some (.ref f3))) (l3 : K.lookup f3 = some ⟨oc3, od3, .func (PySem.W.fnOf "_law_rows" "_law_rows" (defArgs s__law_rows) (defBody s__law_rows) (defScope s__law_rows) .none kV3 dc3 pm3 an3 cd3 ct3), sl3⟩) (c3 : PySem.W.codeIn K cd3 "_law_rows" = true) (k3 : PySem.W.keepIn K (.ref f3) = true)
    (a4 : PySem.W.nsIn K mainGlobals "_law_power" = some (some (.ref f4))) (l4 : K.lookup f4 = some ⟨oc4, od4, .func (PySem.W.fnOf "_law_power" "_law_power" (defArgs s__law_power) (defBody s__law_power) (defScope s__law_power) .none kV4 dc4 pm4 an4 cd4 ct4), sl4⟩) (c4 : PySem.W.codeIn K cd4 "_law_power" = true) (k4 : PySem.W.keepIn K (.ref f4) = true)
    (a5 : PySem.W.nsIn K mainGlobals "_law_best" = some (some (.ref f5))) (l5 : K.lookup f5 = some ⟨oc5, od5, .func (PySem.W.fnOf "_law_best" "_law_best" (defArgs s__law_best) (defBody s__law_best) (defScope s__law_best) .none kV5 dc5 pm5 an5 cd5 ct5), sl5⟩) (c5 : PySem.W.codeIn K cd5 "_law_best" = true) (k5 : PySem.W.keepIn K (.ref f5) = true)
    (a6 : PySem.W.nsIn K mainGlobals "_law_mean" = some (some (.ref f6))) (l6 : K.lookup f6 = some ⟨oc6, od6, .func (PySem.W.fnOf "_law_mean" "_law_mean" (defArgs s__law_mean) (defBody s__law_mean) (defScope s__law_mean) .none kV6 dc6 pm6 an6 cd6 ct6), sl6⟩) (c6 : PySem.W.codeIn K cd6 "_law_mean" = true) (k6 : PySem.W.keepIn K (.ref f6) = true)
    (a7 : PySem.W.nsIn K mainGlobals "is_integer" = some (some (.ref f7))) (l7 : K.lookup f7 = some ⟨oc7, od7, .func (PySem.W.fnOf "is_integer" "is_integer" (defArgs s_is_integer) (defBody s_is_integer) (defScope s_is_integer) .none kV7 dc7 pm7 an7 cd7 ct7), sl7⟩) (c7 : PySem.W.codeIn K cd7 "is_integer" = true) (k7 : PySem.W.keepIn K (.ref f7) = true)
    (a8 : PySem.W.nsIn K mainGlobals "is_integer_from" = some (some (.ref f8))) (l8 : K.lookup f8 = some ⟨oc8, od8, .func (PySem.W.fnOf "is_integer_from" "is_integer_from" (defArgs s_is_integer_from) (defBody s_is_integer_from) (defScope s_is_integer_from) .none kV8 dc8 pm8 an8 cd8 ct8), sl8⟩) (c8 : PySem.W.codeIn K cd8 "is_integer_from" = true) (k8 : PySem.W.keepIn K (.ref f8) = true)
    (a9 : PySem.W.nsIn K mainGlobals "check_count" = some (some (.ref f9))) (l9 : K.lookup f9 = some ⟨oc9, od9, .func (PySem.W.fnOf "check_count" "check_count" (defArgs s_check_count) (defBody s_check_count) (defScope s_check_count) .none kV9 dc9 pm9 an9 cd9 ct9), sl9⟩) (c9 : PySem.W.codeIn K cd9 "check_count" = true) (k9 : PySem.W.keepIn K (.ref f9) = true)
    (a10 : PySem.W.nsIn K mainGlobals "lowest" = some (some (.ref f10))) (l10 : K.lookup f10 = some ⟨oc10, od10, .func (PySem.W.fnOf "lowest" "lowest" (defArgs s_lowest) (defBody s_lowest) (defScope s_lowest) .none kV10 dc10 pm10 an10 cd10 ct10), sl10⟩) (c10 : PySem.W.codeIn K cd10 "lowest" = true) (k10 : PySem.W.keepIn K (.ref f10) = true)
    (a11 : PySem.W.nsIn K mainGlobals "stretches_of" = some (some (.ref f11))) (l11 : K.lookup f11 = some ⟨oc11, od11, .func (PySem.W.fnOf "stretches_of" "stretches_of" (defArgs s_stretches_of) (defBody s_stretches_of) (defScope s_stretches_of) .none kV11 dc11 pm11 an11 cd11 ct11), sl11⟩) (c11 : PySem.W.codeIn K cd11 "stretches_of" = true) (k11 : PySem.W.keepIn K (.ref f11) = true)
    (a12 : PySem.W.nsIn K mainGlobals "most" = some (some (.ref f12))) (l12 : K.lookup f12 = some ⟨oc12, od12, .func (PySem.W.fnOf "most" "most" (defArgs s_most) (defBody s_most) (defScope s_most) .none kV12 dc12 pm12 an12 cd12 ct12), sl12⟩) (c12 : PySem.W.codeIn K cd12 "most" = true) (k12 : PySem.W.keepIn K (.ref f12) = true) {tc12 tp12 : Addr} {ve12 : Value} {vd12 : Option Addr} {vv12 : Array Value} {vs12 : Array (Option Value)} (e12 : cd12 = .ref tc12) (m12 : K.lookup tc12 = some ⟨ve12, vd12, .fields vv12, vs12⟩) (v12 : vv12[11]? = some (.ref tp12)) (n12 : K.lookup tp12 = none)
    (a13 : PySem.W.nsIn K mainGlobals "power" = some (some (.ref f13))) (l13 : K.lookup f13 = some ⟨oc13, od13, .func (PySem.W.fnOf "power" "power" (defArgs s_power) (defBody s_power) (defScope s_power) .none kV13 dc13 pm13 an13 cd13 ct13), sl13⟩) (c13 : PySem.W.codeIn K cd13 "power" = true) (k13 : PySem.W.keepIn K (.ref f13) = true)
    (a14 : PySem.W.nsIn K mainGlobals "is_number" = some (some (.ref f14))) (l14 : K.lookup f14 = some ⟨oc14, od14, .func (PySem.W.fnOf "is_number" "is_number" (defArgs s_is_number) (defBody s_is_number) (defScope s_is_number) .none kV14 dc14 pm14 an14 cd14 ct14), sl14⟩) (c14 : PySem.W.codeIn K cd14 "is_number" = true) (k14 : PySem.W.keepIn K (.ref f14) = true)
    (a15 : PySem.W.nsIn K mainGlobals "mean_out" = some (some (.ref f15))) (l15 : K.lookup f15 = some ⟨oc15, od15, .func (PySem.W.fnOf "mean_out" "mean_out" (defArgs s_mean_out) (defBody s_mean_out) (defScope s_mean_out) .none kV15 dc15 pm15 an15 cd15 ct15), sl15⟩) (c15 : PySem.W.codeIn K cd15 "mean_out" = true) (k15 : PySem.W.keepIn K (.ref f15) = true)
    (a16 : PySem.W.nsIn K mainGlobals "_law_same" = some (some (.ref f16))) (l16 : K.lookup f16 = some ⟨oc16, od16, .func (PySem.W.fnOf "_law_same" "_law_same" (defArgs s__law_same) (defBody s__law_same) (defScope s__law_same) .none kV16 dc16 pm16 an16 cd16 ct16), sl16⟩) (c16 : PySem.W.codeIn K cd16 "_law_same" = true) (k16 : PySem.W.keepIn K (.ref f16) = true)
    (a17 : PySem.W.nsIn K mainGlobals "law" = some (some (.ref f17))) (l17 : K.lookup f17 = some ⟨oc17, od17, .func (PySem.W.fnOf "law" "law" (defArgs s_law) (defBody s_law) (defScope s_law) .none kV17 dc17 pm17 an17 cd17 ct17), sl17⟩) (c17 : PySem.W.codeIn K cd17 "law" = true) (k17 : PySem.W.keepIn K (.ref f17) = true)
    (z_abs : PySem.W.nsIn K mainGlobals "abs" = some none)
    (z_bool : PySem.W.nsIn K mainGlobals "bool" = some none)
    (z_comb : PySem.W.nsIn K mainGlobals "comb" = some (some (.builtin "math.comb")))
    (z_enumerate : PySem.W.nsIn K mainGlobals "enumerate" = some none)
    (z_gcd : PySem.W.nsIn K mainGlobals "gcd" = some (some (.builtin "math.gcd")))
    (z_int : PySem.W.nsIn K mainGlobals "int" = some none)
    (z_isinstance : PySem.W.nsIn K mainGlobals "isinstance" = some none)
    (z_len : PySem.W.nsIn K mainGlobals "len" = some none)
    (z_list : PySem.W.nsIn K mainGlobals "list" = some none)
    (z_max : PySem.W.nsIn K mainGlobals "max" = some none)
    (z_min : PySem.W.nsIn K mainGlobals "min" = some none)
    (z_range : PySem.W.nsIn K mainGlobals "range" = some none)
    (z_reversed : PySem.W.nsIn K mainGlobals "reversed" = some none)
    (z_str : PySem.W.nsIn K mainGlobals "str" = some none)
    (z_sum : PySem.W.nsIn K mainGlobals "sum" = some none)
    (z_tuple : PySem.W.nsIn K mainGlobals "tuple" = some none)
    : ∃ (cs : List (Addr × Addr)) (fd : FuncData), (∀ p ∈ cs, (∃ y ∈ (["most"] : List Str), PySem.W.tabIn K y = some p) ∧ K.lookup p.2 = none) ∧ (∀ (s : Shared) (v : Value), BindsTo s fd ⟨[v], []⟩ [("script", v)]) ∧ ∀ base : Heap, K.In base → base.Ns mainGlobals mg → (∀ p ∈ cs, GxR.TabB base mg p.1 p.2) → FnOk l.prog w K mg base CX0 10 fa fd ["script"] (spV K (cs.map (·.2)) 1 S_law) := by
  have t12 := VL.tab_mk a12 l12 e12 m12 v12
  have e := hfa.symm.trans (PySem.W.mg_of X G a17)
  cases e
  have F__law_well := fun_mk (st := s__law_well) l0 c0 k0
  have F__law_dip := fun_mk (st := s__law_dip) l1 c1 k1
  have F__law_low := fun_mk (st := s__law_low) l2 c2 k2
  have F__law_rows := fun_mk (st := s__law_rows) l3 c3 k3
  have F__law_power := fun_mk (st := s__law_power) l4 c4 k4
  have F__law_best := fun_mk (st := s__law_best) l5 c5 k5
  have F__law_mean := fun_mk (st := s__law_mean) l6 c6 k6
  have F_is_integer := fun_mk (st := s_is_integer) l7 c7 k7
  have F_is_integer_from := fun_mk (st := s_is_integer_from) l8 c8 k8
  have F_check_count := fun_mk (st := s_check_count) l9 c9 k9
  have F_lowest := fun_mk (st := s_lowest) l10 c10 k10
  have F_stretches_of := fun_mk (st := s_stretches_of) l11 c11 k11
  have F_most := fun_mk (st := s_most) l12 c12 k12
  have F_power := fun_mk (st := s_power) l13 c13 k13
  have F_is_number := fun_mk (st := s_is_number) l14 c14 k14
  have F_mean_out := fun_mk (st := s_mean_out) l15 c15 k15
  have F__law_same := fun_mk (st := s__law_same) l16 c16 k16
  have F_law := fun_mk (st := s_law) l17 c17 k17
  have T : Tx mg := ⟨PySem.W.mg_none_of X G z_abs, PySem.W.mg_none_of X G z_bool, PySem.W.mg_of X G z_comb, PySem.W.mg_none_of X G z_enumerate, PySem.W.mg_of X G z_gcd, PySem.W.mg_none_of X G z_int, PySem.W.mg_none_of X G z_isinstance, PySem.W.mg_none_of X G z_len, PySem.W.mg_none_of X G z_list, PySem.W.mg_none_of X G z_max, PySem.W.mg_none_of X G z_min, PySem.W.mg_none_of X G z_range, PySem.W.mg_none_of X G z_reversed, PySem.W.mg_none_of X G z_str, PySem.W.mg_none_of X G z_sum, PySem.W.mg_none_of X G z_tuple⟩
  have kw_mean_out_0_share_n := kw_of (ps := ["n", "share"]) (ks := ["share", "n"]) (n := 0) (pm := [1, 0]) F_mean_out fun _ _ _ _ _ _ us ws h1 h2 => match us, h1, ws, h2 with | [], _, [_, _], _ => rfl
  refine ⟨[(tc12, tp12)], PySem.W.fnOf "law" "law" (defArgs s_law) (defBody s_law) (defScope s_law) .none kV17 dc17 pm17 an17 cd17 ct17, fun p hp => ?_, fun s v => .of_eq rfl, fun base hb nb TBs => ?_⟩
  · simp only [List.mem_cons, List.not_mem_nil, or_false] at hp
    subst hp
    exact ⟨⟨_, by simp, t12⟩, n12⟩
  have tsd : ([(tc12, tp12)] : List (Addr × Addr)).map (·.2) = [tp12] := rfl
  have c__law_well := ok__law_well (P := l.prog) (w := w) (base := base) (ts := ([(tc12, tp12)] : List (Addr × Addr)).map (·.2)) F__law_well (PySem.W.mg_of X G a0) T 
  have c__law_dip := ok__law_dip (P := l.prog) (w := w) (base := base) (ts := ([(tc12, tp12)] : List (Addr × Addr)).map (·.2)) F__law_dip (PySem.W.mg_of X G a1) T 
  have c__law_low := ok__law_low (P := l.prog) (w := w) (base := base) (ts := ([(tc12, tp12)] : List (Addr × Addr)).map (·.2)) F__law_low (PySem.W.mg_of X G a2) T 
  have c__law_rows := ok__law_rows (P := l.prog) (w := w) (base := base) (ts := ([(tc12, tp12)] : List (Addr × Addr)).map (·.2)) F__law_rows (PySem.W.mg_of X G a3) T 
  have c__law_power := ok__law_power (P := l.prog) (w := w) (base := base) (ts := ([(tc12, tp12)] : List (Addr × Addr)).map (·.2)) F__law_power (PySem.W.mg_of X G a4) T 
  have c__law_best := ok__law_best (P := l.prog) (w := w) (base := base) (ts := ([(tc12, tp12)] : List (Addr × Addr)).map (·.2)) F__law_best (PySem.W.mg_of X G a5) T 
  have c__law_mean := ok__law_mean (P := l.prog) (w := w) (base := base) (ts := ([(tc12, tp12)] : List (Addr × Addr)).map (·.2)) F__law_mean (PySem.W.mg_of X G a6) T c__law_low c__law_rows c__law_power c__law_best
  have c_is_integer := ok_is_integer (P := l.prog) (w := w) (base := base) (ts := ([(tc12, tp12)] : List (Addr × Addr)).map (·.2)) F_is_integer (PySem.W.mg_of X G a7) T 
  have c_is_integer_from := ok_is_integer_from (P := l.prog) (w := w) (base := base) (ts := ([(tc12, tp12)] : List (Addr × Addr)).map (·.2)) F_is_integer_from (PySem.W.mg_of X G a8) T c_is_integer
  have c_check_count := ok_check_count (P := l.prog) (w := w) (base := base) (ts := ([(tc12, tp12)] : List (Addr × Addr)).map (·.2)) F_check_count (PySem.W.mg_of X G a9) T c_is_integer_from
  have c_lowest := ok_lowest (P := l.prog) (w := w) (base := base) (ts := ([(tc12, tp12)] : List (Addr × Addr)).map (·.2)) F_lowest (PySem.W.mg_of X G a10) T 
  have c_stretches_of := ok_stretches_of (P := l.prog) (w := w) (base := base) (ts := ([(tc12, tp12)] : List (Addr × Addr)).map (·.2)) F_stretches_of (PySem.W.mg_of X G a11) T 
  have c_most := ok_most (P := l.prog) (w := w) (base := base) (ts := ([(tc12, tp12)] : List (Addr × Addr)).map (·.2)) F_most (PySem.W.mg_of X G a12) T ⟨_, _, _, _, _, _, _, _, rfl, l12, c12⟩ ⟨by simp, TBs (tc12, tp12) (by simp), tab_cd a12 l12 t12⟩ c_check_count c_stretches_of
  have c_power := ok_power (P := l.prog) (w := w) (base := base) (ts := ([(tc12, tp12)] : List (Addr × Addr)).map (·.2)) F_power (PySem.W.mg_of X G a13) T 
  have c_is_number := ok_is_number (P := l.prog) (w := w) (base := base) (ts := ([(tc12, tp12)] : List (Addr × Addr)).map (·.2)) F_is_number (PySem.W.mg_of X G a14) T c_is_integer c_is_integer_from c_lowest
  have c_mean_out := ok_mean_out (P := l.prog) (w := w) (base := base) (ts := ([(tc12, tp12)] : List (Addr × Addr)).map (·.2)) F_mean_out (PySem.W.mg_of X G a15) T c_check_count c_lowest c_most c_power c_is_number
  have c__law_same := ok__law_same (P := l.prog) (w := w) (base := base) (ts := ([(tc12, tp12)] : List (Addr × Addr)).map (·.2)) F__law_same (PySem.W.mg_of X G a16) T  8
  have c_law := ok_law (P := l.prog) (w := w) (base := base) (ts := ([(tc12, tp12)] : List (Addr × Addr)).map (·.2)) F_law (PySem.W.mg_of X G a17) T c__law_well c__law_dip c__law_low c__law_mean c_mean_out c__law_same kw_mean_out_0_share_n
  exact c_law.fn
end K35
open PySem PySem.W PyProof.Rows
set_option maxHeartbeats 0 in
theorem PySem.Challenge.cw_tosstrees_k35_whole_means_of_a_crooked_c_holds : PySem.Challenge.rw_tosstrees_k35_whole_means_of_a_crooked_c.Holds := by
  w_on; o_law; k_head; (case hw => w_witness2)
  k_fill
  refine VL.walk_ofG (l := PySem.Challenge.rw_tosstrees_k35_whole_means_of_a_crooked_c) (n := 63) (k := 10) (x := "script") (xs := ["most"]) (S := K35.S_law) rfl (by decide) rfl ⟨rfl, by decide, by decide⟩ (by decide +kernel) (fun w h Y => PySem.W.kIn_of Y) ?F (fun ns hl => K35.law_top ns hl)
  case F =>
    intro w mg fa h KX G hmg
    refine' K35.all_mk KX G hmg ?a0 ?l0 ?c0 ?k0 ?a1 ?l1 ?c1 ?k1 ?a2 ?l2 ?c2 ?k2 ?a3 ?l3 ?c3 ?k3 ?a4 ?l4 ?c4 ?k4 ?a5 ?l5 ?c5 ?k5 ?a6 ?l6 ?c6 ?k6 ?a7 ?l7 ?c7 ?k7 ?a8 ?l8 ?c8 ?k8 ?a9 ?l9 ?c9 ?k9 ?a10 ?l10 ?c10 ?k10 ?a11 ?l11 ?c11 ?k11 ?a12 ?l12 ?c12 ?k12 ?e12 ?m12 ?v12 ?n12 ?a13 ?l13 ?c13 ?k13 ?a14 ?l14 ?c14 ?k14 ?a15 ?l15 ?c15 ?k15 ?a16 ?l16 ?c16 ?k16 ?a17 ?l17 ?c17 ?k17 ?z_abs ?z_bool ?z_comb ?z_enumerate ?z_gcd ?z_int ?z_isinstance ?z_len ?z_list ?z_max ?z_min ?z_range ?z_reversed ?z_str ?z_sum ?z_tuple 
    (case a0 => k_is); (case l0 => k_is); (case c0 => k_is); (case k0 => k_is); (case a1 => k_is); (case l1 => k_is); (case c1 => k_is); (case k1 => k_is); (case a2 => k_is); (case l2 => k_is); (case c2 => k_is); (case k2 => k_is); (case a3 => k_is); (case l3 => k_is); (case c3 => k_is); (case k3 => k_is); (case a4 => k_is); (case l4 => k_is); (case c4 => k_is); (case k4 => k_is); (case a5 => k_is); (case l5 => k_is); (case c5 => k_is); (case k5 => k_is); (case a6 => k_is); (case l6 => k_is); (case c6 => k_is); (case k6 => k_is); (case a7 => k_is); (case l7 => k_is); (case c7 => k_is); (case k7 => k_is); (case a8 => k_is); (case l8 => k_is); (case c8 => k_is); (case k8 => k_is); (case a9 => k_is); (case l9 => k_is); (case c9 => k_is); (case k9 => k_is); (case a10 => k_is); (case l10 => k_is); (case c10 => k_is); (case k10 => k_is); (case a11 => k_is); (case l11 => k_is); (case c11 => k_is); (case k11 => k_is); (case a12 => k_is); (case l12 => k_is); (case c12 => k_is); (case k12 => k_is); (case e12 => rfl); (case m12 => k_is); (case v12 => rfl); (case n12 => first | rfl | with_unfolding_all rfl | decide); (case a13 => k_is); (case l13 => k_is); (case c13 => k_is); (case k13 => k_is); (case a14 => k_is); (case l14 => k_is); (case c14 => k_is); (case k14 => k_is); (case a15 => k_is); (case l15 => k_is); (case c15 => k_is); (case k15 => k_is); (case a16 => k_is); (case l16 => k_is); (case c16 => k_is); (case k16 => k_is); (case a17 => k_is); (case l17 => k_is); (case c17 => k_is); (case k17 => k_is)
    (case z_abs => k_is); (case z_bool => k_is); (case z_comb => k_is); (case z_enumerate => k_is); (case z_gcd => k_is); (case z_int => k_is); (case z_isinstance => k_is); (case z_len => k_is); (case z_list => k_is); (case z_max => k_is); (case z_min => k_is); (case z_range => k_is); (case z_reversed => k_is); (case z_str => k_is); (case z_sum => k_is); (case z_tuple => k_is)
end
